import PyProof.Rows.All
import Wide.All
import OpenK.AllK
import Wide.FinOn
import PyProof.EqAt
import PyProof.EqKinds
import PyProof.TupleCall
import KE.BitLaws
import RoofBuilt
import WqajbzNeutral
import KE.KSortTupG
import KE.KLam
import KE.OsGo
import Open.SpecLaws
import PySem.Challenge.RW_rooftold_s10_change
set_option Elab.async false
set_option linter.all false
set_option genSizeOfSpec false
set_option maxRecDepth 100000
set_option maxHeartbeats 4000000
noncomputable section
namespace HP
open PySem PySem.W PyProof.Rows
noncomputable section
noncomputable def tp(i:Nat):Stmt:=PySem.Challenge.pw_rooftold_s10_change.main.body.getD i (.Pass ⟨0,0,0,0⟩)
noncomputable def ic(s:Stmt)(j:Nat):Stmt:=match s with
 | .ClassDef _ _ _ body _ _ _ _ _ _ _=>body.getD j (.Pass ⟨0,0,0,0⟩)
 |_=>.Pass ⟨0,0,0,0⟩
noncomputable def dA(s:Stmt):Arguments:=match s with
 | .FunctionDef _ a _ _ _ _ _ _ _ _=>a
 |_=>{posonlyargs:=[],args:=[],vararg:=none,kwonlyargs:=[],kw_defaults:=[],kwarg:=none,defaults:=[]}
def dB(s:Stmt):List Stmt:=match s with
 | .FunctionDef _ _ b _ _ _ _ _ _ _=>b
 |_=>[]
noncomputable def dS(s:Stmt):Scope:=match s with
 | .FunctionDef _ _ _ _ _ _ sc _ _ _=>sc
 |_=>{kind:=.function,names:=[],isGenerator:=false,isCoroutine:=false}
abbrev fl:String:= "/claim/cut.py"
abbrev vs(s:String)(t:Tok):Value:=.str (Str.ofString s) t
abbrev vi(i:Int)(t:Tok):Value:=.int i t
abbrev vr(a:Addr):Value:=.ref a
noncomputable abbrev eN(P:Params)(s:String)(t:Tok)(v:Value):DictEntry:={hash:=PyData.keyHash P (Str.ofString s),key:=.str (Str.ofString s) t,val:=v}
abbrev oT(l:Array Value):Obj:={cls:=.type "tuple",data:=.seq l}
abbrev oK(l:Array Value):Obj:={cls:=.type "code",data:=.fields l}
noncomputable abbrev oC(n:String)(t:Nat)(l c g:Int)(r:Addr)(x:Int)(r1 r2 r3 r4:Addr)(u:Nat):Obj:=oK #[vs n t,vs n (t+1),vs fl (t+2),vi l 0,vi c 0,vi 0 0,vi 0 0,vi g 0,vr r,.bool true,vi x 0,vr r1,.none,vr r2,vr r3,vr r4,vi u 0,vi l 0,vs fl (u+1)]
noncomputable abbrev oF(n q:String)(s:Stmt)(m:String)(t:Tok)(c:Addr):Obj:={cls:=.type "function",data:=.func (fnOf (Str.ofString n) (Str.ofString q) (dA s) (dB s) (dS s) .none .none .none (vs m t) none (.ref c) .none)}
noncomputable abbrev oG(n q:String)(s:Stmt):Obj:={cls:=.none,data:=.func {name:=Str.ofString n,qualname:=Str.ofString q,params:=dA s,body:=.stmts (dB s),scope:=dS s,globals:=0,closure:=[],defaults:=.none,kwdefaults:=.none}}
noncomputable def o2(P:Params):Obj:={cls:=.none,data:=.dict #[eN P "type.__subclasses__.Exception.0" 328 (vi 110 0),eN P "type.__subclasses__.Exception.n" 329 (vi 5 0),eN P "type.__subclasses__.Exception.1" 348 (vi 123 0),eN P "type.__subclasses__.Exception.2" 368 (vi 136 0),eN P "type.__subclasses__.Exception.3" 388 (vi 149 0),eN P "type.__subclasses__.Exception.4" 408 (vi 162 0)] 6}
noncomputable def o3(P:Params):Obj:={cls:=.type "dict",data:=.dict #[eN P "__name__" 165 (vs "rooftold.desk" 797),eN P "__doc__" 166 .none,eN P "__package__" 167 .none,eN P "__loader__" 168 (.builtin "__main__.__loader__#opaque"),eN P "__spec__" 169 .none,eN P "__annotations__" 170 (vr 6),eN P "__builtins__" 171 (vr 4),eN P "__file__" 173 (vs "/claim/cut.py" 172),eN P "__cached__" 174 .none,eN P "ALL_SIDES" 193 (vr 15),eN P "STEPS" 204 (vr 20),eN P "SIDE_STARTS" 213 (vr 25),eN P "left_of" 220 (vr 32),eN P "opposite" 227 (vr 39),eN P "right_of" 234 (vr 46),eN P "moved" 242 (vr 53),eN P "beyond" 250 (vr 60),eN P "side_start" 258 (vr 67),eN P "side_end" 266 (vr 74),eN P "by_row" 273 (vr 81),eN P "STAYS" 277 (vi 0 276),eN P "CHANGED" 279 (vi 1 278),eN P "NEW" 281 (vi 2 280),eN P "GONE" 283 (vi 3 282),eN P "is_as_before" 289 (vr 86),eN P "lot_of" 298 (vr 93),eN P "change_row" 309 (vr 100),eN P "NoHouse" 331 (vr 110),eN P "OutOfBounds" 351 (vr 123),eN P "Outside" 371 (vr 136),eN P "NoFace" 391 (vr 149),eN P "NoSize" 411 (vr 162),eN P "answer_or_refusal" 418 (vr 172),eN P "LINE_FEED" 422 (vi 10 421),eN P "BLANK" 424 (vi 32 423),eN P "COMMA" 426 (vi 44 425),eN P "DIGIT_ZERO" 428 (vi 48 427),eN P "DIGIT_NINE" 430 (vi 57 429),eN P "GREATEST_NUMBER" 432 (vi 64 431),eN P "MOST_DIGITS" 434 (vi 2 433),eN P "FEWEST_CORNERS" 436 (vi 4 435),eN P "parts_between" 447 (vr 179),eN P "digit_told" 454 (vr 186),eN P "number_told" 463 (vr 193),eN P "corner_told" 469 (vr 198),eN P "walk_told" 475 (vr 203),eN P "walks_told" 481 (vr 208),eN P "CELLS_IN_A_ROW" 485 (vi 64 484),eN P "MOST_CELLS" 487 (vi 256 486),eN P "feet_across_rows" 500 (vr 215),eN P "cells_within" 512 (vr 222),eN P "is_joined" 523 (vr 229),eN P "meets_in_a_point" 534 (vr 236),eN P "is_house" 540 (vr 241),eN P "headings_along_walls" 550 (vr 248),eN P "walk_from" 563 (vr 255),eN P "walks_round" 574 (vr 262),eN P "house_told" 583 (vr 269),eN P "QUARTERS" 594 (vr 274),eN P "HALVES_ABOUT" 617 (vr 283),eN P "HALVES_AT_A_POINT" 630 (vr 288),eN P "half_cells_of" 640 (vr 295),eN P "is_deeper" 649 (vr 302),eN P "depths_of" 655 (vr 307),eN P "height_over" 661 (vr 312),eN P "heights_of" 672 (vr 319),eN P "Roof" 708 (vr 336),eN P "facing_of" 720 (vr 347),eN P "facings_of" 732 (vr 354),eN P "triangle_across" 743 (vr 361),eN P "triangle_on_left" 753 (vr 368),eN P "triangle_on_right" 763 (vr 375),eN P "number_face" 776 (vr 382),eN P "numbers_of" 786 (vr 389),eN P "faces_of" 796 (vr 396),eN P "roof_told" 805 (vr 403),eN P "change" 815 (vr 410)] 77}
def o11:Obj:=oT #[]
noncomputable def o12:Obj:={cls:=.none,data:=.fields #[(vi 5 0),(vi 0 0),(vr 31),(vi 7 0),(vi 0 0),(vr 38),(vi 9 0),(vi 0 0),(vr 45),(vi 11 0),(vi 0 0),(vr 52),(vi 13 0),(vi 0 0),(vr 59),(vi 15 0),(vi 0 0),(vr 66),(vi 17 0),(vi 0 0),(vr 73),(vi 19 0),(vi 0 0),(vr 80),(vi 26 0),(vi 0 0),(vr 85),(vi 32 0),(vi 0 0),(vr 92),(vi 40 0),(vi 0 0),(vr 99),(vi 48 0),(vi 0 0),(vr 106),(vi 50 0),(vi 0 0),(vr 119),(vi 52 0),(vi 0 0),(vr 132),(vi 54 0),(vi 0 0),(vr 145),(vi 56 0),(vi 0 0),(vr 158),(vi 58 0),(vi 0 0),(vr 171),(vi 80 0),(vi 0 0),(vr 178),(vi 91 0),(vi 0 0),(vr 185),(vi 95 0),(vi 0 0),(vr 192),(vi 106 0),(vi 0 0),(vr 197),(vi 111 0),(vi 0 0),(vr 202),(vi 116 0),(vi 0 0),(vr 207),(vi 125 0),(vi 0 0),(vr 214),(vi 134 0),(vi 0 0),(vr 221),(vi 145 0),(vi 0 0),(vr 228),(vi 155 0),(vi 0 0),(vr 235),(vi 162 0),(vi 0 0),(vr 240),(vi 168 0),(vi 0 0),(vr 247),(vi 175 0),(vi 0 0),(vr 254),(vi 187 0),(vi 0 0),(vr 261),(vi 195 0),(vi 0 0),(vr 268),(vi 205 0),(vi 0 0),(vr 294),(vi 211 0),(vi 0 0),(vr 301),(vi 216 0),(vi 0 0),(vr 306),(vi 227 0),(vi 0 0),(vr 311),(vi 229 0),(vi 0 0),(vr 318),(vi 238 0),(vi 0 0),(vr 325),(vi 247 0),(vi 0 0),(vr 346),(vi 257 0),(vi 0 0),(vr 353),(vi 263 0),(vi 0 0),(vr 360),(vi 267 0),(vi 0 0),(vr 367),(vi 270 0),(vi 0 0),(vr 374),(vi 273 0),(vi 0 0),(vr 381),(vi 283 0),(vi 0 0),(vr 388),(vi 291 0),(vi 0 0),(vr 395),(vi 299 0),(vi 0 0),(vr 402),(vi 301 0),(vi 0 0),(vr 409)]}
noncomputable def o13:Obj:=oK #[(vs "<module>" 182),(vs "<module>" 183),(vs fl 184),(vi 1 0),(vi 0 0),(vi 0 0),(vi 0 0),(vi 0 0),(vr 11),.bool false,(vi 181 0),(vr 12),.none,.none,.none,.none,(vi 185 0),(vi 1 0),(vs fl 186)]
noncomputable def o14:Obj:={cls:=.type "frame",slots:=#[some ((vr 13)),some ((vr 3)),some ((vr 3)),none,some ((vs "__main__" 164)),none,some ((vr 0))]}
def o15:Obj:=oT #[(vi 0 189),(vi 1 190),(vi 2 191),(vi 3 192)]
def o16:Obj:=oT #[(vi 0 194),(vi (-1) 196)]
def o17:Obj:=oT #[(vi 1 197),(vi 0 198)]
def o18:Obj:=oT #[(vi 0 199),(vi 1 200)]
def o19:Obj:=oT #[(vi (-1) 202),(vi 0 203)]
def o20:Obj:=oT #[(vr 16),(vr 17),(vr 18),(vr 19)]
def o21:Obj:=oT #[(vi 0 205),(vi 0 206)]
def o22:Obj:=oT #[(vi 1 207),(vi 0 208)]
def o23:Obj:=oT #[(vi 1 209),(vi 1 210)]
def o24:Obj:=oT #[(vi 0 211),(vi 1 212)]
def o25:Obj:=oT #[(vr 21),(vr 22),(vr 23),(vr 24)]
def o27:Obj:={cls:=.none,data:=.fields #[]}
def o28:Obj:=oT #[(vs "direction" 217)]
def o30:Obj:=oG "left_of" "left_of" (tp 4)
def o31:Obj:=oC "left_of" 214 5 1 3 26 181 27 28 29 30 218
def o32:Obj:=oF "left_of" "left_of" (tp 4) "rooftold.compass" 187 31
def o35:Obj:=oT #[(vs "direction" 224)]
def o37:Obj:=oG "opposite" "opposite" (tp 5)
def o38:Obj:=oC "opposite" 221 7 1 3 33 181 34 35 36 37 225
def o39:Obj:=oF "opposite" "opposite" (tp 5) "rooftold.compass" 187 38
def o42:Obj:=oT #[(vs "direction" 231)]
def o44:Obj:=oG "right_of" "right_of" (tp 6)
def o45:Obj:=oC "right_of" 228 9 1 3 40 181 41 42 43 44 232
def o46:Obj:=oF "right_of" "right_of" (tp 6) "rooftold.compass" 187 45
def o49:Obj:=oT #[(vs "place" 238),(vs "step" 239)]
def o51:Obj:=oG "moved" "moved" (tp 7)
def o52:Obj:=oC "moved" 235 11 2 3 47 181 48 49 50 51 240
def o53:Obj:=oF "moved" "moved" (tp 7) "rooftold.compass" 187 52
def o56:Obj:=oT #[(vs "place" 246),(vs "direction" 247)]
def o58:Obj:=oG "beyond" "beyond" (tp 8)
def o59:Obj:=oC "beyond" 243 13 2 3 54 181 55 56 57 58 248
def o60:Obj:=oF "beyond" "beyond" (tp 8) "rooftold.compass" 187 59
def o63:Obj:=oT #[(vs "square" 254),(vs "side" 255)]
def o65:Obj:=oG "side_start" "side_start" (tp 9)
def o66:Obj:=oC "side_start" 251 15 2 3 61 181 62 63 64 65 256
def o67:Obj:=oF "side_start" "side_start" (tp 9) "rooftold.compass" 187 66
def o70:Obj:=oT #[(vs "square" 262),(vs "side" 263)]
def o72:Obj:=oG "side_end" "side_end" (tp 10)
def o73:Obj:=oC "side_end" 259 17 2 3 68 181 69 70 71 72 264
def o74:Obj:=oF "side_end" "side_end" (tp 10) "rooftold.compass" 187 73
def o77:Obj:=oT #[(vs "place" 270)]
def o79:Obj:=oG "by_row" "by_row" (tp 11)
def o80:Obj:=oC "by_row" 267 19 1 3 75 181 76 77 78 79 271
def o81:Obj:=oF "by_row" "by_row" (tp 11) "rooftold.compass" 187 80
def o84:Obj:=oG "is_as_before" "is_as_before" (tp 17)
noncomputable def o85:Obj:=oK #[(vs "is_as_before" 284),(vs "is_as_before" 285),(vs fl 286),(vi 26 0),(vi 3 0),(vi 0 0),(vi 0 0),(vi 3 0),(vr 82),.bool true,(vi 181 0),(vr 83),.none,.none,.none,(vr 84),(vi 287 0),(vi 26 0),(vs fl 288)]
def o86:Obj:=oF "is_as_before" "is_as_before" (tp 17) "rooftold.building" 274 85
def o89:Obj:=oT #[(vs "triangle" 293),(vs "before" 294),(vs "after" 295)]
def o91:Obj:=oG "lot_of" "lot_of" (tp 18)
def o92:Obj:=oC "lot_of" 290 32 3 3 87 181 88 89 90 91 296
def o93:Obj:=oF "lot_of" "lot_of" (tp 18) "rooftold.building" 274 92
noncomputable def o96:Obj:=oT #[(vs "before" 302),(vs "after" 303),(vs "triangles" 304),(vs "counts" 305),(vs "triangle" 306)]
def o98:Obj:=oG "change_row" "change_row" (tp 19)
def o99:Obj:=oC "change_row" 299 40 2 3 94 181 95 96 97 98 307
def PZ:Obj:=oF "change_row" "change_row" (tp 19) "rooftold.building" 274 99
def tN:Obj:=oT #[.type "Exception"]
noncomputable def D9:Obj:={cls:=.type "builtin_function_or_method",data:=.fields #[.builtin "type.__prepare__",.type "type"]}
noncomputable def UL(P:Params):Obj:={cls:=.type "dict",data:=.dict #[eN P "__module__" 319 (vs "rooftold.refusals" 310),eN P "__qualname__" 321 (vs "NoHouse" 320),eN P "__firstlineno__" 323 (vi 48 322),eN P "__static_attributes__" 324 (vr 108)] 4}
noncomputable def UK:Obj:=oK #[(vs "NoHouse" 314),(vs "NoHouse" 315),(vs fl 316),(vi 48 0),(vi 0 0),(vi 0 0),(vi 0 0),(vi 0 0),(vr 104),.bool false,(vi 181 0),(vr 105),.none,.none,.none,.none,(vi 317 0),(vi 48 0),(vs fl 318)]
noncomputable def UJ:Obj:={cls:=.type "frame",slots:=#[some ((vr 106)),some ((vr 3)),some ((vr 103)),none,some ((vs "rooftold.refusals" 310)),none,some ((vr 0))]}
noncomputable def PY(P:Params):Obj:={cls:=.type "dict",data:=.dict #[eN P "__module__" 319 (vs "rooftold.refusals" 310),eN P "__firstlineno__" 323 (vi 48 322),eN P "__static_attributes__" 324 (vr 108),eN P "__weakref__" 326 (vr 111),eN P "__doc__" 327 .none] 3}
noncomputable def PX:Obj:={cls:=.type "type",data:=.cls {name:=Str.ofString "NoHouse",bases:=[.type "Exception"],mro:=[(vr 110),.type "Exception",.type "BaseException",.type "object"],ns:=109,qualname:=Str.ofString "NoHouse" },slots:=#[some ((vr 101)),none,some ((vs "NoHouse" 312)),some ((vs "NoHouse" 320)),some (.builtin "Exception.__new__"),some (.bool true)]}
noncomputable def PV:Obj:={cls:=.type "getset_descriptor",data:=.fields #[(vs "__weakref__" 325),(vr 110),.builtin "ExceptionGroup.__weakref__",.none]}
def UI:Obj:={cls:=.type "super",data:=.fields #[(vr 110),(vr 110),(vr 110)]}
noncomputable def UH:Obj:={cls:=.type "builtin_function_or_method",data:=.fields #[.builtin "object.__init_subclass__",(vr 110)]}
noncomputable def UG(P:Params):Obj:={cls:=.type "dict",data:=.dict #[eN P "__module__" 339 (vs "rooftold.refusals" 310),eN P "__qualname__" 341 (vs "OutOfBounds" 340),eN P "__firstlineno__" 343 (vi 50 342),eN P "__static_attributes__" 344 (vr 121)] 4}
noncomputable def UE:Obj:=oK #[(vs "OutOfBounds" 334),(vs "OutOfBounds" 335),(vs fl 336),(vi 50 0),(vi 0 0),(vi 0 0),(vi 0 0),(vi 0 0),(vr 117),.bool false,(vi 181 0),(vr 118),.none,.none,.none,.none,(vi 337 0),(vi 50 0),(vs fl 338)]
noncomputable def UD:Obj:={cls:=.type "frame",slots:=#[some ((vr 119)),some ((vr 3)),some ((vr 116)),none,some ((vs "rooftold.refusals" 310)),none,some ((vr 0))]}
noncomputable def PU(P:Params):Obj:={cls:=.type "dict",data:=.dict #[eN P "__module__" 339 (vs "rooftold.refusals" 310),eN P "__firstlineno__" 343 (vi 50 342),eN P "__static_attributes__" 344 (vr 121),eN P "__weakref__" 346 (vr 124),eN P "__doc__" 347 .none] 3}
noncomputable def PR:Obj:={cls:=.type "type",data:=.cls {name:=Str.ofString "OutOfBounds",bases:=[.type "Exception"],mro:=[(vr 123),.type "Exception",.type "BaseException",.type "object"],ns:=122,qualname:=Str.ofString "OutOfBounds" },slots:=#[some ((vr 114)),none,some ((vs "OutOfBounds" 332)),some ((vs "OutOfBounds" 340)),some (.builtin "Exception.__new__"),some (.bool true)]}
noncomputable def PQ:Obj:={cls:=.type "getset_descriptor",data:=.fields #[(vs "__weakref__" 345),(vr 123),.builtin "ExceptionGroup.__weakref__",.none]}
def UC:Obj:={cls:=.type "super",data:=.fields #[(vr 123),(vr 123),(vr 123)]}
noncomputable def UB:Obj:={cls:=.type "builtin_function_or_method",data:=.fields #[.builtin "object.__init_subclass__",(vr 123)]}
noncomputable def UA(P:Params):Obj:={cls:=.type "dict",data:=.dict #[eN P "__module__" 359 (vs "rooftold.refusals" 310),eN P "__qualname__" 361 (vs "Outside" 360),eN P "__firstlineno__" 363 (vi 52 362),eN P "__static_attributes__" 364 (vr 134)] 4}
noncomputable def U9:Obj:=oK #[(vs "Outside" 354),(vs "Outside" 355),(vs fl 356),(vi 52 0),(vi 0 0),(vi 0 0),(vi 0 0),(vi 0 0),(vr 130),.bool false,(vi 181 0),(vr 131),.none,.none,.none,.none,(vi 357 0),(vi 52 0),(vs fl 358)]
noncomputable def U8:Obj:={cls:=.type "frame",slots:=#[some ((vr 132)),some ((vr 3)),some ((vr 129)),none,some ((vs "rooftold.refusals" 310)),none,some ((vr 0))]}
noncomputable def PN(P:Params):Obj:={cls:=.type "dict",data:=.dict #[eN P "__module__" 359 (vs "rooftold.refusals" 310),eN P "__firstlineno__" 363 (vi 52 362),eN P "__static_attributes__" 364 (vr 134),eN P "__weakref__" 366 (vr 137),eN P "__doc__" 367 .none] 3}
noncomputable def PM:Obj:={cls:=.type "type",data:=.cls {name:=Str.ofString "Outside",bases:=[.type "Exception"],mro:=[(vr 136),.type "Exception",.type "BaseException",.type "object"],ns:=135,qualname:=Str.ofString "Outside" },slots:=#[some ((vr 127)),none,some ((vs "Outside" 352)),some ((vs "Outside" 360)),some (.builtin "Exception.__new__"),some (.bool true)]}
noncomputable def PL:Obj:={cls:=.type "getset_descriptor",data:=.fields #[(vs "__weakref__" 365),(vr 136),.builtin "ExceptionGroup.__weakref__",.none]}
def U7:Obj:={cls:=.type "super",data:=.fields #[(vr 136),(vr 136),(vr 136)]}
noncomputable def U6:Obj:={cls:=.type "builtin_function_or_method",data:=.fields #[.builtin "object.__init_subclass__",(vr 136)]}
noncomputable def U5(P:Params):Obj:={cls:=.type "dict",data:=.dict #[eN P "__module__" 379 (vs "rooftold.refusals" 310),eN P "__qualname__" 381 (vs "NoFace" 380),eN P "__firstlineno__" 383 (vi 54 382),eN P "__static_attributes__" 384 (vr 147)] 4}
noncomputable def U4:Obj:=oK #[(vs "NoFace" 374),(vs "NoFace" 375),(vs fl 376),(vi 54 0),(vi 0 0),(vi 0 0),(vi 0 0),(vi 0 0),(vr 143),.bool false,(vi 181 0),(vr 144),.none,.none,.none,.none,(vi 377 0),(vi 54 0),(vs fl 378)]
noncomputable def U3:Obj:={cls:=.type "frame",slots:=#[some ((vr 145)),some ((vr 3)),some ((vr 142)),none,some ((vs "rooftold.refusals" 310)),none,some ((vr 0))]}
noncomputable def PJ(P:Params):Obj:={cls:=.type "dict",data:=.dict #[eN P "__module__" 379 (vs "rooftold.refusals" 310),eN P "__firstlineno__" 383 (vi 54 382),eN P "__static_attributes__" 384 (vr 147),eN P "__weakref__" 386 (vr 150),eN P "__doc__" 387 .none] 3}
noncomputable def PH:Obj:={cls:=.type "type",data:=.cls {name:=Str.ofString "NoFace",bases:=[.type "Exception"],mro:=[(vr 149),.type "Exception",.type "BaseException",.type "object"],ns:=148,qualname:=Str.ofString "NoFace" },slots:=#[some ((vr 140)),none,some ((vs "NoFace" 372)),some ((vs "NoFace" 380)),some (.builtin "Exception.__new__"),some (.bool true)]}
noncomputable def PF:Obj:={cls:=.type "getset_descriptor",data:=.fields #[(vs "__weakref__" 385),(vr 149),.builtin "ExceptionGroup.__weakref__",.none]}
def U2:Obj:={cls:=.type "super",data:=.fields #[(vr 149),(vr 149),(vr 149)]}
noncomputable def U1:Obj:={cls:=.type "builtin_function_or_method",data:=.fields #[.builtin "object.__init_subclass__",(vr 149)]}
noncomputable def U0(P:Params):Obj:={cls:=.type "dict",data:=.dict #[eN P "__module__" 399 (vs "rooftold.refusals" 310),eN P "__qualname__" 401 (vs "NoSize" 400),eN P "__firstlineno__" 403 (vi 56 402),eN P "__static_attributes__" 404 (vr 160)] 4}
noncomputable def TZ:Obj:=oK #[(vs "NoSize" 394),(vs "NoSize" 395),(vs fl 396),(vi 56 0),(vi 0 0),(vi 0 0),(vi 0 0),(vi 0 0),(vr 156),.bool false,(vi 181 0),(vr 157),.none,.none,.none,.none,(vi 397 0),(vi 56 0),(vs fl 398)]
noncomputable def TY:Obj:={cls:=.type "frame",slots:=#[some ((vr 158)),some ((vr 3)),some ((vr 155)),none,some ((vs "rooftold.refusals" 310)),none,some ((vr 0))]}
noncomputable def PD(P:Params):Obj:={cls:=.type "dict",data:=.dict #[eN P "__module__" 399 (vs "rooftold.refusals" 310),eN P "__firstlineno__" 403 (vi 56 402),eN P "__static_attributes__" 404 (vr 160),eN P "__weakref__" 406 (vr 163),eN P "__doc__" 407 .none] 3}
noncomputable def PB:Obj:={cls:=.type "type",data:=.cls {name:=Str.ofString "NoSize",bases:=[.type "Exception"],mro:=[(vr 162),.type "Exception",.type "BaseException",.type "object"],ns:=161,qualname:=Str.ofString "NoSize" },slots:=#[some ((vr 153)),none,some ((vs "NoSize" 392)),some ((vs "NoSize" 400)),some (.builtin "Exception.__new__"),some (.bool true)]}
noncomputable def P9:Obj:={cls:=.type "getset_descriptor",data:=.fields #[(vs "__weakref__" 405),(vr 162),.builtin "ExceptionGroup.__weakref__",.none]}
def TV:Obj:={cls:=.type "super",data:=.fields #[(vr 162),(vr 162),(vr 162)]}
noncomputable def TU:Obj:={cls:=.type "builtin_function_or_method",data:=.fields #[.builtin "object.__init_subclass__",(vr 162)]}
def TQ:Obj:=oT #[(vs "tell" 415)]
def TN:Obj:=oG "answer_or_refusal" "answer_or_refusal" (tp 26)
def P8:Obj:=oC "answer_or_refusal" 412 58 1 3 166 181 167 168 169 170 416
def P7:Obj:=oF "answer_or_refusal" "answer_or_refusal" (tp 26) "rooftold.refusals" 310 171
noncomputable def TM:Obj:=oT #[(vs "row" 440),(vs "mark" 441),(vs "parts" 442),(vs "part" 443),(vs "value" 444)]
def TJ:Obj:=oG "parts_between" "parts_between" (tp 36)
def P6:Obj:=oC "parts_between" 437 80 2 3 173 181 174 175 176 177 445
def P5:Obj:=oF "parts_between" "parts_between" (tp 36) "rooftold.texts" 419 178
def TH:Obj:=oT #[(vs "value" 451)]
def TF:Obj:=oG "digit_told" "digit_told" (tp 37)
def P4:Obj:=oC "digit_told" 448 91 1 3 180 181 181 182 183 184 452
def P2:Obj:=oF "digit_told" "digit_told" (tp 37) "rooftold.texts" 419 185
def TC:Obj:=oT #[(vs "row" 458),(vs "number" 459),(vs "value" 460)]
def TB:Obj:=oG "number_told" "number_told" (tp 38)
def P1:Obj:=oC "number_told" 455 95 1 3 187 181 188 189 190 191 461
def P0:Obj:=oF "number_told" "number_told" (tp 38) "rooftold.texts" 419 192
def T9:Obj:=oG "corner_told" "corner_told" (tp 39)
noncomputable def OZ:Obj:=oK #[(vs "corner_told" 464),(vs "corner_told" 465),(vs fl 466),(vi 106 0),(vi 1 0),(vi 0 0),(vi 0 0),(vi 3 0),(vr 194),.bool true,(vi 181 0),(vr 195),.none,.none,.none,(vr 196),(vi 467 0),(vi 106 0),(vs fl 468)]
def OY:Obj:=oF "corner_told" "corner_told" (tp 39) "rooftold.texts" 419 197
def T8:Obj:=oG "walk_told" "walk_told" (tp 40)
noncomputable def OX:Obj:=oK #[(vs "walk_told" 470),(vs "walk_told" 471),(vs fl 472),(vi 111 0),(vi 1 0),(vi 0 0),(vi 0 0),(vi 3 0),(vr 199),.bool true,(vi 181 0),(vr 200),.none,.none,.none,(vr 201),(vi 473 0),(vi 111 0),(vs fl 474)]
def OW:Obj:=oF "walk_told" "walk_told" (tp 40) "rooftold.texts" 419 202
def T7:Obj:=oG "walks_told" "walks_told" (tp 41)
noncomputable def OV:Obj:=oK #[(vs "walks_told" 476),(vs "walks_told" 477),(vs fl 478),(vi 116 0),(vi 1 0),(vi 0 0),(vi 0 0),(vi 3 0),(vr 204),.bool true,(vi 181 0),(vr 205),.none,.none,.none,(vr 206),(vi 479 0),(vi 116 0),(vs fl 480)]
def OU:Obj:=oF "walks_told" "walks_told" (tp 41) "rooftold.texts" 419 207
noncomputable def T6:Obj:=oT #[(vs "walks" 491),(vs "feet" 492),(vs "walk" 493),(vs "number" 494),(vs "corner" 495),(vs "before" 496),(vs "y" 497)]
def T5:Obj:=oG "feet_across_rows" "feet_across_rows" (tp 45)
def OT:Obj:=oC "feet_across_rows" 488 125 1 3 209 181 210 211 212 213 498
def OS:Obj:=oF "feet_across_rows" "feet_across_rows" (tp 45) "rooftold.plans" 482 214
noncomputable def T1:Obj:=oT #[(vs "walks" 504),(vs "feet" 505),(vs "cells" 506),(vs "y" 507),(vs "inside" 508),(vs "x" 509)]
def SY:Obj:=oG "cells_within" "cells_within" (tp 46)
def OR:Obj:=oC "cells_within" 501 134 1 3 216 181 217 218 219 220 510
def OQ:Obj:=oF "cells_within" "cells_within" (tp 46) "rooftold.plans" 482 221
noncomputable def SX:Obj:=oT #[(vs "cells" 516),(vs "waiting" 517),(vs "reached" 518),(vs "cell" 519),(vs "side" 520)]
def SW:Obj:=oG "is_joined" "is_joined" (tp 47)
def OP:Obj:=oC "is_joined" 513 145 1 3 223 181 224 225 226 227 521
def OO:Obj:=oF "is_joined" "is_joined" (tp 47) "rooftold.plans" 482 228
noncomputable def SV:Obj:=oT #[(vs "cell" 527),(vs "cells" 528),(vs "side" 529),(vs "near" 530),(vs "far" 531)]
def SU:Obj:=oG "meets_in_a_point" "meets_in_a_point" (tp 48)
def ON:Obj:=oC "meets_in_a_point" 524 155 2 3 230 181 231 232 233 234 532
def OM:Obj:=oF "meets_in_a_point" "meets_in_a_point" (tp 48) "rooftold.plans" 482 235
def SS:Obj:=oG "is_house" "is_house" (tp 49)
noncomputable def OL:Obj:=oK #[(vs "is_house" 535),(vs "is_house" 536),(vs fl 537),(vi 162 0),(vi 1 0),(vi 0 0),(vi 0 0),(vi 3 0),(vr 237),.bool true,(vi 181 0),(vr 238),.none,.none,.none,(vr 239),(vi 538 0),(vi 162 0),(vs fl 539)]
def OK:Obj:=oF "is_house" "is_house" (tp 49) "rooftold.plans" 482 240
def SR:Obj:=oT #[(vs "cells" 544),(vs "headings" 545),(vs "cell" 546),(vs "side" 547)]
def SQ:Obj:=oG "headings_along_walls" "headings_along_walls" (tp 50)
def OJ:Obj:=oC "headings_along_walls" 541 168 1 3 242 181 243 244 245 246 548
def OI:Obj:=oF "headings_along_walls" "headings_along_walls" (tp 50) "rooftold.plans" 482 247
noncomputable def SO:Obj:=oT #[(vs "start" 554),(vs "headings" 555),(vs "walked" 556),(vs "corners" 557),(vs "point" 558),(vs "came" 559),(vs "heading" 560)]
def SN:Obj:=oG "walk_from" "walk_from" (tp 51)
def OH:Obj:=oC "walk_from" 551 175 3 3 249 181 250 251 252 253 561
def OG:Obj:=oF "walk_from" "walk_from" (tp 51) "rooftold.plans" 482 254
noncomputable def SM:Obj:=oT #[(vs "cells" 567),(vs "headings" 568),(vs "walks" 569),(vs "walked" 570),(vs "point" 571)]
def SK:Obj:=oG "walks_round" "walks_round" (tp 52)
def OF:Obj:=oC "walks_round" 564 187 1 3 256 181 257 258 259 260 572
def OE:Obj:=oF "walks_round" "walks_round" (tp 52) "rooftold.plans" 482 261
def SJ:Obj:=oT #[(vs "t" 578),(vs "walks" 579),(vs "cells" 580)]
def SI:Obj:=oG "house_told" "house_told" (tp 53)
def OD:Obj:=oC "house_told" 575 195 1 3 263 181 264 265 266 267 581
def OC:Obj:=oF "house_told" "house_told" (tp 53) "rooftold.plans" 482 268
def OB:Obj:=oT #[(vi 0 586),(vi 0 587)]
def OA:Obj:=oT #[(vi 1 588),(vi 0 589)]
def O9:Obj:=oT #[(vi 0 590),(vi 1 591)]
def O8:Obj:=oT #[(vi 1 592),(vi 1 593)]
def O7:Obj:=oT #[(vr 270),(vr 271),(vr 272),(vr 273)]
def O6:Obj:=oT #[(vi (-1) 596),(vi (-1) 598)]
def O5:Obj:=oT #[(vi 0 599),(vi (-1) 601)]
def O4:Obj:=oT #[(vi 1 602),(vi (-1) 604)]
def O3:Obj:=oT #[(vi (-1) 606),(vi 0 607)]
def O1:Obj:=oT #[(vi 1 608),(vi 0 609)]
def O0:Obj:=oT #[(vi (-1) 611),(vi 1 612)]
def NZ:Obj:=oT #[(vi 0 613),(vi 1 614)]
def NY:Obj:=oT #[(vi 1 615),(vi 1 616)]
noncomputable def NX:Obj:=oT #[(vr 275),(vr 276),(vr 277),(vr 278),(vr 279),(vr 280),(vr 281),(vr 282)]
def NW:Obj:=oT #[(vi (-1) 619),(vi (-1) 621)]
def NV:Obj:=oT #[(vi 0 622),(vi (-1) 624)]
def NU:Obj:=oT #[(vi (-1) 626),(vi 0 627)]
def NT:Obj:=oT #[(vi 0 628),(vi 0 629)]
def NS:Obj:=oT #[(vr 284),(vr 285),(vr 286),(vr 287)]
def SH:Obj:=oT #[(vs "cells" 634),(vs "found" 635),(vs "cell" 636),(vs "quarter" 637)]
def SG:Obj:=oG "half_cells_of" "half_cells_of" (tp 58)
def NR:Obj:=oC "half_cells_of" 631 205 1 3 289 181 290 291 292 293 638
def NQ:Obj:=oF "half_cells_of" "half_cells_of" (tp 58) "rooftold.heights" 584 294
def SF:Obj:=oT #[(vs "half" 644),(vs "layer" 645),(vs "step" 646)]
def SE:Obj:=oG "is_deeper" "is_deeper" (tp 59)
def NP:Obj:=oC "is_deeper" 641 211 2 3 296 181 297 298 299 300 647
def NO:Obj:=oF "is_deeper" "is_deeper" (tp 59) "rooftold.heights" 584 301
def SD:Obj:=oG "depths_of" "depths_of" (tp 60)
noncomputable def NN:Obj:=oK #[(vs "depths_of" 650),(vs "depths_of" 651),(vs fl 652),(vi 216 0),(vi 1 0),(vi 0 0),(vi 0 0),(vi 3 0),(vr 303),.bool true,(vi 181 0),(vr 304),.none,.none,.none,(vr 305),(vi 653 0),(vi 216 0),(vs fl 654)]
def NM:Obj:=oF "depths_of" "depths_of" (tp 60) "rooftold.heights" 584 306
def SA:Obj:=oG "height_over" "height_over" (tp 61)
noncomputable def NL:Obj:=oK #[(vs "height_over" 656),(vs "height_over" 657),(vs fl 658),(vi 227 0),(vi 2 0),(vi 0 0),(vi 0 0),(vi 3 0),(vr 308),.bool true,(vi 181 0),(vr 309),.none,.none,.none,(vr 310),(vi 659 0),(vi 227 0),(vs fl 660)]
def NK:Obj:=oF "height_over" "height_over" (tp 61) "rooftold.heights" 584 311
noncomputable def S9:Obj:=oT #[(vs "depths" 665),(vs "heights" 666),(vs "half" 667),(vs "side" 668),(vs "point" 669)]
def S8:Obj:=oG "heights_of" "heights_of" (tp 62)
def NJ:Obj:=oC "heights_of" 662 229 1 3 313 181 314 315 316 317 670
def NI:Obj:=oF "heights_of" "heights_of" (tp 62) "rooftold.heights" 584 318
noncomputable def S7(P:Params):Obj:={cls:=.type "dict",data:=.dict #[eN P "__module__" 682 (vs "rooftold.roofs" 673),eN P "__qualname__" 684 (vs "Roof" 683),eN P "__firstlineno__" 686 (vi 238 685),eN P "__init__" 694 (vr 333),eN P "__static_attributes__" 701 (vr 334)] 5}
def S6:Obj:={cls:=.none,data:=.fields #[(vi 240 0),(vi 4 0),(vr 332)]}
noncomputable def S5:Obj:=oK #[(vs "Roof" 677),(vs "Roof" 678),(vs fl 679),(vi 238 0),(vi 0 0),(vi 0 0),(vi 0 0),(vi 0 0),(vr 323),.bool false,(vi 181 0),(vr 324),.none,.none,.none,.none,(vi 680 0),(vi 238 0),(vs fl 681)]
noncomputable def S4:Obj:={cls:=.type "frame",slots:=#[some ((vr 325)),some ((vr 3)),some ((vr 322)),none,some ((vs "rooftold.roofs" 673)),none,some ((vr 0))]}
def S3:Obj:=oT #[(vs "self" 690),(vs "cells" 691)]
def S0:Obj:=oG "__init__" "Roof.__init__" (ic (tp 64) 0)
noncomputable def NH:Obj:=oK #[(vs "__init__" 687),(vs "Roof.__init__" 688),(vs fl 689),(vi 240 0),(vi 2 0),(vi 0 0),(vi 0 0),(vi 3 0),(vr 327),.bool true,(vi 181 0),(vr 328),.none,(vr 329),(vr 330),(vr 331),(vi 692 0),(vi 240 0),(vs fl 693)]
def NG:Obj:=oF "__init__" "Roof.__init__" (ic (tp 64) 0) "rooftold.roofs" 673 332
noncomputable def RZ:Obj:=oT #[(vs "cells" 695),(vs "depths" 696),(vs "faces" 697),(vs "facings" 698),(vs "heights" 699),(vs "numbers" 700)]
noncomputable def NF(P:Params):Obj:={cls:=.type "dict",data:=.dict #[eN P "__module__" 682 (vs "rooftold.roofs" 673),eN P "__firstlineno__" 686 (vi 238 685),eN P "__init__" 694 (vr 333),eN P "__static_attributes__" 701 (vr 334),eN P "__dict__" 703 (vr 337),eN P "__weakref__" 705 (vr 338),eN P "__doc__" 706 .none] 4}
noncomputable def ND:Obj:={cls:=.type "type",data:=.cls {name:=Str.ofString "Roof",bases:=[.type "object"],mro:=[(vr 336),.type "object"],ns:=335,qualname:=Str.ofString "Roof" },slots:=#[none,none,some ((vs "Roof" 675)),some ((vs "Roof" 683)),some (.builtin "object.__new__"),some (.bool true)]}
noncomputable def NC:Obj:={cls:=.type "getset_descriptor",data:=.fields #[(vs "__dict__" 702),(vr 336),.builtin "function.__dict__",.builtin "function.__dict__#set"]}
noncomputable def NB:Obj:={cls:=.type "getset_descriptor",data:=.fields #[(vs "__weakref__" 704),(vr 336),.builtin "ExceptionGroup.__weakref__",.none]}
def RY:Obj:={cls:=.type "super",data:=.fields #[(vr 336),(vr 336),(vr 336)]}
noncomputable def RX:Obj:={cls:=.type "builtin_function_or_method",data:=.fields #[.builtin "object.__init_subclass__",(vr 336)]}
noncomputable def RW:Obj:=oT #[(vs "half" 712),(vs "side" 713),(vs "depth" 714),(vs "heights" 715),(vs "start_is_low" 716),(vs "end_is_low" 717)]
def RV:Obj:=oG "facing_of" "facing_of" (tp 65)
def NA:Obj:=oC "facing_of" 709 247 4 3 341 181 342 343 344 345 718
def N9:Obj:=oF "facing_of" "facing_of" (tp 65) "rooftold.roofs" 673 346
noncomputable def RU:Obj:=oT #[(vs "depths" 724),(vs "heights" 725),(vs "facings" 726),(vs "half" 727),(vs "depth" 728),(vs "side" 729)]
def RS:Obj:=oG "facings_of" "facings_of" (tp 66)
def N8:Obj:=oC "facings_of" 721 257 2 3 348 181 349 350 351 352 730
def N7:Obj:=oF "facings_of" "facings_of" (tp 66) "rooftold.roofs" 673 353
noncomputable def RR:Obj:=oT #[(vs "triangle" 736),(vs "i" 737),(vs "j" 738),(vs "side" 739),(vs "across" 740)]
def RQ:Obj:=oG "triangle_across" "triangle_across" (tp 67)
def N6:Obj:=oC "triangle_across" 733 263 1 3 355 181 356 357 358 359 741
def N5:Obj:=oF "triangle_across" "triangle_across" (tp 67) "rooftold.roofs" 673 360
def RP:Obj:=oT #[(vs "triangle" 747),(vs "i" 748),(vs "j" 749),(vs "side" 750)]
def RO:Obj:=oG "triangle_on_left" "triangle_on_left" (tp 68)
def MZ:Obj:=oC "triangle_on_left" 744 267 1 3 362 181 363 364 365 366 751
def MY:Obj:=oF "triangle_on_left" "triangle_on_left" (tp 68) "rooftold.roofs" 673 367
def RN:Obj:=oT #[(vs "triangle" 757),(vs "i" 758),(vs "j" 759),(vs "side" 760)]
def RL:Obj:=oG "triangle_on_right" "triangle_on_right" (tp 69)
def MX:Obj:=oC "triangle_on_right" 754 270 1 3 369 181 370 371 372 373 761
def MW:Obj:=oF "triangle_on_right" "triangle_on_right" (tp 69) "rooftold.roofs" 673 374
noncomputable def RK:Obj:=oT #[(vs "first" 767),(vs "number" 768),(vs "facings" 769),(vs "numbers" 770),(vs "facing" 771),(vs "waiting" 772),(vs "triangle" 773)]
def RJ:Obj:=oG "number_face" "number_face" (tp 70)
def MV:Obj:=oC "number_face" 764 273 4 3 376 181 377 378 379 380 774
def MU:Obj:=oF "number_face" "number_face" (tp 70) "rooftold.roofs" 673 381
noncomputable def RI:Obj:=oT #[(vs "facings" 780),(vs "numbers" 781),(vs "count" 782),(vs "triangle" 783)]
def RH:Obj:=oG "numbers_of" "numbers_of" (tp 71)
def MT:Obj:=oC "numbers_of" 777 283 1 3 383 181 384 385 386 387 784
def MS:Obj:=oF "numbers_of" "numbers_of" (tp 71) "rooftold.roofs" 673 388
def RG:Obj:=oT #[(vs "numbers" 790),(vs "faces" 791),(vs "triangle" 792),(vs "number" 793)]
def RF:Obj:=oG "faces_of" "faces_of" (tp 72)
def MR:Obj:=oC "faces_of" 787 291 1 3 390 181 391 392 393 394 794
def MQ:Obj:=oF "faces_of" "faces_of" (tp 72) "rooftold.roofs" 673 395
def RE:Obj:=oT #[(vs "t" 802)]
def RD:Obj:=oG "roof_told" "roof_told" (tp 74)
def MP:Obj:=oC "roof_told" 799 299 1 3 397 181 398 399 400 401 803
def MO:Obj:=oF "roof_told" "roof_told" (tp 74) "rooftold.desk" 797 402
def RC:Obj:=oT #[(vs "t" 809),(vs "u" 810)]
def RB:Obj:=oT #[(vs "t" 811),(vs "u" 812)]
def RA:Obj:=oG "change" "change" (tp 75)
def MN:Obj:=oC "change" 806 301 2 3 404 181 405 406 407 408 813
def MM:Obj:=oF "change" "change" (tp 75) "rooftold.desk" 797 409
noncomputable def hpK:Params->Frag:=fun P=>(nat_lit 2,o2 P)::(nat_lit 3,o3 P)::(nat_lit 15,o15)::(nat_lit 16,o16)::(nat_lit 17,o17)::(nat_lit 18,o18)::(nat_lit 19,o19)::(nat_lit 20,o20)::(nat_lit 21,o21)::(nat_lit 22,o22)::(nat_lit 23,o23)::(nat_lit 24,o24)::(nat_lit 25,o25)::(nat_lit 31,o31)::(nat_lit 32,o32)::(nat_lit 38,o38)::(nat_lit 39,o39)::(nat_lit 45,o45)::(nat_lit 46,o46)::(nat_lit 52,o52)::(nat_lit 53,o53)::(nat_lit 59,o59)::(nat_lit 60,o60)::(nat_lit 66,o66)::(nat_lit 67,o67)::(nat_lit 73,o73)::(nat_lit 74,o74)::(nat_lit 80,o80)::(nat_lit 81,o81)::(nat_lit 85,o85)::(nat_lit 86,o86)::(nat_lit 92,o92)::(nat_lit 93,o93)::(nat_lit 99,o99)::(nat_lit 100,PZ)::(nat_lit 101,tN)::(nat_lit 109,PY P)::(nat_lit 110,PX)::(nat_lit 111,PV)::(nat_lit 114,tN)::(nat_lit 122,PU P)::(nat_lit 123,PR)::(nat_lit 124,PQ)::(nat_lit 127,tN)::(nat_lit 135,PN P)::(nat_lit 136,PM)::(nat_lit 137,PL)::(nat_lit 140,tN)::(nat_lit 148,PJ P)::(nat_lit 149,PH)::(nat_lit 150,PF)::(nat_lit 153,tN)::(nat_lit 161,PD P)::(nat_lit 162,PB)::(nat_lit 163,P9)::(nat_lit 171,P8)::(nat_lit 172,P7)::(nat_lit 178,P6)::(nat_lit 179,P5)::(nat_lit 185,P4)::(nat_lit 186,P2)::(nat_lit 192,P1)::(nat_lit 193,P0)::(nat_lit 197,OZ)::(nat_lit 198,OY)::(nat_lit 202,OX)::(nat_lit 203,OW)::(nat_lit 207,OV)::(nat_lit 208,OU)::(nat_lit 214,OT)::(nat_lit 215,OS)::(nat_lit 221,OR)::(nat_lit 222,OQ)::(nat_lit 228,OP)::(nat_lit 229,OO)::(nat_lit 235,ON)::(nat_lit 236,OM)::(nat_lit 240,OL)::(nat_lit 241,OK)::(nat_lit 247,OJ)::(nat_lit 248,OI)::(nat_lit 254,OH)::(nat_lit 255,OG)::(nat_lit 261,OF)::(nat_lit 262,OE)::(nat_lit 268,OD)::(nat_lit 269,OC)::(nat_lit 270,OB)::(nat_lit 271,OA)::(nat_lit 272,O9)::(nat_lit 273,O8)::(nat_lit 274,O7)::(nat_lit 275,O6)::(nat_lit 276,O5)::(nat_lit 277,O4)::(nat_lit 278,O3)::(nat_lit 279,O1)::(nat_lit 280,O0)::(nat_lit 281,NZ)::(nat_lit 282,NY)::(nat_lit 283,NX)::(nat_lit 284,NW)::(nat_lit 285,NV)::(nat_lit 286,NU)::(nat_lit 287,NT)::(nat_lit 288,NS)::(nat_lit 294,NR)::(nat_lit 295,NQ)::(nat_lit 301,NP)::(nat_lit 302,NO)::(nat_lit 306,NN)::(nat_lit 307,NM)::(nat_lit 311,NL)::(nat_lit 312,NK)::(nat_lit 318,NJ)::(nat_lit 319,NI)::(nat_lit 332,NH)::(nat_lit 333,NG)::(nat_lit 335,NF P)::(nat_lit 336,ND)::(nat_lit 337,NC)::(nat_lit 338,NB)::(nat_lit 346,NA)::(nat_lit 347,N9)::(nat_lit 353,N8)::(nat_lit 354,N7)::(nat_lit 360,N6)::(nat_lit 361,N5)::(nat_lit 367,MZ)::(nat_lit 368,MY)::(nat_lit 374,MX)::(nat_lit 375,MW)::(nat_lit 381,MV)::(nat_lit 382,MU)::(nat_lit 388,MT)::(nat_lit 389,MS)::(nat_lit 395,MR)::(nat_lit 396,MQ)::(nat_lit 402,MP)::(nat_lit 403,MO)::(nat_lit 409,MN)::(nat_lit 410,MM)::[]
noncomputable def as:List Addr:=[2,3,15,16,17,18,19,20,21,22,23,24,25,31,32,38,39,45,46,52,53,59,60,66,67,73,74,80,81,85,86,92,93,99,100,101,109,110,111,114,122,123,124,127,135,136,137,140,148,149,150,153,161,162,163,171,172,178,179,185,186,192,193,197,198,202,203,207,208,214,215,221,222,228,229,235,236,240,241,247,248,254,255,261,262,268,269,270,271,272,273,274,275,276,277,278,279,280,281,282,283,284,285,286,287,288,294,295,301,302,306,307,311,312,318,319,332,333,335,336,337,338,346,347,353,354,360,361,367,368,374,375,381,382,388,389,395,396,402,403,409,410]
theorem hkE:∀P,as=(hpK P).map (·.1):=fun _=>by kernel_rfl
noncomputable def H1(P:Params):Heap:={objs:={toList:=[boot_o_0 P,boot_o_1 P,o2 P,o3 P,boot_o_4 P,boot_o_5 P,boot_o_6 P,boot_o_7 P,boot_o_8 P,boot_o_9 P,boot_o_10 P,o11,o12,o13,o14,o15,o16,o17,o18,o19,o20,o21,o22,o23,o24,o25,o11,o27,o28,o11,o30,o31,o32,o11,o27,o35,o11,o37,o38,o39,o11,o27,o42,o11,o44,o45,o46,o11,o27,o49,o11,o51,o52,o53,o11,o27,o56,o11,o58,o59,o60,o11,o27,o63,o11,o65,o66,o67,o11,o27,o70,o11,o72,o73,o74,o11,o27,o77,o11,o79,o80,o81,o11,o27,o84,o85,o86,o11,o27,o89,o11,o91,o92,o93,o11,o27,o96,o11,o98,o99,PZ,tN,D9,UL P,o11,o27,UK,UJ,o11,PY P,PX,PV,UI,UH,tN,D9,UG P,o11,o27,UE,UD,o11,PU P,PR,PQ,UC,UB,tN,D9,UA P,o11,o27,U9,U8,o11,PN P,PM,PL,U7,U6,tN,D9,U5 P,o11,o27,U4,U3,o11,PJ P,PH,PF,U2,U1,tN,D9,U0 P,o11,o27,TZ,TY,o11,PD P,PB,P9,TV,TU,o11,o27,TQ,o11,TN,P8,P7,o11,o27,TM,o11,TJ,P6,P5,o11,o27,TH,o11,TF,P4,P2,o11,o27,TC,o11,TB,P1,P0,o11,o27,T9,OZ,OY,o11,o27,T8,OX,OW,o11,o27,T7,OV,OU,o11,o27,T6,o11,T5,OT,OS,o11,o27,T1,o11,SY,OR,OQ,o11,o27,SX,o11,SW,OP,OO,o11,o27,SV,o11,SU,ON,OM,o11,o27,SS,OL,OK,o11,o27,SR,o11,SQ,OJ,OI,o11,o27,SO,o11,SN,OH,OG,o11,o27,SM,o11,SK,OF,OE,o11,o27,SJ,o11,SI,OD,OC,OB,OA,O9,O8,O7,O6,O5,O4,O3,O1,O0,NZ,NY,NX,NW,NV,NU,NT,NS,o11,o27,SH,o11,SG,NR,NQ,o11,o27,SF,o11,SE,NP,NO,o11,o27,SD,NN,NM,o11,o27,SA,NL,NK,o11,o27,S9,o11,S8,NJ,NI,o11,D9,S7 P,o11,S6,S5,S4,o11,o27,S3,o11,S0,NH,NG,RZ,NF P,ND,NC,NB,RY,RX,o11,o27,RW,o11,RV,NA,N9,o11,o27,RU,o11,RS,N8,N7,o11,o27,RR,o11,RQ,N6,N5,o11,o27,RP,o11,RO,MZ,MY,o11,o27,RN,o11,RL,MX,MW,o11,o27,RK,o11,RJ,MV,MU,o11,o27,RI,o11,RH,MT,MS,o11,o27,RG,o11,RF,MR,MQ,o11,o27,RE,o11,RD,MP,MO,o11,o27,RC,RB,RA,MN,MM]}}
noncomputable def vw:Program:=view PySem.Challenge.pw_rooftold_s10_change [1,2,3,4,5,6,7,8,9,10,11,13,14,15,16,17,18,19,21,22,23,24,25,26,28,29,30,31,32,33,34,35,36,37,38,39,40,41,43,44,45,46,47,48,49,50,51,52,53,55,56,57,58,59,60,61,62,64,65,66,67,68,69,70,71,72,74,75]
abbrev xt(s:Shared):Bool:=xlAt vw [] s&& recOk [] s
theorem run:∀w os,topRun treeTable PySem.Challenge.rw_rooftold_s10_change.prog w 11 (some (.ref 6)) 5958 {heap:=boot_heap w.params,gens:=Array.mk [],drawn:=boot_drawn,toks:=boot_toks,os:=os} (topStub PySem.Challenge.rw_rooftold_s10_change.prog)=some {heap:=H1 w.params,gens:=Array.mk [],drawn:=boot_drawn,toks:=816,os:=os}:=by intro w os;kernel_rfl
theorem left:LeftO PySem.Challenge.rw_rooftold_s10_change.prog vw [] xt (Hook.obs (kHook hpK as hkE)) (Hook.val (kHook hpK as hkE)) 5958:=by refine LeftO.of_pieces (M:=5958) (boot_open (by kernel_rfl) (by decide) (fun s=>by kernel_rfl)) (fun w=>by kernel_rfl) run (by decide) (fun w=>?_);funext os;kernel_rfl
end
end HP
namespace L2
open PySem PySem.Spec PyProof.Rows
abbrev Key:=Sum Int Str
noncomputable def qE:Key->Value->Bool
 | .inl k,v=>Value.isInt k v
 | .inr x,v=>Value.isStrOf x v
def UO(w:World):Key->Int
 | .inl k=>hashInt k
 | .inr x=>hashStr w x
theorem c9:∀{k:Key}{v:Value},qE k v=true->(∃i t,k=Sum.inl i/\v=Value.int i t)\/(∃x t,k=Sum.inr x/\v=Value.str x t)
 | .inl i,v,h=>by obtain⟨t,e⟩:=Value.isInt_shape (k:=i) (v:=v) h;exact .inl ⟨i,t,rfl,e⟩
 | .inr x,v,h=>by obtain⟨t,e⟩:=Value.isStrOf_shape (x:=x) (v:=v) h;exact .inr ⟨x,t,rfl,e⟩
theorem DN(i:Int)(t:Tok):qE (.inl i) (.int i t)=true:=by simp[qE,Value.isInt]
theorem DM(x:Str)(t:Tok):qE (.inr x) (.str x t)=true:=by simp[qE,Value.isStrOf]
theorem L4(a b:Int):decide ((Sum.inl a:Key)=Sum.inl b)=(a==b):=by
 by_cases e:a=b
 ·subst e;simp
 ·have h:¬(Sum.inl a:Key)=Sum.inl b:=fun q=>e (Sum.inl.inj q)
  rw[decide_eq_false h];exact(beq_eq_false_iff_ne.mpr e).symm
theorem KZ(a b:Str):decide ((Sum.inr a:Key)=Sum.inr b)=decide (a=b):=by
 by_cases e:a=b
 ·subst e;simp
 ·have h:¬(Sum.inr a:Key)=Sum.inr b:=fun q=>e (Sum.inr.inj q)
  rw[decide_eq_false h,decide_eq_false e]
theorem L1(a:Int)(b:Str):decide ((Sum.inl a:Key)=Sum.inr b)=false:=decide_eq_false (fun q=>nomatch q)
theorem L0(a:Str)(b:Int):decide ((Sum.inr a:Key)=Sum.inl b)=false:=decide_eq_false (fun q=>nomatch q)
noncomputable def bW(prog:Program)(w:World):PySem.KeyKind prog w Key where
 is:=qE
 hash:=UO w
 inj:=fun v a b ha hb=>by
  rcases c9 ha with⟨i,t,rfl,rfl⟩|⟨x,t,rfl,rfl⟩
  ·rcases c9 hb with⟨j,u,rfl,e⟩|⟨y,u,rfl,e⟩
   ·injection e with e1 _;rw[e1]
   ·exact nomatch e
  ·rcases c9 hb with⟨j,u,rfl,e⟩|⟨y,u,rfl,e⟩
   ·exact nomatch e
   ·injection e with e1 _;rw[e1]
 byValue:=fun k v h=>by rcases c9 h with⟨i,t,rfl,rfl⟩|⟨x,t,rfl,rfl⟩<;>rfl
 pyHash:=fun hv h=>by
  rcases c9 hv with⟨i,t,rfl,rfl⟩|⟨x,t,rfl,rfl⟩
  ·exact wpAny_pyHash_int h
  ·exact wpAny_pyHash_str h
 eqBool:=fun hu hv h=>by
  rcases c9 hu with⟨i,t,rfl,rfl⟩|⟨x,t,rfl,rfl⟩
  ·rcases c9 hv with⟨j,u,rfl,rfl⟩|⟨y,u,rfl,rfl⟩
   ·rw[L4]at h;exact wpAny_eqBool_int h
   ·rw[L1]at h;exact SeqAt.EqAt.int_str i t y u _ _ _ _ h
  ·rcases c9 hv with⟨j,u,rfl,rfl⟩|⟨y,u,rfl,rfl⟩
   ·rw[L0]at h;exact SeqAt.EqAt.str_int x t j u _ _ _ _ h
   ·rw[KZ]at h;exact wpAny_eqBool_str h
 «strs» :=fun k x t v h=>by
  rcases c9 h with⟨i,u,rfl,e⟩|⟨y,u,rfl,e⟩
  ·exact nomatch e
  ·injection e with e1 _
   subst e1;cases v<;>rfl
theorem xS(prog:Program)(w:World)(i:Int)(t:Tok):(bW prog w).is (.inl i) (.int i t)=true:=DN i t
theorem xR(prog:Program)(w:World)(x:Str)(t:Tok):(bW prog w).is (.inr x) (.str x t)=true:=DM x t
end L2
namespace L2
open PySem PySem.Spec PyProof.Rows
inductive V where
 |non|bl (b:Bool)|int (i:Int)|str (x:Str)|byt (b:Array UInt8)|flt (b:UInt64)|ref (a:Addr)|ty (n:String)
 deriving DecidableEq
noncomputable def RelV:V->Value->Prop
 | .non,u=>u=Value.none
 | .bl b,u=>u=Value.bool b
 | .int i,u=>∃t,u=Value.int i t
 | .str x,u=>∃t,u=Value.str x t
 | .byt b,u=>∃t,u=Value.bytes b t
 | .flt b,u=>∃t,u=Value.float b t
 | .ref a,u=>u=Value.ref a
 | .ty n,u=>u=Value.type n
abbrev Vals:List V->List Value->Prop:=Paired RelV
theorem Vals.length{xs:List V}{us:List Value}(r:Vals xs us):xs.length=us.length:=Paired.length r
theorem Vals.get:∀{xs:List V}{us:List Value}{i:Nat}{x:V},Vals xs us->xs[i]? =some x->∃u,us[i]? =some u/\RelV x u
 |_,_,_,_,.nil,e=>by simp at e
 |_,_,0,_,.cons r _,e=>by simp at e;subst e;exact⟨_,rfl,r⟩
 |_,_,i+1,x,.cons _ t,e=>by obtain⟨u,h1,h2⟩:=Vals.get (i:=i) (x:=x) t (by simpa using e);exact⟨u,by simpa using h1,h2⟩
theorem Vals.set{x:V}{u:Value}(r:RelV x u):∀{xs:List V}{us:List Value}(i:Nat),Vals xs us->Vals (xs.set i x) (us.set i u)
 |_,_,_,.nil=>.nil
 |_,_,0,.cons _ t=>.cons r t
 |_,_,i+1,.cons q t=>.cons q (Vals.set r i t)
theorem Vals.append:∀{xs ys:List V}{us ws:List Value},Vals xs us->Vals ys ws->Vals (xs++ys) (us++ws)
 |_,_,_,_,.nil,s=>s
 |_,_,_,_,.cons r t,s=>.cons r (Vals.append t s)
theorem Vals.take:∀{xs:List V}{us:List Value}(n:Nat),Vals xs us->Vals (xs.take n) (us.take n)
 |_,_,0,_=>.nil
 |_,_,_+1,.nil=>.nil
 |_,_,n+1,.cons r t=>.cons r (Vals.take n t)
theorem Vals.drop:∀{xs:List V}{us:List Value}(n:Nat),Vals xs us->Vals (xs.drop n) (us.drop n)
 |_,_,0,r=>r
 |_,_,_+1,.nil=>.nil
 |_,_,n+1,.cons _ t=>Vals.drop n t
noncomputable def mK:Option V->Option Value->Prop
 |some v,some u=>RelV v u
 |none,none=>True
 |_,_=>False
noncomputable def KV{κ:Type}:List (κ×V)->List (κ×Value)->Prop:=Paired fun(p:κ×V)(q:κ×Value)=>p.1=q.1/\RelV p.2 q.2
def kV:Key->V
 | .inl i=>.int i
 | .inr x=>.str x
inductive HO where
 |lst (xs:List V)
 |tup (xs:List V)
 |dK (kvs:List (Key×V))|dT (kvs:List (List Key×V))
 |set (S:Int->Bool) (n:Nat)
 |ins (C dx:Addr) (fs:List (Str×V))
 |own (x:Addr)
 |xd (fs:List (Str×V))
 |met (f x:Addr)
 |rng (lo hi:Int)
 |frz (o:Obj) (u:HO)
 |tbl (ps:Array Value)
 |ext (φ:Heap->Prop)
abbrev Hp:=Addr->Option HO
def upd(H:Hp)(a:Addr)(o:HO):Hp:=fun b=>if b=a then some o else H b
theorem a7{H:Hp}{a:Addr}{o:HO}:upd H a o a=some o:=by unfold upd;rw[if_pos rfl]
theorem aA{H:Hp}{a b:Addr}{o:HO}(h:b≠a):upd H a o b=H b:=by unfold upd;rw[if_neg h]
theorem HJ{H:Hp}{a:Addr}{o u:HO}:upd (upd H a o) a u=upd H a u:=by funext b;unfold upd;split<;>rfl
theorem eT{H:Hp}{a b:Addr}{o u:HO}(h:H a=some o)(h':H b=some u)(d:o≠u):a≠b:=by intro e;subst e;rw[h]at h';exact d (Option.some.inj h')
theorem aG{H:Hp}{a b:Addr}{o:HO}(h:H a=some o)(h':H b=none):a≠b:=by intro e;subst e;rw[h]at h';cases h'
section
variable (P:Program) (w:World)
noncomputable def cW(H:Hp)(h:Heap)(a:Addr):HO->Prop
 | .lst xs=>xs.length<=sizeLine/\∃(its:List Value)(n:Nat),Vals xs its/\h.get? a=some {cls:=.type "list",data:=.seq its.toArray n}
 | .tup xs=>xs.length<=sizeLine/\∃its:List Value,Vals xs its/\IsTup h a its.toArray
 | .dK kvs=>kvs.length<=sizeLine/\(a==sysModules)=false/\∃vs,KV kvs vs/\h.DictOf (bW P w) a vs
 | .dT kvs=>kvs.length<=sizeLine/\(a==sysModules)=false/\∃xs:List (List Key×Addr×Value),
   Paired (fun(p:List Key×V)(q:List Key×Addr×Value)=>p.1=q.1/\H q.2.1=some (.tup (p.1.map kV))/\RelV p.2 q.2.2) kvs xs/\
   ∃o es ep,h.get? a=some o/\o.ExactDict/\o.data=.dict es ep/\es.toList=xs.map (entryOfKey (tupleKind (bW P w)))/\(xs.map (·.1)).Nodup
 | .set S n=>h.SetOf (intKind P w) a S n
 | .ins C dx fs=>H dx=some (.own a)/\fs.length<=1000/\dx≠a/\h.get? a=some (W.instObj C dx)/\
   ∃mA,h.Ns1 dx mA/\(∀f,mK (fs.lookup f) (mA f))/\PySem.Within mA (fs.map (·.1))
 | .own _=>∃o,h.get? a=some o
 | .xd fs=>∃mA,h.Ns1 a mA/\∀f,mK (fs.lookup f) (mA f)
 | .rng lo hi=>∃t u v,h.get? a=some {cls:=.type "range",data:=.fields #[.int lo t,.int hi u,.int 1 v]}
 | .frz o u=>h.get? a=some o/\cW H h a u
 | .tbl ps=>h.get? a=some {cls:=.none,data:=.fields ps}
 | .met f x=>h.get? a=some (W.methodObj (.ref f) (.ref x))
 | .ext φ=>φ h/\(∃o,h.get? a=some o)/\∀h1 h2:Heap,φ h1->(∀o,h1.get? a=some o->h2.get? a=some o)->φ h2
def HOk(H:Hp)(h:Heap):Prop:=∀a o,H a=some o->cW P w H h a o
end
section
variable {P:Program}{w:World}{H H':Hp}{h h':Heap}{a:Addr}{o:HO}
theorem cW.lt(x:cW P w H h a o):a<h.objs.size:=by
 cases o with
 |lst xs=>obtain⟨_,_,_,_,e⟩:=x;exact Heap.lt_size e
 |tup xs=>obtain⟨_,_,_,p⟩:=x;exact p.lt
 |dK kvs=>obtain⟨_,_,_,_,o,_,_,e,_⟩:=x;exact Heap.lt_size e
 |dT kvs=>obtain⟨_,_,_,_,o,_,_,e,_⟩:=x;exact Heap.lt_size e
 |set S n=>obtain⟨o,_,_,_,e,_⟩:=x;exact Heap.lt_size e
 |ins C dx fs=>obtain⟨_,_,_,e,_⟩:=x;exact Heap.lt_size e
 |own y=>obtain⟨_,e⟩:=x;exact Heap.lt_size e
 |xd fs=>obtain⟨_,⟨_,_,_,e,_⟩,_⟩:=x;exact Heap.lt_size e
 |rng lo hi=>obtain⟨_,_,_,e⟩:=x;exact Heap.lt_size e
 |frz ob u=>obtain⟨e,_⟩:=x;exact Heap.lt_size e
 |tbl ps=>exact Heap.lt_size (show h.get? a=some _ from x)
 |met f y=>exact Heap.lt_size (show h.get? a=some _ from x)
 |ext φ=>obtain⟨_,⟨_,e⟩,_⟩:=x;exact Heap.lt_size e
theorem Paired.KR{α β:Type}{F G:α->β->Prop}:∀{l₁:List α}{l₂:List β},Paired F l₁ l₂->(∀a b,F a b->G a b)->Paired G l₁ l₂
 |_,_,.nil,_=>.nil
 |_,_,.cons r t,f=>.cons (f _ _ r) (Paired.KR t f)
theorem cW.mT(x:cW P w H h a o)(k:∀b u,(b=a\/H b=some (.own a))->h.get? b=some u->h'.get? b=some u)
  (ho:∀b,H b=some (.own a)->H' b=some (.own a)) (ht:∀b xs,H b=some (.tup xs)->H' b=some (.tup xs)):cW P w H' h' a o:=by
 induction o with
 |lst xs=>obtain⟨z,its,n,r,e⟩:=x;exact⟨z,its,n,r,k _ _ (.inl rfl) e⟩
 |tup xs=>obtain⟨z,its,r,ob,e,c⟩:=x;exact⟨z,its,r,ob,k _ _ (.inl rfl) e,c⟩
 |dK kvs=>obtain⟨z,y,vs,r,ob,es,ep,e,c⟩:=x;exact⟨z,y,vs,r,ob,es,ep,k _ _ (.inl rfl) e,c⟩
 |dT kvs=>obtain⟨z,y,xs,r,ob,es,ep,e,c⟩:=x;exact⟨z,y,xs,Paired.KR r fun p q z=>⟨z.1,ht _ _ z.2.1,z.2.2⟩,ob,es,ep,k _ _ (.inl rfl) e,c⟩
 |set S n=>obtain⟨ob,es,ep,t,e,c⟩:=x;exact⟨ob,es,ep,t,k _ _ (.inl rfl) e,c⟩
 |ins C dx fs=>obtain⟨d,z,ne,e,mA,⟨od,es,ep,e2,c⟩,r⟩:=x;exact⟨ho _ d,z,ne,k _ _ (.inl rfl) e,mA,⟨od,es,ep,k _ _ (.inr d) e2,c⟩,r⟩
 |own y=>obtain⟨ob,e⟩:=x;exact⟨ob,k _ _ (.inl rfl) e⟩
 |xd fs=>obtain⟨mA,⟨od,es,ep,e,c⟩,r⟩:=x;exact⟨mA,⟨od,es,ep,k _ _ (.inl rfl) e,c⟩,r⟩
 |rng lo hi=>obtain⟨t,u,v,e⟩:=x;exact⟨t,u,v,k _ _ (.inl rfl) e⟩
 |frz ob u ih=>obtain⟨e,q⟩:=x;exact⟨k _ _ (.inl rfl) e,ih q⟩
 |tbl ps=>
  have e:h.get? a=some {cls:=.none,data:=.fields ps}:=x;show h'.get? a=some {cls:=.none,data:=.fields ps}
  exact k a _ (.inl rfl) e
 |met f y=>
  have e:h.get? a=some (W.methodObj (.ref f) (.ref y)):=x;show h'.get? a=some (W.methodObj (.ref f) (.ref y))
  exact k a _ (.inl rfl) e
 |ext φ=>obtain⟨p,⟨o,e⟩,st⟩:=x;exact⟨st _ _ p fun o q=>k _ _ (.inl rfl) q,⟨o,k _ _ (.inl rfl) e⟩,st⟩
theorem HOk.lt(x:HOk P w H h)(e:H a=some o):a<h.objs.size:=(x a o e).lt
theorem HOk.fresh(x:HOk P w H h)(e:h.objs.size<=a):H a=none:=by
 cases q:H a with
 |none=>rfl
 |some u=>exact absurd (Nat.lt_of_lt_of_le (x.lt q) e) (Nat.lt_irrefl _)
theorem HOk.kept(x:HOk P w H h)(k:∀b u,h.get? b=some u->h'.get? b=some u):HOk P w H h':=fun a o e=>
 (x a o e).mT (fun b u _ q=>k b u q) (fun _ q=>q) fun _ _ q=>q
theorem HOk.laid(x:HOk P w H h)(k:∀b u,h.get? b=some u->h'.get? b=some u)(hp:h.objs.size<=a)(new:cW P w (upd H a o) h' a o):HOk P w (upd H a o) h':=fun b u e=>by
 have hn:=x.fresh hp;by_cases hb:b=a
 ·subst hb;rw[a7]at e;cases e;exact new
 ·rw[aA hb]at e;exact(x b u e).mT (fun c v _ q=>k c v q) (fun c q=>by rw[aA (aG q hn)];exact q) fun c xs q=>by rw[aA (aG q hn)];exact q
end
def Rd(H:Hp)(a:Addr)(u:HO):Prop:=H a=some u\/∃o,H a=some (.frz o u)
theorem Rd.ok{P:Program}{w:World}{H:Hp}{h:Heap}{a:Addr}{u:HO}(r:Rd H a u)(x:HOk P w H h):cW P w H h a u:=by
 rcases r with r|⟨o,r⟩
 ·exact x a u r
 ·obtain⟨_,q⟩:=x a _ r;exact q
noncomputable def Mut:Option HO->Prop
 |some (.lst _)=>True
 |some (.dK _)=>True
 |some (.dT _)=>True
 |some (.set _ _)=>True
 |some (.ins _ _ _)=>True
 |some (.ext _)=>True
 |_=>False
section
variable {P:Program}{w:World}{H:Hp}{h h':Heap}{x e:Addr}{o':HO}
theorem HOk.write(ok:HOk P w H h)(mu:Mut (H x))(he:e=x\/H e=some (.own x))(k:∀b u,b≠e->h.get? b=some u->h'.get? b=some u)(heo:∃u,h'.get? e=some u)
  (new:cW P w (upd H x o') h' x o'):HOk P w (upd H x o') h':=fun b u q=>by
 have nown:∀c y,H c=some (.own y)->c≠x:=fun c y r z=>by subst z;rw[r]at mu;exact mu
 have ntup:∀c xs,H c=some (.tup xs)->c≠x:=fun c xs r z=>by subst z;rw[r]at mu;exact mu
 by_cases hb:b=x
 ·subst hb;rw[a7]at q;cases q;exact new
 ·rw[aA hb]at q;by_cases hbe:b=e
  ·have q':H b=some (.own x):=by
    rcases he with z|z
    ·exact absurd (hbe.trans z) hb
    ·rw[hbe];exact z
   rw[q]at q';cases q';obtain⟨v,hv⟩:=heo;exact⟨v,by rw[hbe];exact hv⟩
  ·refine(ok b u q).mT (fun c v hc r=>k c v ?_ r) (fun c r=>by rw[aA (nown c b r)];exact r) fun c xs r=>by rw[aA (ntup c xs r)];exact r
   rcases hc with rfl|hc
   ·exact hbe
   ·rintro rfl;rcases he with z|z
    ·exact nown c b hc z
    ·rw[hc]at z;cases z;exact hb rfl
end
structure Un(fs ex:List Addr)(H H':Hp)(h h':Heap):Prop where
 keep:∀b o,h.get? b=some o->H b=none->b∉fs->b∉ex->h'.get? b=some o
 slot:∀b o,h.get? b=some o->H b=none->b∈fs->b∉ex->∃sl,h'.get? b=some {o with slots:=sl}
 free:∀b o,h.get? b=some o->H b=none->b∉ex->H' b=none
 there:∀b o,h.get? b=some o->b∉ex->∃o',h'.get? b=some o'
 tH:∀b xs,H b=some (.tup xs)->H' b=some (.tup xs)
 nO:∀b o u,H b=some (.frz o u)->H' b=some (.frz o u)
 rC:∀b ps,H b=some (.tbl ps)->∃more,H' b=some (.tbl (ps++more))
section
variable {fs fs' ex ex':List Addr}{H H1 H2:Hp}{h h1 h2 h':Heap}{a x e:Addr}{o:HO}
theorem Un.any(u:Un fs ex H H1 h h1){b:Addr}{ob:Obj}(q:h.get? b=some ob)(n:H b=none)(hx:b∉ex):∃sl,h1.get? b=some {ob with slots:=sl}:=by
 by_cases hb:b∈fs
 ·exact u.slot b ob q n hb hx
 ·exact⟨ob.slots,u.keep b ob q n hb hx⟩
theorem Un.kept(k:∀b u,h.get? b=some u->h'.get? b=some u):Un fs ex H H h h':=
 ⟨fun b ob q _ _ _=>k b ob q,fun b ob q _ _ _=>⟨ob.slots,k b ob q⟩,fun _ _ _ n _=>n,fun b ob q _=>⟨ob,k b ob q⟩,fun _ _ q=>q,fun _ _ _ q=>q,fun _ ps q=>⟨#[],by rw[q];simp⟩⟩
theorem Un.refl:Un fs ex H H h h:=Un.kept fun _ _ q=>q
theorem Un.laid(k:∀b u,h.get? b=some u->h'.get? b=some u)(hp:h.objs.size<=a)(hn:H a=none):Un fs ex H (upd H a o) h h' where
 keep:=fun b u q _ _ _=>k b u q
 slot:=fun b u q _ _ _=>⟨u.slots,k b u q⟩
 free:=fun b u q n _=>by rw[aA (Nat.ne_of_lt (Nat.lt_of_lt_of_le (Heap.lt_size q) hp))];exact n
 there:=fun b u q _=>⟨u,k b u q⟩
 tH:=fun b xs q=>by rw[aA (aG q hn)];exact q
 nO:=fun b u xs q=>by rw[aA (aG q hn)];exact q
 rC:=fun b ps q=>⟨#[],by rw[aA (aG q hn),q];simp⟩
theorem Un.write(mu:Mut (H x))(he:e=x\/H e=some (.own x))(k:∀b u,b≠e->h.get? b=some u->h'.get? b=some u)(heo:∃u,h'.get? e=some u):Un fs ex H (upd H x o) h h':=by
 have hx:∀b,H b=none->b≠x:=fun b n z=>by subst z;rw[n]at mu;exact mu
 have hb:∀b,H b=none->b≠e:=fun b n z=>by
  subst z;rcases he with r|r
  ·exact hx b n r
  ·rw[n]at r;cases r
 have hm:∀b u,H b=some u->¬Mut (some u)->b≠x:=fun b u q nm z=>by subst z;rw[q]at mu;exact nm mu
 refine⟨fun b u q n _ _=>k b u (hb b n) q,fun b u q n _ _=>⟨u.slots,k b u (hb b n) q⟩,fun b u q n _=>by rw[aA (hx b n)];exact n,fun b u q _=>?_,
  fun b xs q=>by rw[aA (hm b _ q fun z=>z)];exact q,fun b u xs q=>by rw[aA (hm b _ q fun z=>z)];exact q,fun b ps q=>⟨#[],by rw[aA (hm b _ q fun z=>z),q];simp⟩⟩
 by_cases hbe:b=e
 ·subst hbe;exact heo
 ·exact⟨u,k b u hbe q⟩
end
def trk(h:Heap)(H:Hp):List Addr:=(List.range h.objs.size).filter fun a=>(H a).isSome
def vY(h:Heap)(H:Hp):Heap:=W.hideAll h (trk h H)
theorem DP(h:Heap)(H:Hp):(vY h H).objs.size=h.objs.size:=W.hideAll_size _ _
theorem GA{h:Heap}{H:Hp}{b:Addr}{o:Obj}(e:h.get? b=some o)(n:H b=none):(vY h H).get? b=some o:=
 W.hideAll_get _ e fun hm=>by have q:(H b).isSome=true:=(List.mem_filter.mp hm).2;rw[n]at q;simp at q
theorem II{h:Heap}{H:Hp}{b:Addr}{o:Obj}(e:(vY h H).get? b=some o):h.get? b=some o/\H b=none:=by
 have e':h.get? b=some o:=W.of_hideAll (trk h H) e;refine⟨e',?_⟩;cases q:H b with
 |none=>rfl
 |some x=>have hm:b∈trk h H:=List.mem_filter.mpr ⟨List.mem_range.mpr (Heap.lt_size e'),by simp[q]⟩;have z:(vY h H).get? b=none:=W.hideAll_none (trk h H) hm;rw[z]at e;cases e
end L2
namespace L2
open PySem PySem.Spec PyProof.Rows
structure Mod(K:W.Frag)(mg:Str->Option Value)(base:Heap):Prop where
 kin:K.In base
 glob:base.Ns mainGlobals mg
 blt:∃mb,base.Ns builtinsNs mb/\∀x:Str,x≠ "__name__" ->mb x=bootBuiltins x
 nolimit:base.NoLimit
structure Cx where
 prog:Program
 w:World
 K:W.Frag
 mg:Str->Option Value
 base:Heap
 A:Around
 N:List Str
 s_0:Shared
 H_0:Hp
 env:Env
 outer:List Env
 stack:List Env
 ex:List Addr
 fn:Str->Bool
 calm:Bool
 pn:List (Addr×Obj)
 xe:Value->Shared->Prop
def frs(l:List Env):List Addr:=l.filterMap (·.frame)
abbrev Cx.fs(X:Cx):List Addr:=frs X.outer
noncomputable def Vis(sc:Scope)(x:Str):Prop:=sc.names.lookup x=some .local\/sc.names.lookup x=some .cell\/sc.names.lookup x=some .free
noncomputable def Loc(sc:Scope)(x:Str):Prop:=sc.names.lookup x=some .local\/sc.names.lookup x=some .cell
noncomputable def Look(env:Env)(h:Heap)(m:Str->Option Value)(x:Str)(u:Value):Prop:=
 (env.kindOf x=some .local/\m x=some u)\/((env.kindOf x=some .cell\/env.kindOf x=some .free)/\∃c,env.cells.lookup x=some c/\h.IsCell c (some u))
structure Cx.Ok(X:Cx):Prop where
 mod:Mod X.K X.mg X.base
 kind:X.env.scope.kind=.function
 glob:X.env.globals=mainGlobals
 blt:X.env.builtins=builtinsNs
 above:X.s_0.heap.objs.size<=X.env.locals
 inj:∀x y c,X.env.cells.lookup x=some c->X.env.cells.lookup y=some c->x=y
 has:∀x,(X.env.kindOf x=some .cell\/X.env.kindOf x=some .free)->∃c,X.env.cells.lookup x=some c
 cab:∀x c,X.fn x=true->X.env.cells.lookup x=some c->X.s_0.heap.objs.size<=c
 hd:X.calm=true->X.A.handled=none
 frames:X.A.frames=some X.stack
 stk:X.stack=X.outer\/(X.stack=X.env::X.outer/\X.env.frame=some X.env.locals)
 exf:∀b∈X.ex,b≠X.env.locals/\∀x c,X.env.cells.lookup x=some c->c≠b
 bs:∀b o,X.base.get? b=some o->X.s_0.heap.get? b=some o/\X.H_0 b=none
 bsz:X.base.objs.size<=X.s_0.heap.objs.size
 FY:∀b o,X.base.get? b=some o->b∉X.ex
 B2:∀b∈X.ex,b∉X.fs
 kA:X.s_0.heap.FunFrames X.base X.outer
 frf:∀b∈X.fs,X.H_0 b=none
structure Inv(X:Cx)(pins:List (Addr×Obj))(σ:List (Option V))(H:Hp)(s:Shared):Prop where
 ok:X.Ok
 os:s.os=X.s_0.os
 bare:AllBare s.gens
 base:Un X.fs X.ex X.H_0 H X.s_0.heap s.heap
 loc:∃m,s.heap.Ns X.env.locals m/\∀(i:Nat)(x:Str)(v:V),X.N[i]? =some x->σ[i]? =some (some v)->Vis X.env.scope x->∃u,RelV v u/\Look X.env s.heap m x u
 cell:∀x c,X.env.cells.lookup x=some c->∃v,s.heap.IsCell c v
 free:H X.env.locals=none
 gW:∀x c,X.env.cells.lookup x=some c->H c=none
 pin:∀p∈X.pn++pins,s.heap.get? p.1=some p.2/\H p.1=none/\p.1≠X.env.locals/\p.1∉X.fs/\∀v,p.2.data≠ .cell v
 hok:HOk X.prog X.w H s.heap
 len:σ.length=X.N.length
section
variable {X:Cx}{pins:List (Addr×Obj)}{σ:List (Option V)}{H H':Hp}{s:Shared}{h':Heap}
theorem Cx.Ok.UN(ok:X.Ok){b:Addr}{o:Obj}(e:X.base.get? b=some o):b∉X.fs:=fun hb=>by have:=(ok.kA.mem hb).1;rw[e]at this;cases this
theorem Inv.bs(I:Inv X pins σ H s):∀b o,X.base.get? b=some o->s.heap.get? b=some o/\H b=none:=fun b o e=>
 ⟨I.base.keep b o (I.ok.bs b o e).1 (I.ok.bs b o e).2 (I.ok.UN e) (I.ok.FY b o e),I.base.free b o (I.ok.bs b o e).1 (I.ok.bs b o e).2 (I.ok.FY b o e)⟩
theorem Inv.bk(I:Inv X pins σ H s):∀b o,X.base.get? b=some o->s.heap.get? b=some o:=fun b o e=>(I.bs b o e).1
theorem Inv.mod(I:Inv X pins σ H s):Mod X.K X.mg X.base:=I.ok.mod
theorem Inv.kIn(I:Inv X pins σ H s):X.K.In s.heap:=I.ok.mod.kin.keeps I.bk
theorem Inv.lt(I:Inv X pins σ H s):X.env.locals<s.heap.objs.size:=let⟨_,hn,_⟩:=I.loc;hn.lt
theorem Inv.sz(I:Inv X pins σ H s):X.s_0.heap.objs.size<=s.heap.objs.size:=Nat.le_trans I.ok.above (Nat.le_of_lt I.lt)
theorem Inv.UM(I:Inv X pins σ H s){a:Addr}(h:s.heap.objs.size<=a):a∉X.fs:=fun hb=>by obtain⟨_,o,ho,_⟩:=I.ok.kA.mem hb;exact absurd (Nat.lt_of_lt_of_le (Heap.lt_size ho) (Nat.le_trans I.sz h)) (Nat.lt_irrefl _)
theorem Inv.cne(I:Inv X pins σ H s):∀x c,X.env.cells.lookup x=some c->c≠X.env.locals:=fun x c e z=>by obtain⟨v,o,ho,hd⟩:=I.cell x c e;obtain⟨m,⟨o',es,ep,ho',hd',_⟩,_⟩:=I.loc;rw[z,ho']at ho;cases ho;rw[hd']at hd;cases hd
theorem Inv.kA(I:Inv X pins σ H s):s.heap.FunFrames X.base X.outer:=by
 have all:∀(l:List Env),(∀b∈frs l,b∈X.fs)->X.s_0.heap.FunFrames X.base l->s.heap.FunFrames X.base l:=by
  intro l;induction l with
  |nil=>intro _ _;trivial
  |cons env r ih=>
   intro hs hl;obtain⟨hk,⟨L,o,hf,hn,ho,hd⟩,hr⟩:=hl;have hL:L∈X.fs:=hs L (by unfold frs;rw[List.filterMap_cons,hf];exact List.mem_cons_self);obtain⟨sl,e⟩:=I.base.slot L o ho (I.ok.frf L hL) hL fun z=>I.ok.B2 L z hL
   exact⟨hk,⟨L,_,hf,hn,e,hd⟩,ih (fun b hb=>hs b (by unfold frs;rw[List.filterMap_cons,hf];exact List.mem_cons_of_mem _ hb)) hr⟩
 exact all X.outer (fun _ hb=>hb) I.ok.kA
theorem Inv.stack(I:Inv X pins σ H s):s.heap.FunFrames X.base X.stack:=by
 rcases I.ok.stk with e|⟨e,hf⟩
 ·rw[e];exact I.kA
 ·rw[e];obtain⟨m,hn,_⟩:=I.loc;refine .cons (by rw[I.ok.kind];decide) hf hn ?_ I.kA;exact Heap.get?_none_of_le (Nat.le_trans I.ok.bsz I.ok.above)
theorem Inv.rF(I:Inv X pins σ H s):∀b∈frs X.stack,b∈X.env.locals::X.fs:=fun b hb=>by
 rcases I.ok.stk with e|⟨e,hf⟩
 ·rw[e]at hb;exact List.mem_cons_of_mem _ hb
 ·rw[e]at hb;unfold frs at hb;rw[List.filterMap_cons,hf]at hb;exact hb
theorem Inv.vL(I:Inv X pins σ H s):∀b∈frs X.stack,H b=none:=fun b hb=>by
 rcases List.mem_cons.mp (I.rF b hb)with e|hb
 ·rw[e];exact I.free
 ·obtain⟨_,o,ho,_⟩:=I.ok.kA.mem hb;exact I.base.free b o ho (I.ok.frf b hb) fun z=>I.ok.B2 b z hb
theorem Inv.step{g':Array GenState}{t':Nat}{d':Drawn}{ch:List Addr}(I:Inv X pins σ H s)
  (hch:∀b∈ch,(b∈X.ex\/X.s_0.heap.objs.size<=b)/\b≠X.env.locals/\(∀x c,X.env.cells.lookup x=some c->c≠b)/\∀p∈X.pn++pins,p.1≠b)
  (keep:∀b o,b≠X.env.locals->b∉X.fs->b∉ch->s.heap.get? b=some o->H b=none->h'.get? b=some o)
  (slot:∀b o,b≠X.env.locals->b∈X.fs->b∉ch->s.heap.get? b=some o->H b=none->∃sl,h'.get? b=some {o with slots:=sl}) (free:∀b o,b∉ch->s.heap.get? b=some o->H b=none->H' b=none)
  (there:∀b o,b∉ch->s.heap.get? b=some o->∃o',h'.get? b=some o')
  (tH:∀b xs,H b=some (.tup xs)->H' b=some (.tup xs)) (nO:∀b o u,H b=some (.frz o u)->H' b=some (.frz o u)) (rC:∀b ps,H b=some (.tbl ps)->∃more,H' b=some (.tbl (ps++more)))
  (ns:∀m,s.heap.Ns X.env.locals m->h'.Ns X.env.locals m) (hok:HOk X.prog X.w H' h') (hg:AllBare g'):
  Inv X pins σ H' {s with heap:=h',gens:=g',drawn:=d',toks:=t'}:=by
 have neL:∀b o,X.s_0.heap.get? b=some o->b≠X.env.locals:=fun b o e=>Nat.ne_of_lt (Nat.lt_of_lt_of_le (Heap.lt_size e) I.ok.above)
 have neC:∀b o,X.s_0.heap.get? b=some o->b∉X.ex->b∉ch:=fun b o e hx hb=>by
  rcases(hch b hb).1 with z|z
  ·exact hx z
  ·exact absurd (Nat.lt_of_lt_of_le (Heap.lt_size e) z) (Nat.lt_irrefl _)
 have cellK:∀x c,X.env.cells.lookup x=some c->∀v,s.heap.IsCell c v->h'.IsCell c v:=fun x c e v ⟨o,ho,hd⟩=>by
  have nch:c∉ch:=fun z=>(hch c z).2.2.1 x c e rfl
  by_cases hc:c∈X.fs
  ·obtain⟨sl,q⟩:=slot c o (I.cne x c e) hc nch ho (I.gW x c e);exact⟨_,q,hd⟩
  ·exact⟨o,keep c o (I.cne x c e) hc nch ho (I.gW x c e),hd⟩
 refine⟨I.ok,I.os,hg,⟨fun b o e n hb hx=>?_,fun b o e n hb hx=>?_,fun b o e n hx=>?_,fun b o e hx=>?_,fun b xs e=>tH b xs (I.base.tH b xs e),fun b o xs e=>nO b o xs (I.base.nO b o xs e),fun b ps e=>?_⟩,?_,fun x c e=>?_,?_,fun x c e=>?_,fun p hp=>?_,hok,I.len⟩
 ·exact keep b o (neL b o e) hb (neC b o e hx) (I.base.keep b o e n hb hx) (I.base.free b o e n hx)
 ·obtain⟨sl,e1⟩:=I.base.slot b o e n hb hx;obtain⟨sl',e2⟩:=slot b _ (neL b o e) hb (neC b o e hx) e1 (I.base.free b o e n hx);exact⟨sl',e2⟩
 ·obtain⟨o',e1⟩:=I.base.there b o e hx;exact free b o' (neC b o e hx) e1 (I.base.free b o e n hx)
 ·obtain⟨o',e1⟩:=I.base.there b o e hx;exact there b o' (neC b o e hx) e1
 ·obtain⟨m1,e1⟩:=I.base.rC b ps e;obtain⟨m2,e2⟩:=rC b _ e1;exact⟨m1++m2,by rw[e2,Array.append_assoc]⟩
 ·obtain⟨m,hn,hl⟩:=I.loc;refine⟨m,ns m hn,fun i x v e1 e2 e3=>?_⟩;obtain⟨u,r,l⟩:=hl i x v e1 e2 e3;refine⟨u,r,?_⟩;rcases l with l|⟨k,c,e,z⟩
  ·exact .inl l
  ·exact .inr ⟨k,c,e,cellK x c e _ z⟩
 ·obtain⟨v,z⟩:=I.cell x c e;exact⟨v,cellK x c e v z⟩
 ·obtain⟨m,⟨o,_,_,ho,_⟩,_⟩:=I.loc;exact free _ o (fun z=>(hch _ z).2.1 rfl) ho I.free
 ·obtain⟨v,o,ho,hd⟩:=I.cell x c e;exact free c o (fun z=>(hch c z).2.2.1 x c e rfl) ho (I.gW x c e)
 ·obtain⟨e,n,ne,nf,d⟩:=I.pin p hp;have nch:p.1∉ch:=fun z=>(hch p.1 z).2.2.2 p hp rfl
  exact⟨keep p.1 p.2 ne nf nch e n,free p.1 p.2 nch e n,ne,nf,d⟩
theorem Inv.un{t':Nat}(I:Inv X pins σ H s)(u:Un X.fs [] H H' s.heap h')(hok:HOk X.prog X.w H' h'):Inv X pins σ H' {s with heap:=h',toks:=t'}:=by
 obtain⟨m,⟨o,es,ep,ho,r⟩,_⟩:=id I.loc;obtain⟨sl,hL⟩:=u.any ho I.free (by simp);exact I.step (g':=s.gens) (d':=s.drawn) (ch:=[]) (fun _ z=>nomatch z) (fun b o _ hb _ e n=>u.keep b o e n hb (by simp)) (fun b o _ hb _ e n=>u.slot b o e n hb (by simp)) (fun b o _ e n=>u.free b o e n (by simp)) (fun b o _ e=>u.there b o e (by simp)) u.tH u.nO u.rC (fun m' hm=>by
  obtain⟨o',es',ep',ho',r'⟩:=hm;rw[ho]at ho';cases ho';exact⟨_,es',ep',hL,r'⟩) hok I.bare
theorem Inv.call{g':Array GenState}{t':Nat}{d':Drawn}{ch:List Addr}(I:Inv X pins σ H s)(u:Un (frs X.stack) ch H H' s.heap h')(hok:HOk X.prog X.w H' h')(hg:AllBare g')
  (hch:∀b∈ch,(b∈X.ex\/X.s_0.heap.objs.size<=b)/\b≠X.env.locals/\(∀x c,X.env.cells.lookup x=some c->c≠b)/\∀p∈X.pn++pins,p.1≠b):
  Inv X pins σ H' {s with heap:=h',gens:=g',drawn:=d',toks:=t'}:=by
 obtain⟨m,⟨o,es,ep,ho,r⟩,_⟩:=id I.loc;obtain⟨sl,hL⟩:=u.any ho I.free fun z=>(hch _ z).2.1 rfl
 exact I.step (ch:=ch) hch (fun b o hL hb hc e n=>u.keep b o e n (fun z=>(List.mem_cons.mp (I.rF b z)).elim hL hb) hc) (fun b o _ _ hc e n=>u.any e n hc) (fun b o hc e n=>u.free b o e n hc) (fun b o hc e=>u.there b o e hc) u.tH u.nO u.rC (fun m' hm=>by
  obtain⟨o',es',ep',ho',r'⟩:=hm;rw[ho]at ho';cases ho';exact⟨_,es',ep',hL,r'⟩) hok hg
theorem Inv.turned{t':Nat}{it:Addr}(I:Inv X pins σ H s)(k:∀b o,b≠it->s.heap.get? b=some o->h'.get? b=some o)(hn:H it=none)(hL:it≠X.env.locals)
  (h1:it∈X.ex\/X.s_0.heap.objs.size<=it) (h2:∀x c,X.env.cells.lookup x=some c->c≠it) (h3:∀p∈X.pn++pins,p.1≠it):Inv X pins σ H {s with heap:=h',toks:=t'}:=by
 have nit:∀b u,H b=some u->b≠it:=fun b u e z=>by rw[z,hn]at e;cases e
 refine I.step (g':=s.gens) (d':=s.drawn) (ch:=[it]) (fun b hb=>?_) (fun b o _ _ hc e _=>k b o (fun z=>hc (by simp[z])) e) (fun b o _ _ hc e _=>⟨o.slots,k b o (fun z=>hc (by simp[z])) e⟩) (fun _ _ _ _ n=>n)
  (fun b o hc e=>⟨o,k b o (fun z=>hc (by simp[z])) e⟩) (fun _ _ e=>e) (fun _ _ _ e=>e) (fun b ps e=>⟨#[],by rw[e];simp⟩) (fun m hm=>?_) (fun b u e=>?_) I.bare
 ·have e:b=it:=by simpa using hb
  subst e;exact⟨h1,hL,h2,h3⟩
 ·obtain⟨o,es,ep,ho,r⟩:=hm;exact⟨o,es,ep,k _ o (Ne.symm hL) ho,r⟩
 ·refine(I.hok b u e).mT (fun c v hc q=>k c v ?_ q) (fun _ q=>q) fun _ _ q=>q
  rcases hc with z|z
  ·rw[z];exact nit b u e
  ·exact nit c _ z
theorem Inv.tok(I:Inv X pins σ H s)(t:Nat):Inv X pins σ H {s with toks:=t}:=I.un (h':=s.heap) (t':=t) Un.refl I.hok
theorem Inv.kept{t':Nat}(I:Inv X pins σ H s)(k:∀b u,s.heap.get? b=some u->h'.get? b=some u):Inv X pins σ H {s with heap:=h',toks:=t'}:=I.un (Un.kept k) (I.hok.kept k)
theorem Inv.laid{a:Addr}{o:HO}{t':Nat}(I:Inv X pins σ H s)(k:∀b u,s.heap.get? b=some u->h'.get? b=some u)(hp:s.heap.objs.size<=a)(new:cW X.prog X.w (upd H a o) h' a o):
  Inv X pins σ (upd H a o) {s with heap:=h',toks:=t'}:=I.un (Un.laid k hp (I.hok.fresh hp)) (I.hok.laid k hp new)
theorem Inv.write{x e:Addr}{o:HO}{t':Nat}(I:Inv X pins σ H s)(mu:Mut (H x))(he:e=x\/H e=some (.own x))(k:∀b u,b≠e->s.heap.get? b=some u->h'.get? b=some u)(heo:∃u,h'.get? e=some u)
  (new:cW X.prog X.w (upd H x o) h' x o):Inv X pins σ (upd H x o) {s with heap:=h',toks:=t'}:=I.un (Un.write mu he k heo) (I.hok.write mu he k heo new)
theorem Inv.weak{σ':List (Option V)}(I:Inv X pins σ H s)(hl:σ'.length=σ.length)(w:∀(i:Nat) v,σ'[i]? =some (some v)->σ[i]? =some (some v)):Inv X pins σ' H s:=
 ⟨I.ok,I.os,I.bare,I.base,let⟨m,hn,hl'⟩:=I.loc;⟨m,hn,fun i x v e1 e2 e3=>hl' i x v e1 (w i v e2) e3⟩,I.cell,I.free,I.gW,I.pin,I.hok,hl.trans I.len⟩
theorem Inv.BM{pins':List (Addr×Obj)}(I:Inv X pins σ H s)(h:∀p∈pins',s.heap.get? p.1=some p.2/\H p.1=none/\p.1≠X.env.locals/\p.1∉X.fs/\∀v,p.2.data≠ .cell v):Inv X pins' σ H s:=
 ⟨I.ok,I.os,I.bare,I.base,I.loc,I.cell,I.free,I.gW,fun p hp=>(List.mem_append.mp hp).elim (fun z=>I.pin p (List.mem_append_left _ z)) (h p),I.hok,I.len⟩
theorem sD{N:List Str}(hN:N.Nodup){i j:Nat}{x:Str}(a:N[i]? =some x)(b:N[j]? =some x):i=j:=by obtain⟨h1,e1⟩:=List.getElem?_eq_some_iff.mp a;obtain⟨h2,e2⟩:=List.getElem?_eq_some_iff.mp b;exact(List.getElem_inj hN).mp (e1.trans e2.symm)
theorem oM{M:Model}{A:Around}{E:Value->Shared->Prop}{i:Nat}{x:Str}{v:V}{u:Value}{Q:Unit->Shared->Prop}(I:Inv X pins σ H s)(hN:X.N.Nodup)(hi:X.N[i]? =some x)(hx:Loc X.env.scope x)(r:RelV v u)
  (h:∀s',Inv X pins (σ.set i (some v)) H s'->(∃a,Heap.SameBut a s.heap s'.heap/\(a=X.env.locals\/X.env.cells.lookup x=some a))->Q () s') (hf:X.fn x=true\/X.env.scope.names.lookup x=some .local:=by first|exact .inl rfl|exact .inr rfl|assumption):wpAny M A (storeName X.env x u) Q E s:=by
 obtain⟨m,hn,hl⟩:=id I.loc;have hcls:(X.env.scope.kind== .class||(X.env.scope.kind== .module&& X.env.locals !=X.env.globals))=false:=by rw[I.ok.kind];rfl
 have hiσ:i<σ.length:=by rw[I.len];exact(List.getElem?_eq_some_iff.mp hi).1
 have cne:=I.cne;have tracked:∀{a:Addr}{h':Heap},(∃o,s.heap.get? a=some o/\H a=none)->Heap.SameBut a s.heap h'->HOk X.prog X.w H h':=fun{a h'} ha hs b ob e=>by
  obtain⟨_,_,hfree⟩:=ha;refine(I.hok b ob e).mT (fun c w' hc q=>(hs.2 c ?_).trans q) (fun _ q=>q) fun _ _ q=>q
  rintro rfl;rcases hc with rfl|hc
  ·rw[hfree]at e;cases e
  ·rw[hfree]at hc;cases hc
 rcases hx with hk|hk
 ·refine wpAny_storeName_local hk hn (fun h' hn' hs=>?_) hcls;obtain⟨oL,_,_,hoL,_⟩:=id hn;refine h _ ⟨I.ok,I.os,I.bare,⟨fun b o e n hb hx=>?_,fun b o e n hb hx=>?_,I.base.free,fun b o e hx=>?_,I.base.tH,I.base.nO,I.base.rC⟩,⟨_,hn',fun j y v' e1 e2 e3=>?_⟩,fun y c e=>?_,I.free,I.gW,fun p hp=>?_,tracked ⟨oL,hoL,I.free⟩ hs,by simpa using I.len⟩ ⟨_,hs,.inl rfl⟩
  ·exact(hs.2 b (Nat.ne_of_lt (Nat.lt_of_lt_of_le (Heap.lt_size e) I.ok.above))).trans (I.base.keep b o e n hb hx)
  ·obtain⟨sl,e1⟩:=I.base.slot b o e n hb hx;exact⟨sl,(hs.2 b (Nat.ne_of_lt (Nat.lt_of_lt_of_le (Heap.lt_size e) I.ok.above))).trans e1⟩
  ·obtain⟨o',e1⟩:=I.base.there b o e hx;exact⟨o',(hs.2 b (Nat.ne_of_lt (Nat.lt_of_lt_of_le (Heap.lt_size e) I.ok.above))).trans e1⟩
  ·by_cases hj:j=i
   ·subst hj;rw[hi]at e1;cases e1;rw[List.getElem?_set_self hiσ]at e2;cases e2;exact⟨u,r,.inl ⟨hk,by simp⟩⟩
   ·rw[List.getElem?_set_ne (Ne.symm hj)]at e2;obtain⟨u',r',q⟩:=hl j y v' e1 e2 e3;refine⟨u',r',?_⟩;rcases q with⟨k,e⟩|⟨k,c,e,z⟩
    ·refine .inl ⟨k,?_⟩;have:y≠x:=fun e=>hj (sD hN e1 (e▸hi))
     simp[this,e]
    ·exact .inr ⟨k,c,e,z.sameBut hs (cne y c e)⟩
  ·obtain⟨w',z⟩:=I.cell y c e;exact⟨w',z.sameBut hs (cne y c e)⟩
  ·obtain⟨e,n,ne,nf,d⟩:=I.pin p hp;exact⟨(hs.2 p.1 ne).trans e,n,ne,nf,d⟩
 ·have hfn:X.fn x=true:=by
   rcases hf with z|z
   ·exact z
   ·rw[z]at hk;cases hk
  obtain⟨c,hc⟩:=I.ok.has x (.inl hk);obtain⟨w',z⟩:=I.cell x c hc;refine wpAny_storeName_cell I.ok.kind hk hc z (fun h' hc' hs=>?_);obtain⟨oc,hoc,hocd⟩:=id z;refine h {s with heap:=h'} ⟨I.ok,I.os,I.bare,⟨fun b o e n hb hx=>?_,fun b o e n hb hx=>?_,I.base.free,fun b o e hx=>?_,I.base.tH,I.base.nO,I.base.rC⟩,⟨m,hn.sameBut hs (Ne.symm (cne x c hc)),fun j y v' e1 e2 e3=>?_⟩,fun y c' e=>?_,I.free,I.gW,fun p hp=>?_,tracked ⟨oc,hoc,I.gW x c hc⟩ hs,by simpa using I.len⟩ ⟨c,hs,.inr hc⟩
  ·exact(hs.2 b (Nat.ne_of_lt (Nat.lt_of_lt_of_le (Heap.lt_size e) (I.ok.cab x c hfn hc)))).trans (I.base.keep b o e n hb hx)
  ·obtain⟨sl,e1⟩:=I.base.slot b o e n hb hx;exact⟨sl,(hs.2 b (Nat.ne_of_lt (Nat.lt_of_lt_of_le (Heap.lt_size e) (I.ok.cab x c hfn hc)))).trans e1⟩
  ·obtain⟨o',e1⟩:=I.base.there b o e hx;exact⟨o',(hs.2 b (Nat.ne_of_lt (Nat.lt_of_lt_of_le (Heap.lt_size e) (I.ok.cab x c hfn hc)))).trans e1⟩
  ·by_cases hj:j=i
   ·subst hj;rw[hi]at e1;cases e1;rw[List.getElem?_set_self hiσ]at e2;cases e2;exact⟨u,r,.inr ⟨.inl hk,c,hc,hc'⟩⟩
   ·rw[List.getElem?_set_ne (Ne.symm hj)]at e2;obtain⟨u',r',q⟩:=hl j y v' e1 e2 e3;refine⟨u',r',?_⟩;rcases q with q|⟨k,c',e,z'⟩
    ·exact .inl q
    ·refine .inr ⟨k,c',e,z'.sameBut hs ?_⟩;rintro rfl;exact hj (sD hN e1 (I.ok.inj _ _ _ e hc▸hi))
  ·by_cases hcc:c'=c
   ·subst hcc;exact⟨_,hc'⟩
   ·obtain⟨w2,z2⟩:=I.cell y c' e;exact⟨w2,z2.sameBut hs hcc⟩
  ·obtain⟨e,n,ne,nf,d⟩:=I.pin p hp;refine⟨(hs.2 p.1 ?_).trans e,n,ne,nf,d⟩;intro q;rw[q,hoc]at e;have q':oc=p.2:=Option.some.inj e;exact d w' (by rw[<- q'];exact hocd)
theorem rE{M:Model}{A:Around}{E:Value->Shared->Prop}{i:Nat}{x:Str}{v:V}{u:Value}{Q:Unit->Shared->Prop}(I:Inv X pins σ H s)(hN:X.N.Nodup)(hi:X.N[i]? =some x)(hx:Loc X.env.scope x)(r:RelV v u)
  (h:∀s',Inv X pins (σ.set i (some v)) H s'->Q () s') (hf:X.fn x=true\/X.env.scope.names.lookup x=some .local:=by first|exact .inl rfl|exact .inr rfl|assumption):wpAny M A (storeName X.env x u) Q E s:=
 oM I hN hi hx r (fun s' I' _=>h s' I') hf
theorem Inv.CC{s':Shared}{ch:List Addr}(I:Inv X pins σ H s)(ho:s'.os=s.os)(u:Un (frs X.stack) ch H H' s.heap s'.heap)(hok:HOk X.prog X.w H' s'.heap)(hg:AllBare s'.gens)
  (hch:∀b∈ch,(b∈X.ex\/X.s_0.heap.objs.size<=b)/\b≠X.env.locals/\(∀x c,X.env.cells.lookup x=some c->c≠b)/\∀p∈X.pn++pins,p.1≠b):Inv X pins σ H' s':=by
 obtain⟨h',g',d',t',o'⟩:=s';have e:o'=s.os:=ho;subst e;exact I.call (g':=g') (t':=t') (d':=d') u hok hg hch
end
abbrev XK:=Value->Option Addr->Hp->Prop
abbrev St:=List (Option V)
abbrev VK:=V->Hp->Prop
abbrev TE:=St->Hp->VK->Prop
abbrev TT:=St->Hp->(Bool->Hp->Prop)->Prop
abbrev TA:=St->Hp->(List V->Hp->Prop)->Prop
structure Ends where
 nx:St->Hp->Prop
 rt:VK
 bk:St->Hp->Prop:=fun _ _=>False
 ct:St->Hp->Prop:=fun _ _=>False
abbrev TS:=Ends->St->Hp->Prop
noncomputable def EP(X:Cx)(pins:List (Addr×Obj))(σ:St)(Q:VK)(u:Value)(s':Shared):Prop:=∃v H',Inv X pins σ H' s'/\RelV v u/\Q v H'
noncomputable def TP(X:Cx)(pins:List (Addr×Obj))(σ:St)(Q:Bool->Hp->Prop)(b:Bool)(s':Shared):Prop:=∃H',Inv X pins σ H' s'/\Q b H'
noncomputable def AP(X:Cx)(pins:List (Addr×Obj))(σ:St)(Q:List V->Hp->Prop)(us:List Value)(s':Shared):Prop:=∃vs H',Inv X pins σ H' s'/\Vals vs us/\Q vs H'
noncomputable def SP(X:Cx)(pins:List (Addr×Obj))(D:Ends)(f:Flow)(s':Shared):Prop:=
 match f with
 | .next=>∃σ' H',Inv X pins σ' H' s'/\D.nx σ' H'
 | .brk=>∃σ' H',Inv X pins σ' H' s'/\D.bk σ' H'
 | .cont=>∃σ' H',Inv X pins σ' H' s'/\D.ct σ' H'
 | .ret u=>∃v σ' H',Inv X pins σ' H' s'/\RelV v u/\D.rt v H'
noncomputable def PE(X:Cx)(e:Expr)(t:TE):Prop:=
 ∀(pins:List (Addr×Obj))(s:Shared)(σ:St)(H:Hp)(Q:VK),Inv X pins σ H s->t σ H Q->wpAny (model X.prog X.w) X.A (eval e X.env) (EP X pins σ Q) X.xe s
noncomputable def PT(X:Cx)(e:Expr)(t:TT):Prop:=
 ∀(pins:List (Addr×Obj))(s:Shared)(σ:St)(H:Hp)(Q:Bool->Hp->Prop),Inv X pins σ H s->t σ H Q->wpAny (model X.prog X.w) X.A (isTrue e X.env (eval e X.env)) (TP X pins σ Q) X.xe s
noncomputable def PW(X:Cx)(e:Expr)(t:TT):Prop:=
 ∀(whole:Sem Value)(pins:List (Addr×Obj))(s:Shared)(σ:St)(H:Hp)(Q:Bool->Hp->Prop),Inv X pins σ H s->t σ H Q->wpAny (model X.prog X.w) X.A (isTrue e X.env whole) (TP X pins σ Q) X.xe s
theorem PW.pt{X:Cx}{e:Expr}{t:TT}(h:PW X e t):PT X e t:=h _
noncomputable def PA(X:Cx)(es:List Expr)(t:TA):Prop:=
 ∀(pos:Pos)(pins:List (Addr×Obj))(s:Shared)(σ:St)(H:Hp)(Q:List V->Hp->Prop),Inv X pins σ H s->t σ H Q->wpAny (model X.prog X.w) X.A (spliced (backTo pos (starEach es X.env))) (AP X pins σ Q) X.xe s
noncomputable def PS(X:Cx)(st:Stmt)(t:TS):Prop:=
 ∀(pins:List (Addr×Obj))(s:Shared)(σ:St)(H:Hp)(D:Ends),Inv X pins σ H s->t D σ H->wpAny (model X.prog X.w) X.A (exec st X.env) (SP X pins D) X.xe s
noncomputable def PSs(X:Cx)(st:List Stmt)(t:TS):Prop:=
 ∀(pins:List (Addr×Obj))(s:Shared)(σ:St)(H:Hp)(D:Ends),Inv X pins σ H s->t D σ H->wpAny (model X.prog X.w) X.A (execs st X.env) (SP X pins D) X.xe s
theorem thn{α:Type}{t:Sem α}{Q Q':α->Shared->Prop}{M:Model}{A:Around}{E:Value->Shared->Prop}{s:Shared}(h:wpAny M A t Q E s)(hQ:∀a s,Q a s->Q' a s):wpAny M A t Q' E s:=wpAny_mono h hQ fun _ _ x=>x
end L2
namespace L2
open PySem PySem.Spec PyProof.Rows
section
variable {X:Cx}
def HM(i:Nat):TE:=fun σ H Q=>∃v,σ[i]? =some (some v)/\Q v H
def tC(v:V):TE:=fun _ H Q=>Q v H
theorem FG{i:Nat}{x:Str}{pos:Pos}(hN:X.N[i]? =some x)(hv:Vis X.env.scope x)(hd:(x==("__debug__" : Str))=false:=by decide)(hcd:(x==("__classdict__" : Str))=false:=by decide):PE X (.Name x pos) (HM i):=by
 intro pins s σ H Q I h;obtain⟨v,e,h⟩:=h;obtain⟨m,hn,hl⟩:=I.loc;obtain⟨u,r,l⟩:=hl i x v hN e hv;have fin:EP X pins σ Q u s:=⟨v,H,I,r,h⟩;rcases l with⟨hk,hm⟩|⟨hk,c,hc,hcell⟩
 ·exact wpAny_Name (wpAny_loadName_local I.ok.kind hk hn hm fin) hd
 ·rcases hk with hk|hk
  ·exact wpAny_Name (wpAny_loadName_cell I.ok.kind hk hc hcell fin) hd
  ·exact wpAny_Name (wpAny_loadName_free I.ok.kind hk hc hcell fin hcd) hd
theorem aQ{i j pos}:PE X (.Constant (.int i) j pos) (tC (.int i)):=fun _ _ _ H _ I h=>wpAny_Constant_int ⟨.int i,H,I.tok _,⟨_,rfl⟩,h⟩
theorem iK{b j pos}:PE X (.Constant (.bool b) j pos) (tC (.bl b)):=fun _ _ _ H _ I h=>Constant_bool ⟨.bl b,H,I,rfl,h⟩
theorem KL{j pos}:PE X (.Constant .none j pos) (tC .non):=fun _ _ _ H _ I h=>Constant_none ⟨.non,H,I,rfl,h⟩
def Gl(X:Cx)(x:Str):Prop:=X.env.kindOf x=some .globalImplicit
theorem j7{E:Value->Shared->Prop}{pins:List (Addr×Obj)}{s:Shared}{σ:St}{H:Hp}{x:Str}{u:Value}{pos:Pos}{Q:Value->Shared->Prop}(I:Inv X pins σ H s)(hg:Gl X x)(hm:X.mg x=some u)(h:Q u s)
  (hd:(x==("__debug__" : Str))=false:=by decide):wpAny (model X.prog X.w) X.A (eval (.Name x pos) X.env) Q E s:=
 Calls.Name_function_global I.ok.kind hg (Calls.loadGlobal_global (by rw[I.ok.glob];exact I.mod.glob.keeps I.bk) hm h) hd
theorem p8{E:Value->Shared->Prop}{pins:List (Addr×Obj)}{s:Shared}{σ:St}{H:Hp}{x:Str}{u:Value}{pos:Pos}{Q:Value->Shared->Prop}(I:Inv X pins σ H s)(hg:Gl X x)(hm:X.mg x=none)(hv:bootBuiltins x=some u)(h:Q u s)
  (hn:x≠ "__name__" :=by decide) (hd:(x==("__debug__" : Str))=false:=by decide):wpAny (model X.prog X.w) X.A (eval (.Name x pos) X.env) Q E s:=by
 obtain⟨mb,h1,h2⟩:=I.mod.blt;exact Calls.Name_function_global I.ok.kind hg (Calls.loadGlobal_builtin (by rw[I.ok.glob];exact I.mod.glob.keeps I.bk) hm (by rw[I.ok.blt];exact h1.keeps I.bk) ((h2 x hn).trans hv) h) hd
theorem BP{x:Str}{v:V}{u:Value}{pos:Pos}(hg:Gl X x)(hm:X.mg x=some u)(r:RelV v u)(hd:(x==("__debug__" : Str))=false:=by decide):PE X (.Name x pos) (tC v):=
 fun _ _ _ H _ I h=>j7 I hg hm ⟨v,H,I,r,h⟩ hd
variable {a b:Expr}{ta tb:TE}{pos:Pos}
noncomputable def PC(X:Cx)(op:CmpOp)(a b:Expr)(t:TE):Prop:=
 ∀(pins:List (Addr×Obj))(s:Shared)(σ:St)(H:Hp)(Q:VK),Inv X pins σ H s->t σ H Q ->
  wpAny (model X.prog X.w) X.A (eval a X.env) (fun v s₁=>wpAny (model X.prog X.w) X.A (eval b X.env) (fun u s₂=>wpAny (model X.prog X.w) X.A (compareOp op v u) (EP X pins σ Q) X.xe s₂) X.xe s₁) X.xe s
def tB(t:TE):TT:=fun σ H Q=>t σ H fun x H1=>∃c,x=.bl c/\Q c H1
theorem e9{op:CmpOp}{t:TE}(h:PC X op a b t)(h1:behindInMarks op b=false:=by first|exact Q0 _ (by decide) (by decide)|rfl):PT X (.Compare a [op] [b] pos) (tB t):=by intro pins s σ H Q I hw;refine wpAny_isTrue_Compare1 (thn (h pins s σ H _ I hw) fun v s1 h1=>thn h1 fun u s2 h2=>thn h2 fun c s3 ⟨x,H1,I1,r1,q1⟩=>?_) h1;obtain⟨d,rfl,q⟩:=q1;cases r1;exact wpAny_truthy_bool ⟨H1,I1,q⟩
theorem j0{e:Expr}{t:TE}(h:PE X e t)(he:∀whole,isTrue e X.env whole=(do let v<- whole;standAt e.pos;holding [v] (truthy v)):=by intro _;rfl):PT X e (tB t):=by intro pins s σ H Q I hw;refine isTrue_plain (thn (h pins s σ H _ I hw) fun v s1 ⟨x,H1,I1,r1,q1⟩=>?_) (he _);obtain⟨d,rfl,q⟩:=q1;cases r1;exact wpAny_truthy_bool ⟨H1,I1,q⟩
variable {tA tB':TT}{rest:List Expr}
noncomputable def QX(t u:TT):TT:=fun σ H Q=>t σ H fun c H1=>if c=true then u σ H1 Q else Q false H1
noncomputable def tOr(t u:TT):TT:=fun σ H Q=>t σ H fun c H1=>if c=true then Q true H1 else u σ H1 Q
def QP(t:TT):TT:=fun σ H Q=>t σ H fun c H1=>Q (!c) H1
theorem mW(ha:PT X a tA):PW X (.BoolOp .And [a] pos) tA:=by
 intro wh pins s σ H Q I h;refine isTrue_and (thn (ha pins s σ H Q I h) fun c s1 e=>?_);cases c with
 |true=>exact isTrue_and_nil e
 |false=>exact e
theorem rS(ha:PT X a tA):PW X (.BoolOp .Or [a] pos) tA:=by
 intro wh pins s σ H Q I h;refine isTrue_or (thn (ha pins s σ H Q I h) fun c s1 e=>?_);cases c with
 |false=>exact isTrue_or_nil e
 |true=>exact e
theorem oQ(ha:PT X a tA)(hb:PW X (.BoolOp .And (b::rest) pos) tB'):PW X (.BoolOp .And (a::b::rest) pos) (QX tA tB'):=by
 intro wh pins s σ H Q I h;refine isTrue_and (thn (ha pins s σ H _ I h) fun c s1 ⟨H1,I1,q1⟩=>?_);cases c with
 |true=>exact hb wh pins s1 σ H1 Q I1 q1
 |false=>exact⟨H1,I1,q1⟩
theorem xG(ha:PT X a tA)(hb:PW X (.BoolOp .Or (b::rest) pos) tB'):PW X (.BoolOp .Or (a::b::rest) pos) (tOr tA tB'):=by
 intro wh pins s σ H Q I h;refine isTrue_or (thn (ha pins s σ H _ I h) fun c s1 ⟨H1,I1,q1⟩=>?_);cases c with
 |true=>exact⟨H1,I1,q1⟩
 |false=>exact hb wh pins s1 σ H1 Q I1 q1
theorem KI(ha:PT X a tA):PT X (.UnaryOp .Not a pos) (QP tA):=by intro pins s σ H Q I h;exact isTrue_not (ha pins s σ H (fun c H1=>Q (!c) H1) I h)
def M5(ta:TE):TE:=fun σ H Q=>ta σ H fun x H1=>∃c,x=.bl c/\Q (.bl (!c)) H1
theorem KJ(ha:PE X a ta):PE X (.UnaryOp .Not a pos) (M5 ta):=by intro pins s σ H Q I h;refine UnaryOp_ (thn (ha pins s σ H _ I h) fun v s1 ⟨x,H1,I1,r1,q1⟩=>?_);obtain⟨c,rfl,q1⟩:=q1;cases r1;exact not_of (wpAny_truthy_bool ⟨.bl (!c),H1,I1,rfl,q1⟩)
end
end L2
namespace L2
open PySem PySem.Spec PyProof.Rows
noncomputable def SqL(K:W.Frag)(H:Hp)(a:Addr)(xs:List V):Prop:=
 Rd H a (.lst xs)\/
  ∃(o:Obj)(its:Array Value)(n:Nat),K.lookup a=some o/\o.cls=.type "list" /\o.dict=none/\o.data=.seq its n/\its.size<=sizeLine/\Vals xs its.toList
noncomputable def SqT(K:W.Frag)(H:Hp)(a:Addr)(xs:List V):Prop:=
 Rd H a (.tup xs)\/
  ∃(o:Obj)(its:Array Value)(n:Nat),K.lookup a=some o/\o.cls=.type "tuple" /\o.data=.seq its n/\its.size<=sizeLine/\Vals xs its.toList
noncomputable def UW:Value->Option V
 | .none=>some .non
 | .bool b=>some (.bl b)
 | .int i _=>some (.int i)
 | .str x _=>some (.str x)
 | .bytes b _=>some (.byt b)
 | .float b _=>some (.flt b)
 | .ref a=>some (.ref a)
 | .type n=>some (.ty n)
 |_=>none
theorem RelV.abs{x:V}{u:Value}(r:RelV x u):UW u=some x:=by
 cases x with
 |non=>cases r;rfl
 |bl _=>cases r;rfl
 |int _=>obtain⟨t,rfl⟩:=r;rfl
 |str _=>obtain⟨t,rfl⟩:=r;rfl
 |byt _=>obtain⟨t,rfl⟩:=r;rfl
 |flt _=>obtain⟨t,rfl⟩:=r;rfl
 |ref _=>cases r;rfl
 |ty _=>cases r;rfl
theorem RelV.inj{x y:V}{u:Value}(r:RelV x u)(q:RelV y u):x=y:=Option.some.inj (r.abs.symm.trans q.abs)
theorem Vals.inj:∀{xs ys:List V}{us:List Value},Vals xs us->Vals ys us->xs=ys
 |_,_,_,.nil,.nil=>rfl
 |_,_,_,.cons r t,.cons r' t'=>by rw[r.inj r',Vals.inj t t']
section
variable {X:Cx}{pins:List (Addr×Obj)}{σ:St}{H:Hp}{s:Shared}{a:Addr}{xs ys:List V}
theorem SqL.of{K:W.Frag}(h:H a=some (.lst xs)):SqL K H a xs:=.inl (.inl h)
theorem SqT.of{K:W.Frag}(h:H a=some (.tup xs)):SqT K H a xs:=.inl (.inl h)
theorem Inv.list(I:Inv X pins σ H s)(h:SqL X.K H a xs):∃its:List Value,Vals xs its/\PlainL s.heap a its.toArray/\xs.length<=sizeLine:=by
 rcases h with h|⟨o,its,n,hk,hc,hd,hs,hz,r⟩
 ·obtain⟨z,its,n,r,e⟩:=h.ok I.hok;exact⟨its,r,⟨_,n,e,rfl,rfl,rfl⟩,z⟩
 ·refine⟨its.toList,r,⟨o,n,I.kIn a o hk,hc,hd,by simpa using hs⟩,?_⟩;have e:=r.length;simp only[Array.length_toList]at e;omega
theorem Inv.tuple(I:Inv X pins σ H s)(h:SqT X.K H a xs):∃its:List Value,Vals xs its/\IsTup s.heap a its.toArray/\xs.length<=sizeLine:=by
 rcases h with h|⟨o,its,n,hk,hc,hs,hz,r⟩
 ·obtain⟨z,its,r,p⟩:=h.ok I.hok;exact⟨its,r,p,z⟩
 ·refine⟨its.toList,r,⟨o,I.kIn a o hk,hc,n,by simpa using hs⟩,?_⟩;have e:=r.length;simp only[Array.length_toList]at e;omega
theorem Inv.xU(I:Inv X pins σ H s)(h:SqL X.K H a xs)(h':SqL X.K H a ys):xs=ys:=by
 obtain⟨its,r,⟨o,n,e,_,_,d⟩,_⟩:=I.list h;obtain⟨its',r',⟨o',n',e',_,_,d'⟩,_⟩:=I.list h';rw[e]at e';cases e';rw[d]at d';injection d' with d1 _
 have:its=its':=by simpa using congrArg Array.toList d1
 subst this;exact r.inj r'
theorem Inv.CO(I:Inv X pins σ H s)(h:SqT X.K H a xs)(h':SqT X.K H a ys):xs=ys:=by
 obtain⟨its,r,⟨o,e,_,n,d⟩,_⟩:=I.tuple h;obtain⟨its',r',⟨o',e',_,n',d'⟩,_⟩:=I.tuple h';rw[e]at e';cases e';rw[d]at d';injection d' with d1 _
 have:its=its':=by simpa using congrArg Array.toList d1
 subst this;exact r.inj r'
end
abbrev Cx.qO(X:Cx)(E:Value->Shared->Prop):Cx:={X with xe:=E}
abbrev Cx.nox(X:Cx):Cx:=X.qO fun _ _=>False
theorem Cx.Ok.qO{X:Cx}(ok:X.Ok)(E:Value->Shared->Prop):(X.qO E).Ok:=
 ⟨ok.mod,ok.kind,ok.glob,ok.blt,ok.above,ok.inj,ok.has,ok.cab,ok.hd,ok.frames,ok.stk,ok.exf,ok.bs,ok.bsz,ok.FY,ok.B2,ok.kA,ok.frf⟩
theorem Cx.Ok.jQ{X:Cx}{E:Value->Shared->Prop}(ok:(X.qO E).Ok):X.Ok:=
 ⟨ok.mod,ok.kind,ok.glob,ok.blt,ok.above,ok.inj,ok.has,ok.cab,ok.hd,ok.frames,ok.stk,ok.exf,ok.bs,ok.bsz,ok.FY,ok.B2,ok.kA,ok.frf⟩
section
variable {X:Cx}{pins:List (Addr×Obj)}{σ:St}{H:Hp}{s:Shared}{E:Value->Shared->Prop}
theorem Inv.qO(I:Inv X pins σ H s)(E:Value->Shared->Prop):Inv (X.qO E) pins σ H s:=⟨I.ok.qO E,I.os,I.bare,I.base,I.loc,I.cell,I.free,I.gW,I.pin,I.hok,I.len⟩
theorem Inv.jQ(I:Inv (X.qO E) pins σ H s):Inv X pins σ H s:=⟨I.ok.jQ,I.os,I.bare,I.base,I.loc,I.cell,I.free,I.gW,I.pin,I.hok,I.len⟩
theorem SP.jQ{D:Ends}{f:Flow}{s':Shared}(h:SP (X.qO E) pins D f s'):SP X pins D f s':=by
 cases f with
 |next=>obtain⟨σ',H',I,q⟩:=h;exact⟨σ',H',I.jQ,q⟩
 |brk=>obtain⟨σ',H',I,q⟩:=h;exact⟨σ',H',I.jQ,q⟩
 |cont=>obtain⟨σ',H',I,q⟩:=h;exact⟨σ',H',I.jQ,q⟩
 |ret u=>obtain⟨v,σ',H',I,r,q⟩:=h;exact⟨v,σ',H',I.jQ,r,q⟩
theorem PSs.nox{st:List Stmt}{t:TS}(h:PSs X.nox st t):PSs X st t:=fun pins s σ H D I hw=>
 wpAny_mono (h pins s σ H D (I.qO _) hw) (fun _ _ q=>q.jQ) fun _ _ z=>False.elim z
end
section
variable {X:Cx}{st:Stmt}{rest:List Stmt}{t u:TS}{e:Expr}{te:TE}{pos:Pos}
def M6:TS:=fun D σ H=>D.nx σ H
def EY(t u:TS):TS:=fun D σ H=>t {D with nx:=u D} σ H
theorem bC:PSs X [] M6:=fun _ _ σ H _ I h=>wpAny_execs_nil ⟨σ,H,I,h⟩
theorem aB(h1:PS X st t)(h2:PSs X rest u):PSs X (st::rest) (EY t u):=by
 intro pins s σ H D I h;refine wpAny_execs_cons (thn (h1 pins s σ H {D with nx:=u D} I h) fun f s1 q=>?_);cases f with
 |next=>obtain⟨σ',H',I',q⟩:=q;exact h2 pins s1 σ' H' D I' q
 |ret v=>exact q
 |brk=>exact q
 |cont=>exact q
theorem aE(h1:PS X st t):PSs X [st] t:=by
 intro pins s σ H D I h;refine wpAny_execs_cons (thn (h1 pins s σ H D I h) fun f s1 q=>?_);cases f with
 |next=>exact wpAny_execs_nil q
 |ret v=>exact q
 |brk=>exact q
 |cont=>exact q
theorem Inv.quiet{pins:List (Addr×Obj)}{σ:St}{H:Hp}{s:Shared}(I:Inv X pins σ H s):interactive X.env=false:=by simp[interactive,I.ok.kind]
def MA(te:TE):TS:=fun D σ H=>te σ H fun _ H1=>D.nx σ H1
theorem cZ(he:PE X e te)(hs:swapsWith e none pos.line X.env=pure false:=by rfl):PS X (.Expr e pos) (MA te):=by intro pins s σ H D I h;exact wpAny_Expr_any (thn (he pins s σ H _ I h) fun v s1 ⟨x,H1,I1,r1,q1⟩=>⟨σ,H1,I1,q1⟩) I.quiet hs
def QO(te:TE):TS:=fun D σ H=>te σ H D.rt
theorem aP(he:PE X e te):PS X (.Return (some e) pos) (QO te):=by intro pins s σ H D I h;exact wpAny_Return_some (thn (he pins s σ H _ I h) fun v s1 ⟨x,H1,I1,r1,q1⟩=>⟨x,σ,H1,I1,r1,q1⟩)
noncomputable def QR(c:TT)(t u:TS):TS:=fun D σ H=>c σ H fun b H1=>if b=true then t D σ H1 else u D σ H1
theorem cE{c:Expr}{a b:List Stmt}{tc:TT}(hc:PT X c tc)(ha:PSs X a t)(hb:PSs X b u):PS X (.If c a b pos) (QR tc t u):=by
 intro pins s σ H D I h;refine wpAny_If (thn (hc pins s σ H _ I h) fun d s1 ⟨H1,I1,q1⟩=>?_);cases d with
 |true=>exact ha pins s1 σ H1 D I1 q1
 |false=>exact hb pins s1 σ H1 D I1 q1
end
abbrev TG:=V->St->Hp->(St->Hp->Prop)->Prop
abbrev TGs:=List V->St->Hp->(St->Hp->Prop)->Prop
noncomputable def PG(X:Cx)(target:Expr)(t:TG):Prop:=
 ∀(pins:List (Addr×Obj))(s:Shared)(σ:St)(H:Hp)(v:V)(u:Value)(Q:St->Hp->Prop),Inv X pins σ H s->RelV v u->t v σ H Q ->
  wpAny (model X.prog X.w) X.A (assign target X.env u) (fun _ s'=>∃σ' H',Inv X pins σ' H' s'/\Q σ' H') X.xe s
noncomputable def PGs(X:Cx)(ts:List Expr)(t:TGs):Prop:=
 ∀(pins:List (Addr×Obj))(s:Shared)(σ:St)(H:Hp)(vs:List V)(us:List Value)(Q:St->Hp->Prop),Inv X pins σ H s->Vals vs us->t vs σ H Q ->
  wpAny (model X.prog X.w) X.A (assignInOrder ((assignEach ts X.env).map (·.2)) us) (fun _ s'=>∃σ' H',Inv X pins σ' H' s'/\Q σ' H') X.xe s
abbrev LR:=V->V->V->Hp->(Hp->Prop)->Prop
noncomputable def QI(X:Cx)(t:LR):Prop:=
 ∀(pins:List (Addr×Obj))(s:Shared)(σ:St)(H:Hp)(o i v:V)(ov iv u:Value)(Q:Hp->Prop),Inv X pins σ H s->RelV o ov->RelV i iv->RelV v u->t o i v H Q ->
  wpAny (model X.prog X.w) X.A (setItem ov iv u) (fun _ s'=>∃H',Inv X pins σ H' s'/\Q H') X.xe s
abbrev TIp:=V->V->Hp->VK->Prop
noncomputable def PIp(X:Cx)(op:Operator)(t:TIp):Prop:=
 ∀(pins:List (Addr×Obj))(s:Shared)(σ:St)(H:Hp)(x y:V)(v u:Value)(Q:VK),Inv X pins σ H s->RelV x v->RelV y u->t x y H Q ->
  wpAny (model X.prog X.w) X.A (inplaceOp op v u) (EP X pins σ Q) X.xe s
section
variable {X:Cx}{pos:Pos}
def lT(i:Nat):TG:=fun v σ H Q=>Q (σ.set i (some v)) H
theorem aN{i:Nat}{x:Str}(hN:X.N.Nodup)(hi:X.N[i]? =some x)(hx:Loc X.env.scope x)(hf:X.fn x=true\/X.env.scope.names.lookup x=some .local:=by first|exact .inl rfl|exact .inr rfl|assumption):PG X (.Name x pos) (lT i):=by intro pins s σ H v u Q I r h;exact wpAny_assign_Name (rE I hN hi hx r (fun s' I'=>⟨_,H,I',h⟩) hf)
def UR:TGs:=fun vs σ H Q=>vs=[]/\Q σ H
noncomputable def QA(t:TG)(u:TGs):TGs:=fun vs σ H Q=>∃v r,vs=v::r/\t v σ H fun σ' H'=>u r σ' H' Q
theorem j2:PGs X [] UR:=by intro pins s σ H vs us Q I r h;obtain⟨e,h⟩:=h;subst e;cases r;exact assignInOrder_nil ⟨σ,H,I,h⟩
theorem bP{e:Expr}{es:List Expr}{t:TG}{u:TGs}(h1:PG X e t)(h2:PGs X es u)
  (hs:(assignEach (e::es) X.env).map (·.2)=assign e X.env::(assignEach es X.env).map (·.2):=by rfl):PGs X (e::es) (QA t u):=by
 intro pins s σ H vs us Q I r h;obtain⟨v,vr,e1,h⟩:=h;subst e1;cases r with
 |cons r rr=>rw[hs];refine assignInOrder_cons (thn (h1 pins s σ H _ _ _ I r h) fun _ s1 ⟨σ1,H1,I1,q1⟩=>?_);exact h2 pins s1 σ1 H1 _ _ Q I1 rr q1
noncomputable def UQ(K:W.Frag)(n:Nat)(t:TGs):TG:=fun v σ H Q=>∃a xs,v=.ref a/\SqT K H a xs/\xs.length=n/\t xs σ H Q
theorem m5{es:List Expr}{k:Nat}{t:TGs}{n:Nat}(hc:X.calm=true)(h:PGs X es t)
  (hn:(assignEach es X.env).length=n:=by rfl) (hst:(assignEach es X.env).findIdx? (·.1)=none:=by rfl):PG X (.Tuple es k pos) (UQ X.K n t):=by
 intro pins s σ H v u Q I r hw;obtain⟨a,xs,e1,hq,hl,hw⟩:=hw;subst e1;cases r;obtain⟨its,rv,ht,hz⟩:=I.tuple hq;refine assign_Tuple_tuple (I.ok.hd hc) ht (by simp[hn,<- hl,rv.length]) hst fun h' hx=>?_
 have I1:Inv X pins σ H {s with heap:=h'}:=I.kept (t':=s.toks) fun b o e=>hx b o (Nat.ne_of_lt (Heap.lt_size e)) e
 exact h pins _ σ H xs _ Q I1 (by simpa using rv) hw
def CW(te:TE)(g:TG):TS:=fun D σ H=>te σ H fun x H1=>g x σ H1 D.nx
theorem vR{tg e:Expr}{te:TE}{g:TG}(he:PE X e te)(hg:PG X tg g)(hs:swapsWithSole [tg] e pos.line X.env=pure false:=by rfl)(hw:swappedStores [tg] e X.env=pure none:=by rfl)
  (h1:(assignEach [tg] X.env).map (·.2)=[assign tg X.env]:=by rfl):PS X (.Assign [tg] e pos) (CW te g):=by
 intro pins s σ H D I h;refine wpAny_Assign_stores (thn (he pins s σ H _ I h) fun v s1 ⟨x,H1,I1,r1,q1⟩=>?_) hs hw;rw[h1];exact thn (hg pins s1 σ H1 x v _ I1 r1 q1) fun _ s2 q=>q
theorem aS{i:Nat}{x:Str}{e:Expr}{te:TE}{pos':Pos}(hN:X.N.Nodup)(hi:X.N[i]? =some x)(hx:Loc X.env.scope x)(he:PE X e te)(hs:swapsWith e (some (.Name x pos')) pos.line X.env=pure false:=by rfl)(hf:X.fn x=true\/X.env.scope.names.lookup x=some .local:=by first|exact .inl rfl|exact .inr rfl|assumption):
  PS X (.Assign [.Name x pos'] e pos) (CW te (lT i)):=by
 intro pins s σ H D I h;refine wpAny_Assign_Name (thn (he pins s σ H _ I h) fun v s1 ⟨y,H1,I1,r1,q1⟩=>?_) hs;exact rE I1 hN hi hx r1 (fun s2 I2=>⟨_,H1,I2,q1⟩) hf
noncomputable def QV(i:Nat)(te:TE)(ti:TIp):TS:=fun D σ H=>∃x,σ[i]? =some (some x)/\te σ H fun y H1=>ti x y H1 fun z H2=>D.nx (σ.set i (some z)) H2
theorem FE{i:Nat}{x:Str}{e:Expr}{te:TE}{op:Operator}{ti:TIp}{pos':Pos}(hN:X.N.Nodup)(hi:X.N[i]? =some x)(hx:Loc X.env.scope x)(he:PE X e te)(ho:PIp X op ti)(hf:X.fn x=true\/X.env.scope.names.lookup x=some .local:=by first|exact .inl rfl|exact .inr rfl|assumption):
  PS X (.AugAssign (.Name x pos') op e pos) (QV i te ti):=by
 intro pins s σ H D I h;obtain⟨v,e1,h⟩:=h;obtain⟨m,hn,hl⟩:=I.loc;have vis:Vis X.env.scope x:=by rcases hx with k|k;exact .inl k;exact .inr (.inl k)
 obtain⟨u,r,l⟩:=hl i x v hi e1 vis;refine wpAny_AugAssign_Name ?_;have go:wpAny (model X.prog X.w) X.A (eval e X.env) (fun w s₂=>wpAny (model X.prog X.w) X.A (inplaceOp op u w) (fun r s₃=>wpAny (model X.prog X.w) X.A (storeName X.env x r) (fun _=>SP X pins D .next) X.xe s₃) X.xe s₂) X.xe s:=by
  refine thn (he pins s σ H _ I h) fun w s1 ⟨y,H1,I1,r1,q1⟩=>?_
  refine thn (ho pins s1 σ H1 v y u w _ I1 r r1 q1) fun z s2 ⟨zv,H2,I2,r2,q2⟩=>?_
  exact rE I2 hN hi hx r2 (fun s3 I3=>⟨_,H2,I3,q2⟩) hf
 rcases l with⟨hk,hm⟩|⟨hk,c,hc,hcell⟩
 ·exact wpAny_loadName_local I.ok.kind hk hn hm go
 ·rcases hk with hk|hk
  ·exact wpAny_loadName_cell I.ok.kind hk hc hcell go
  ·rcases hx with k|k
   ·have:X.env.scope.names.lookup x=some .free:=hk;rw[k]at this;cases this
   ·have:X.env.scope.names.lookup x=some .free:=hk;rw[k]at this;cases this
noncomputable def MC(to ti te:TE)(tget:V->V->Hp->VK->Prop)(tip:TIp)(tset:LR):TS:=fun D σ H=>to σ H fun o H1=>ti σ H1 fun i H2=>tget o i H2 fun x H3=>te σ H3 fun y H4=>tip x y H4 fun z H5=>tset o i z H5 fun H6=>D.nx σ H6
noncomputable def QJ(X:Cx)(t:V->V->Hp->VK->Prop):Prop:=
 ∀(pins:List (Addr×Obj))(s:Shared)(σ:St)(H:Hp)(o i:V)(ov iv:Value)(Q:VK),Inv X pins σ H s->RelV o ov->RelV i iv->t o i H Q ->
  wpAny (model X.prog X.w) X.A (getItem ov iv) (EP X pins σ Q) X.xe s
theorem HZ{o i e:Expr}{to ti te:TE}{tget:V->V->Hp->VK->Prop}{tip:TIp}{tset:LR}{op:Operator}{tpos:Pos}(ho:PE X o to)(hi:PE X i ti)(hg:QJ X tget)(he:PE X e te)(hp:PIp X op tip)(hs:QI X tset)
  (ha:∀ov iv new,augStore i ov iv new=(do holding [new,ov,iv] (setItem ov iv new);release [new,ov,iv] [];pure .next):=by intros;rfl):PS X (.AugAssign (.Subscript o i tpos) op e pos) (MC to ti te tget tip tset):=by
 intro pins s σ H D I h;refine wpAny_AugAssign_SubscriptAny (thn (ho pins s σ H _ I h) fun ov s1 ⟨x1,H1,I1,r1,q1⟩=>?_) ha;refine thn (hi pins s1 σ H1 _ I1 q1) fun iv s2 ⟨x2,H2,I2,r2,q2⟩=>?_
 refine thn (hg pins s2 σ H2 x1 x2 ov iv _ I2 r1 r2 q2) fun old s3 ⟨x3,H3,I3,r3,q3⟩=>?_
 refine thn (he pins s3 σ H3 _ I3 q3) fun v s4 ⟨x4,H4,I4,r4,q4⟩=>?_
 refine thn (hp pins s4 σ H4 x3 x4 old v _ I4 r3 r4 q4) fun new s5 ⟨x5,H5,I5,r5,q5⟩=>?_
 exact thn (hs pins s5 σ H5 x1 x2 x5 ov iv new _ I5 r1 r2 r5 q5) fun _ s6 ⟨H6,I6,q6⟩=>⟨σ,H6,I6,q6⟩
noncomputable def ipI(f:Int->Int->Int):TIp:=fun x y H Q=>∃i j,x=.int i/\y=.int j/\Q (.int (f i j)) H
theorem AO:PIp X .Add (ipI fun i j=>i+j):=by intro pins s σ H x y v u Q I r1 r2 h;obtain⟨i,j,e1,e2,q⟩:=h;subst e1;subst e2;obtain⟨t,rfl⟩:=r1;obtain⟨t',rfl⟩:=r2;exact iadd_int ⟨.int _,H,I.tok _,⟨_,rfl⟩,q⟩
end
section
variable {X:Cx}{pos:Pos}
noncomputable def EX(c:TT)(tb:TS):TS:=fun D σ H=>∃W:Nat->St->Hp->Prop,(∃m,W m σ H)/\∀m σ H,W m σ H ->
 c σ H fun b H1=>if b=true then∃N:St->Hp->Prop,(∀σ' H',N σ' H'->∃m',m'<m/\W m' σ' H')/\tb {D with nx:=N,ct:=N,bk:=D.nx} σ H1 else D.nx σ H1
theorem mX{c:Expr}{body:List Stmt}{tc:TT}{tb:TS}(hp:PassesOwn (model X.prog X.w) X.A X.env X.xe)(hc:PT X c tc)(hb:PSs X body tb):PS X (.While c body [] pos) (EX tc tb):=by
 intro pins s σ H D I h;obtain⟨W,⟨m0,w0⟩,turn⟩:=h;refine wpAny_While (codeAny_whileLoop (fun n s'=>∃σ' H',Inv X pins σ' H' s'/\W n σ' H') ?_ m0 ⟨σ,H,I,w0⟩);rintro n s1 ⟨σ1,H1,I1,w1⟩;refine wpAny_passesOwn hp (thn (hc pins s1 σ1 H1 _ I1 (turn n σ1 H1 w1)) fun b s2 ⟨H2,I2,q2⟩=>?_);cases b with
 |true=>
  obtain⟨N,hN,q2⟩:=q2;rw[if_pos rfl];refine wpAny_passesOwn hp (thn (hb pins s2 σ1 H2 _ I2 q2) fun f s3 q3=>?_);cases f with
  |next=>obtain⟨σ3,H3,I3,n3⟩:=q3;obtain⟨m',hm,w3⟩:=hN σ3 H3 n3;exact⟨m',hm,σ3,H3,I3,w3⟩
  |cont=>obtain⟨σ3,H3,I3,n3⟩:=q3;obtain⟨m',hm,w3⟩:=hN σ3 H3 n3;exact⟨m',hm,σ3,H3,I3,w3⟩
  |brk=>exact q3
  |ret v=>exact q3
 |false=>rw[if_neg Bool.false_ne_true];exact wpAny_execs_nil ⟨σ1,H2,I2,q2⟩
end
structure It where
 go:Nat->Hp->Prop
 yld:Nat->Hp->V->Hp->Prop
 stop:Nat->Hp->Prop
noncomputable def mM(X:Cx)(pins:List (Addr×Obj))(H:Hp)(b:Addr):Prop:=
 H b=none/\b≠X.env.locals/\b∉X.fs/\(b∈X.ex\/X.s_0.heap.objs.size<=b)/\(∀x c,X.env.cells.lookup x=some c->c≠b)/\∀p∈X.pn++pins,p.1≠b
theorem Inv.AZ{X:Cx}{pins:List (Addr×Obj)}{σ:St}{H H':Hp}{s:Shared}{b:Addr}(I:Inv X pins σ H s)(hb:s.heap.objs.size<=b)(hn:H' b=none):mM X pins H' b:=by
 refine⟨hn,Nat.ne_of_gt (Nat.lt_of_lt_of_le I.lt hb),I.UM hb,.inr (Nat.le_trans I.sz hb),fun x c e z=>?_,fun p hp z=>?_⟩
 ·obtain⟨v,q⟩:=I.cell x c e;exact absurd (Nat.lt_of_lt_of_le q.lt (by rw[z];exact hb)) (Nat.lt_irrefl _)
 ·exact absurd (Nat.lt_of_lt_of_le (Heap.lt_size (I.pin p hp).1) (by rw[z];exact hb)) (Nat.lt_irrefl _)
structure Turn(P:Program)(w:World)(K:W.Frag)(tg:Expr)(J:It)(fp:List Addr)(it:Addr)(tn:Nat->Heap->Prop):Prop where
 mem:it∈fp
 obj:∀i h,tn i h->∀b∈fp,∃o,h.get? b=some o/\∀v,o.data≠ .cell v
 keep:∀i h h',tn i h->(∀b∈fp,∀o,h.get? b=some o->h'.get? b=some o)->tn i h'
 item:∀(X:Cx),X.prog=P->X.w=w->X.K=K->X.calm=true->∀(i:Nat)(pins:List (Addr×Obj))(s:Shared)(σ:St)(H:Hp)(E:Value->Shared->Prop),Inv X pins σ H s->(∀b∈fp,mM X pins H b)->tn i s.heap->J.go i H ->
  wpAny (model P w) X.A (pyNext (.ref it)) (fun r s1=>∃u,r=some u/\
   wpAny (model P w) X.A (letOwnedTupleGo tg (.ref it) u) (fun _ s2=>∃x H',Inv X pins σ H' s2/\RelV x u/\J.yld i H x H'/\tn (i+1) s2.heap/\∀b∈fp,H' b=none) E s1) E s
 done:∀(X:Cx),X.prog=P->X.w=w->X.K=K->X.calm=true->∀(i:Nat)(pins:List (Addr×Obj))(s:Shared)(σ:St)(H:Hp)(E:Value->Shared->Prop),Inv X pins σ H s->(∀b∈fp,mM X pins H b)->tn i s.heap->J.stop i H ->
  wpAny (model P w) X.A (pyNext (.ref it)) (fun r s1=>r=none/\Inv X pins σ H s1) E s
 self:∀(A:Around)(i:Nat)(s:Shared)(Q:Value->Shared->Prop)(E:Value->Shared->Prop),tn i s.heap->Q (.ref it) s->wpAny (model P w) A (pyIter (.ref it)) Q E s
abbrev TI:=St->Hp->(It->Hp->Prop)->Prop
noncomputable def PIE(X:Cx)(pins:List (Addr×Obj))(σ:St)(tg:Expr)(R:It->Hp->Prop)(itv:Value)(s2:Shared):Prop:=
 ∃(it:Addr)(fp:List Addr)(tn:Nat->Heap->Prop)(J:It)(H':Hp),itv=.ref it/\Inv X pins σ H' s2/\Turn X.prog X.w X.K tg J fp it tn/\tn 0 s2.heap/\(∀b∈fp,mM X pins H' b)/\R J H'
noncomputable def PI(X:Cx)(tg iter:Expr)(wi:TI):Prop:=
 ∀(pins:List (Addr×Obj))(s:Shared)(σ:St)(H:Hp)(R:It->Hp->Prop),Inv X pins σ H s->wi σ H R ->
  wpAny (model X.prog X.w) X.A (eval iter X.env) (fun v s1=>wpAny (model X.prog X.w) X.A (pyIter v) (PIE X pins σ tg R) X.xe s1) X.xe s
theorem yO{M:Model}{A:Around}{E:Value->Shared->Prop}{s:Shared}{tg:Expr}{it:Addr}{u:Value}{o:Obj}{n:String}{vs:Array Value}{Q:Unit->Shared->Prop}(ho:s.heap.get? it=some o)(hc:o.cls=.type n)(hd:o.data=.fields vs)
  (hn:["enumerate","zip","dict_itemiterator","dict_reverseitemiterator","odict_iterator","itertools.zip_longest","itertools.pairwise"].contains n=false) (hQ:Q () s):wpAny M A (letOwnedTupleGo tg (.ref it) u) Q E s:=by
 unfold letOwnedTupleGo;cases tg<;>first
  |exact wpAny_pure hQ
  |(cases u<;>first
    |exact wpAny_pure hQ
    |(refine wpAny_bind (wpAny_load ho ?_);rw[hc,hd];show wpAny M A (if(["enumerate","zip","dict_itemiterator","dict_reverseitemiterator","odict_iterator","itertools.zip_longest","itertools.pairwise"].contains n&& vs[0]? ==some (rawInt _))=true then _ else _) Q E s;rw[if_neg (by intro h;rw[hn,Bool.false_and]at h;cases h)];exact wpAny_pure hQ))
noncomputable def Itl(K:W.Frag)(a:Addr):It:=
 ⟨fun i H=>∃xs x,SqL K H a xs/\xs[i]? =some x,fun i H x H'=>H'=H/\∀xs,SqL K H a xs->xs[i]? =some x,fun i H=>∃xs,SqL K H a xs/\xs.length<=i⟩
noncomputable def Itt(K:W.Frag)(a:Addr):It:=
 ⟨fun i H=>∃xs x,SqT K H a xs/\xs[i]? =some x,fun i H x H'=>H'=H/\∀xs,SqT K H a xs->xs[i]? =some x,fun i H=>∃xs,SqT K H a xs/\xs.length<=i⟩
noncomputable def Itr(lo:Int)(n:Nat):It:=⟨fun i _=>i<n,fun i H x H'=>H'=H/\x=.int (lo+i),fun i _=>n<=i⟩
theorem CL{P:Program}{w:World}{K:W.Frag}{tg:Expr}(a it:Addr):Turn P w K tg (Itl K a) [it] it (fun i h=>h.IsListIter it a i) where
 mem:=by simp
 obj:=fun i h st b hb=>by
  have e:b=it:=by simpa using hb
  subst e;obtain⟨o,e,c,d⟩:=st;exact⟨o,e,fun v z=>by rw[d]at z;cases z⟩
 keep:=fun i h h' st k=>st.at fun o e=>k it (by simp) o e
 item:=by
  intro X hP hw hK hc i pins s σ H E I hf st hg;subst hP hw hK;obtain⟨xs,x,hq,hx⟩:=hg;obtain⟨its,rv,p,hz⟩:=I.list hq;obtain⟨u,hu,ru⟩:=rv.get hx;obtain⟨f0,f1,f2,f3,f4,f5⟩:=hf it (by simp);refine wpAny_pyNext_list_item st p.isList (x:=u) (by simpa using hu) fun h' st' sb=>?_
  have I1:Inv X pins σ H {s with heap:=h'}:=I.turned (t':=s.toks) (fun b o hb e=>(sb.2 b hb).trans e) f0 f1 f3 f4 f5;obtain⟨o,e,c,d⟩:=id st';exact⟨u,rfl,yO (s:={s with heap:=h'}) e c d (by decide) ⟨x,H,I1,ru,⟨rfl,fun ys hy=>by rw[I.xU hy hq];exact hx⟩,st',fun b hb=>(hf b hb).1⟩⟩
 done:=by intro X hP hw hK hc i pins s σ H E I hf st hg;subst hP hw hK;obtain⟨xs,hq,hx⟩:=hg;obtain⟨its,rv,p,hz⟩:=I.list hq;obtain⟨f0,f1,f2,f3,f4,f5⟩:=hf it (by simp);have hl:=rv.length;exact wpAny_pyNext_list_end (I.ok.hd hc) st p.isList (by simp;omega) fun h' eb=>⟨rfl,I.turned (t':=s.toks) (fun b o hb e=>eb b o hb e) f0 f1 f3 f4 f5⟩
 self:=fun _ _ _ _ _ st h=>wpAny_pyIter_listiter st h
theorem zL{P:Program}{w:World}{K:W.Frag}{tg:Expr}(a it:Addr):Turn P w K tg (Itt K a) [it] it (fun i h=>h.IsTupleIter it a i) where
 mem:=by simp
 obj:=fun i h st b hb=>by
  have e:b=it:=by simpa using hb
  subst e;obtain⟨o,e,c,d⟩:=st;exact⟨o,e,fun v z=>by rw[d]at z;cases z⟩
 keep:=fun i h h' st k=>st.at fun o e=>k it (by simp) o e
 item:=by
  intro X hP hw hK hc i pins s σ H E I hf st hg;subst hP hw hK;obtain⟨xs,x,hq,hx⟩:=hg;obtain⟨its,rv,p,hz⟩:=I.tuple hq;obtain⟨u,hu,ru⟩:=rv.get hx;obtain⟨f0,f1,f2,f3,f4,f5⟩:=hf it (by simp);refine wpAny_pyNext_tuple_item st (show s.heap.IsTuple a its.toArray from p) (x:=u) (by simpa using hu) fun h' st' sb=>?_
  have I1:Inv X pins σ H {s with heap:=h'}:=I.turned (t':=s.toks) (fun b o hb e=>(sb.2 b hb).trans e) f0 f1 f3 f4 f5;obtain⟨o,e,c,d⟩:=id st';exact⟨u,rfl,yO (s:={s with heap:=h'}) e c d (by decide) ⟨x,H,I1,ru,⟨rfl,fun ys hy=>by rw[I.CO hy hq];exact hx⟩,st',fun b hb=>(hf b hb).1⟩⟩
 done:=by intro X hP hw hK hc i pins s σ H E I hf st hg;subst hP hw hK;obtain⟨xs,hq,hx⟩:=hg;obtain⟨its,rv,p,hz⟩:=I.tuple hq;obtain⟨f0,f1,f2,f3,f4,f5⟩:=hf it (by simp);have hl:=rv.length;exact wpAny_pyNext_tuple_end (I.ok.hd hc) st (show s.heap.IsTuple a its.toArray from p) (by simp;omega) fun h' eb=>⟨rfl,I.turned (t':=s.toks) (fun b o hb e=>eb b o hb e) f0 f1 f3 f4 f5⟩
 self:=fun _ _ _ _ _ st h=>wpAny_pyIter_tupleiter st h
theorem zM{P:Program}{w:World}{K:W.Frag}{tg:Expr}(it:Addr)(lo:Int)(n:Nat):Turn P w K tg (Itr lo n) [it] it (fun i h=>IsRangeIter h it (lo+(i:Nat)*1) ((n:Int) - (i:Nat)) 1) where
 mem:=by simp
 obj:=fun i h st b hb=>by
  have e:b=it:=by simpa using hb
  subst e;exact⟨_,st,fun v z=>by
   have z':Data.fields _=Data.cell v:=z;cases z'⟩
 keep:=fun i h h' st k=>k it (by simp) _ st
 item:=by
  intro X hP hw hK hc i pins s σ H E I hf st hg;subst hP hw hK;obtain⟨f0,f1,f2,f3,f4,f5⟩:=hf it (by simp);have W:=Walks.range (prog:=X.prog) (w:=X.w) (I.ok.hd hc) it lo 1 n;refine W.item i s _ _ hg st fun v h' tk hv st' kk=>?_
  obtain⟨t,rfl⟩:=hv;have I1:Inv X pins σ H {s with heap:=h',toks:=tk}:=I.turned (fun b o hb e=>kk b o (by simpa using hb) e) f0 f1 f3 f4 f5;refine⟨_,rfl,yO (s:={s with heap:=h',toks:=tk}) (n:= "range_iterator") st' rfl rfl (by decide) ⟨.int (lo+i),H,I1,⟨t,?_⟩,⟨rfl,rfl⟩,st',fun b hb=>(hf b hb).1⟩⟩;rw[Int.mul_one]
 done:=by intro X hP hw hK hc i pins s σ H E I hf st hg;subst hP hw hK;obtain⟨f0,f1,f2,f3,f4,f5⟩:=hf it (by simp);exact wpAny_pyNext_range_end (I.ok.hd hc) st (by have:n<=i:=hg;omega) fun h' eb=>⟨rfl,I.turned (t':=s.toks) (fun b o hb e=>eb b o hb e) f0 f1 f3 f4 f5⟩
 self:=fun _ _ _ _ _ st h=>wpAny_pyIter_rangeiter st h
end L2
namespace L2
open PySem PySem.Spec PyProof.Rows
section
variable {X:Cx}{tg:Expr}
noncomputable def Q5(K:W.Frag)(tl:TE):TI:=fun σ H R=>tl σ H fun x H1=>∃a,x=.ref a/\(∃xs,SqL K H1 a xs)/\R (Itl K a) H1
noncomputable def UP(K:W.Frag)(tl:TE):TI:=fun σ H R=>tl σ H fun x H1=>∃a,x=.ref a/\(∃xs,SqT K H1 a xs)/\R (Itt K a) H1
theorem eO{l:Expr}{tl:TE}(hl:PE X l tl):PI X tg l (Q5 X.K tl):=by
 intro pins s σ H R I h;refine thn (hl pins s σ H _ I h) fun v s1 ⟨x,H1,I1,r1,q1⟩=>?_
 obtain⟨a,e,⟨xs,hq⟩,q⟩:=q1;subst e;cases r1;obtain⟨its,rv,p,hz⟩:=I1.list hq;refine wpAny_pyIter_list p.isList ?_;refine⟨s1.heap.objs.size,[s1.heap.objs.size],_,_,H1,rfl,I1.kept (t':=s1.toks) fun b o e=>Heap.get?_push_of_some _ e,CL a _,⟨_,Heap.get?_push_size _ rfl,rfl,rfl⟩,fun b hb=>?_,q⟩;have e:b=s1.heap.objs.size:=by simpa using hb
 subst e;exact I1.AZ (Nat.le_refl _) (I1.hok.fresh (Nat.le_refl _))
theorem jW{l:Expr}{tl:TE}(hl:PE X l tl):PI X tg l (UP X.K tl):=by
 intro pins s σ H R I h;refine thn (hl pins s σ H _ I h) fun v s1 ⟨x,H1,I1,r1,q1⟩=>?_
 obtain⟨a,e,⟨xs,hq⟩,q⟩:=q1;subst e;cases r1;obtain⟨its,rv,p,hz⟩:=I1.tuple hq;refine wpAny_pyIter_tuple (show s1.heap.IsTuple a its.toArray from p) ?_;refine⟨s1.heap.objs.size,[s1.heap.objs.size],_,_,H1,rfl,I1.kept (t':=s1.toks) fun b o e=>Heap.get?_push_of_some _ e,zL a _,⟨_,Heap.get?_push_size _ rfl,rfl,rfl⟩,fun b hb=>?_,q⟩;have e:b=s1.heap.objs.size:=by simpa using hb
 subst e;exact I1.AZ (Nat.le_refl _) (I1.hok.fresh (Nat.le_refl _))
theorem xD{pins:List (Addr×Obj)}{σ:St}{H:Hp}{s:Shared}{R:It->Hp->Prop}{E:Value->Shared->Prop}{lo hi:Int}{t u v:Tok}{tk:Nat}(I:Inv X pins σ H s)(h1:-(2^62)<=lo)(h2:lo<2^62)(h3:-(2^62)<=hi)(h4:hi<2^62)
  (q:R (Itr lo (hi - lo).toNat) H):wpAny (model X.prog X.w) X.A (pyIter (.ref s.heap.objs.size)) (PIE X pins σ tg R) E {s with heap:=s.heap.push {cls:=.type "range",data:=.fields #[.int lo t,.int hi u,.int 1 v]},toks:=tk}:=by
 refine wpAny_pyIter_range (IsRange.new ..) (small_one h1 h2 h3 h4) ?_;have I1:Inv X pins σ H {s with heap:=s.heap.push {cls:=.type "range",data:=.fields #[.int lo t,.int hi u,.int 1 v]},toks:=tk}:=I.kept fun b o e=>Heap.get?_push_of_some _ e
 refine⟨(s.heap.push {cls:=.type "range",data:=.fields #[.int lo t,.int hi u,.int 1 v]}).objs.size,[(s.heap.push {cls:=.type "range",data:=.fields #[.int lo t,.int hi u,.int 1 v]}).objs.size],_,_,H,rfl,
  I1.kept (t':=tk) fun b o e=>Heap.get?_push_of_some _ e,zM _ lo (hi - lo).toNat,?_,fun b hb=>?_,q⟩
 ·have e1:lo+((0:Nat):Int)*1=lo:=by simp
  have e2:(((hi - lo).toNat:Nat):Int) - ((0:Nat):Int)=Builtin.Range.rangeSize lo hi 1:=by rw[rangeSize_one];split<;>omega
  show IsRangeIter _ _ (lo+((0:Nat):Int)*1) ((((hi - lo).toNat:Nat):Int) - ((0:Nat):Int)) 1
  rw[e1,e2];exact Heap.get?_push_size _ rfl
 ·have e:b=(s.heap.push {cls:=.type "range",data:=.fields #[.int lo t,.int hi u,.int 1 v]}).objs.size:=by simpa using hb
  subst e;exact I1.AZ (Nat.le_refl _) (I1.hok.fresh (Nat.le_refl _))
noncomputable def Q4(ta:TA):TI:=fun σ H R=>ta σ H fun vs H1=>∃j:Int,vs=[.int j]/\-(2^62)<=j/\j<2^62/\R (Itr 0 j.toNat) H1
noncomputable def Q3(ta:TA):TI:=fun σ H R=>ta σ H fun vs H1=>∃i j:Int,vs=[.int i,.int j]/\(-(2^62)<=i/\i<2^62/\-(2^62)<=j/\j<2^62)/\R (Itr i (j - i).toNat) H1
theorem uI{a:Expr}{ta:TA}{p pos:Pos}(hg:Gl X "range")(hm:X.mg "range" =none)(ha:PA X [a] ta)(hs:starEach [a] X.env=[(false,eval a X.env)]:=by rfl):PI X tg (.Call (.Name "range" p) [a] [] pos) (Q4 ta):=by
 intro pins s σ H R I h;refine Call_ (p8 I hg hm boot_range (PyProof.Rows.callWith_type1 (thn (ha pos pins s σ H _ I h) fun us s1 ⟨vs,H1,I1,r1,q1⟩=>?_) hs rfl));obtain⟨j,e,q1,q2,q⟩:=q1;subst e;cases r1 with
 |cons r rr=>cases rr;obtain⟨t,rfl⟩:=r;exact call_range_1 (xD I1 (by omega) (by omega) q1 q2 (by simpa using q))
theorem D7{a b:Expr}{ta:TA}{p pos:Pos}(hg:Gl X "range")(hm:X.mg "range" =none)(ha:PA X [a,b] ta)(hs:starEach [a,b] X.env=[(false,eval a X.env),(false,eval b X.env)]:=by rfl)(hs2:starEach [b] X.env=[(false,eval b X.env)]:=by rfl):
  PI X tg (.Call (.Name "range" p) [a,b] [] pos) (Q3 ta):=by
 intro pins s σ H R I h;refine Call_ (p8 I hg hm boot_range (PyProof.Rows.callWith_type1 (thn (ha pos pins s σ H _ I h) fun us s1 ⟨vs,H1,I1,r1,q1⟩=>?_) (by rw[hs,hs2]) (by rw[hs2];rfl)));obtain⟨i,j,e,⟨q1,q2,q3,q4⟩,q⟩:=q1;subst e;cases r1 with
 |cons r rr=>
  cases rr with
  |cons r' rr=>cases rr;obtain⟨t,rfl⟩:=r;obtain⟨t',rfl⟩:=r';exact call_range_2 (xD I1 q1 q2 q3 q4 q)
noncomputable def QS(wi:TI)(g:TG)(tb:TS):TS:=fun D σ H=>wi σ H fun J H1=>∃W:Nat->Nat->St->Hp->Prop,(∃m,W 0 m σ H1)/\∀i m σ H,W i m σ H ->
 (J.stop i H/\D.nx σ H)\/(J.go i H/\∃N:St->Hp->Prop,(∀σ' H',N σ' H'->∃m',m'<m/\W (i+1) m' σ' H')/\∀x H',J.yld i H x H'->g x σ H' fun σ2 H2=>tb {D with nx:=N,ct:=N,bk:=D.nx} σ2 H2)
noncomputable def oU(fp:List Addr)(h:Heap):List (Addr×Obj):=fp.filterMap fun b=>(h.get? b).map fun o=>(b,o)
theorem j6{fp:List Addr}{h:Heap}{b:Addr}{o:Obj}(hb:b∈fp)(e:h.get? b=some o):(b,o)∈oU fp h:=List.mem_filterMap.mpr ⟨b,hb,by rw[e];rfl⟩
theorem D8{fp:List Addr}{h:Heap}{p:Addr×Obj}(hp:p∈oU fp h):p.1∈fp/\h.get? p.1=some p.2:=by
 obtain⟨b,hb,e⟩:=List.mem_filterMap.mp hp;cases q:h.get? b with
 |none=>rw[q]at e;cases e
 |some o=>rw[q]at e;have e':(b,o)=p:=Option.some.inj e;subst e';exact⟨hb,q⟩
theorem Inv.pinned{pins:List (Addr×Obj)}{σ:St}{H:Hp}{s:Shared}{fp:List Addr}(I:Inv X pins σ H s)(hf:∀b∈fp,mM X pins H b)(ho:∀b∈fp,∃o,s.heap.get? b=some o/\∀v,o.data≠ .cell v):Inv X (pins++oU fp s.heap) σ H s:=
 I.BM fun p hp=>(List.mem_append.mp hp).elim (fun z=>I.pin p (List.mem_append_right _ z)) fun z=>by obtain⟨hb,e⟩:=D8 z;obtain⟨f0,f1,f2,_⟩:=hf p.1 hb;obtain⟨o,e',d⟩:=ho p.1 hb;rw[e]at e';cases e';exact⟨e,f0,f1,f2,d⟩
theorem Inv.jR{pins pl:List (Addr×Obj)}{σ:St}{H:Hp}{s:Shared}(I:Inv X (pins++pl) σ H s):Inv X pins σ H s:=I.BM fun p hp=>I.pin p (List.mem_append_right _ (List.mem_append_left _ hp))
theorem cF{iter:Expr}{body:List Stmt}{wi:TI}{g:TG}{tb:TS}{pos:Pos}(hp:PassesOwn (model X.prog X.w) X.A X.env X.xe)(hc:X.calm=true)(hi:PI X tg iter wi)(hg:PG X tg g)(hb:PSs X body tb)
  (hs:∀x,foldedSetIterable iter X.env x=pure x:=by intro _;rfl):PS X (.For tg iter body [] pos) (QS wi g tb):=by
 intro pins s σ H D I h;refine wpAny_For (thn (hi pins s σ H _ I h) fun v s1 h1=>thn h1 fun itv s2 h2=>?_) hs;obtain⟨it,fp,tn,J,H2,e,I2,T,st2,f2,W,⟨m0,w0⟩,turn⟩:=h2;subst e;have stat:∀{H':Hp},(∀b∈fp,H' b=none)->∀b∈fp,mM X pins H' b:=fun hn b hb=>⟨hn b hb,(f2 b hb).2⟩
 refine codeAny_forLoop_any (fun n s'=>∃i σ' H',Inv X pins σ' H' s'/\tn i s'.heap/\(∀b∈fp,H' b=none)/\W i n σ' H') ?_ m0 ⟨0,σ,H2,I2,st2,fun b hb=>(f2 b hb).1,w0⟩;rintro n s3 ⟨i,σ3,H3,I3,st3,fr3,w3⟩;rcases turn i n σ3 H3 w3 with⟨stop,qn⟩|⟨go,N,hN,step⟩
 ·refine wpAny_passesOwn hp (thn (T.done X rfl rfl rfl hc i pins s3 σ3 H3 X.xe I3 (stat fr3) st3 stop) fun r s4 ⟨hr,I4⟩=>?_);subst hr;exact wpAny_execs_nil ⟨σ3,H3,I4,qn⟩
 ·refine wpAny_passesOwn hp (thn (T.item X rfl rfl rfl hc i pins s3 σ3 H3 X.xe I3 (stat fr3) st3 go) fun r s4 ⟨u,hr,h4⟩=>?_);subst hr;refine wpAny_passesOwn hp (thn h4 fun _ s5 ⟨x,H5,I5,r5,y5,st5,fr5⟩=>?_);have I5':=I5.pinned (stat fr5) (T.obj _ _ st5);refine wpAny_passesOwn hp (thn (hg _ s5 σ3 H5 x u _ I5' r5 (step x H5 y5)) fun _ s6 ⟨σ6,H6,I6,q6⟩=>?_);refine wpAny_passesOwn hp (thn (hb _ s6 σ6 H6 _ I6 q6) fun f s7 q7=>?_);have again:∀{σ7:St}{H7:Hp},Inv X (pins++oU fp s5.heap) σ7 H7 s7->N σ7 H7->∃m,m<n/\∃i σ' H',Inv X pins σ' H' s7/\tn i s7.heap/\(∀b∈fp,H' b=none)/\W i m σ' H':=fun{σ7 H7} I7 n7=>by obtain⟨m',hm,w7⟩:=hN σ7 H7 n7;refine⟨m',hm,i+1,σ7,H7,I7.jR,T.keep _ _ _ st5 fun b hb o e=>(I7.pin (b,o) (List.mem_append_right _ (List.mem_append_right _ (j6 hb e)))).1,fun b hb=>?_,w7⟩;obtain⟨o,e,d⟩:=T.obj _ _ st5 b hb;exact(I7.pin (b,o) (List.mem_append_right _ (List.mem_append_right _ (j6 hb e)))).2.1
  cases f with
  |next=>obtain⟨σ7,H7,I7,n7⟩:=q7;exact again I7 n7
  |cont=>obtain⟨σ7,H7,I7,n7⟩:=q7;exact again I7 n7
  |brk=>obtain⟨σ7,H7,I7,q7⟩:=q7;exact⟨σ7,H7,I7.jR,q7⟩
  |ret v=>obtain⟨x7,σ7,H7,I7,r7,q7⟩:=q7;exact⟨x7,σ7,H7,I7.jR,r7,q7⟩
end
theorem kB{K:W.Frag}{a:Addr}{xs:List V}{g:TG}{tb:TS}{D:Ends}{σ:St}{H:Hp}(Pv:Nat->St->Hp->Prop)(h0:Pv 0 σ H)(hl:∀i σ H,i<=xs.length->Pv i σ H->SqL K H a xs)
  (hs:∀i x σ H,xs[i]? =some x->Pv i σ H->g x σ H fun σ2 H2=>tb {D with nx:=Pv (i+1),ct:=Pv (i+1),bk:=D.nx} σ2 H2) (hd:∀σ H,Pv xs.length σ H->D.nx σ H):
  ∃W:Nat->Nat->St->Hp->Prop,(∃m,W 0 m σ H)/\∀i m σ H,W i m σ H ->
   ((Itl K a).stop i H/\D.nx σ H)\/((Itl K a).go i H/\∃N:St->Hp->Prop,(∀σ' H',N σ' H'->∃m',m'<m/\W (i+1) m' σ' H')/\∀x H',(Itl K a).yld i H x H'->g x σ H' fun σ2 H2=>tb {D with nx:=N,ct:=N,bk:=D.nx} σ2 H2):=by
 refine⟨fun i m σ H=>m=xs.length - i/\i<=xs.length/\Pv i σ H,⟨xs.length,by simp,Nat.zero_le _,h0⟩,?_⟩;rintro i m σ H ⟨rfl,hi,p⟩;have q:=hl i σ H hi p;by_cases hlt:i<xs.length
 ·refine .inr ⟨⟨xs,xs[i],q,by simp[hlt]⟩,Pv (i+1),fun σ' H' p'=>⟨xs.length - (i+1),by omega,rfl,hlt,p'⟩,fun x H' y=>?_⟩;obtain⟨e,y⟩:=y;subst e;exact hs i x σ _ (y xs q) p
 ·have e:i=xs.length:=by omega
  subst e;exact .inl ⟨⟨xs,q,Nat.le_refl _⟩,hd σ H p⟩
theorem jD{K:W.Frag}{a:Addr}{xs:List V}{g:TG}{tb:TS}{D:Ends}{σ:St}{H:Hp}(Pv:Nat->St->Hp->Prop)(h0:Pv 0 σ H)(hl:∀i σ H,i<=xs.length->Pv i σ H->SqT K H a xs)
  (hs:∀i x σ H,xs[i]? =some x->Pv i σ H->g x σ H fun σ2 H2=>tb {D with nx:=Pv (i+1),ct:=Pv (i+1),bk:=D.nx} σ2 H2) (hd:∀σ H,Pv xs.length σ H->D.nx σ H):
  ∃W:Nat->Nat->St->Hp->Prop,(∃m,W 0 m σ H)/\∀i m σ H,W i m σ H ->
   ((Itt K a).stop i H/\D.nx σ H)\/((Itt K a).go i H/\∃N:St->Hp->Prop,(∀σ' H',N σ' H'->∃m',m'<m/\W (i+1) m' σ' H')/\∀x H',(Itt K a).yld i H x H'->g x σ H' fun σ2 H2=>tb {D with nx:=N,ct:=N,bk:=D.nx} σ2 H2):=by
 refine⟨fun i m σ H=>m=xs.length - i/\i<=xs.length/\Pv i σ H,⟨xs.length,by simp,Nat.zero_le _,h0⟩,?_⟩;rintro i m σ H ⟨rfl,hi,p⟩;have q:=hl i σ H hi p;by_cases hlt:i<xs.length
 ·refine .inr ⟨⟨xs,xs[i],q,by simp[hlt]⟩,Pv (i+1),fun σ' H' p'=>⟨xs.length - (i+1),by omega,rfl,hlt,p'⟩,fun x H' y=>?_⟩;obtain⟨e,y⟩:=y;subst e;exact hs i x σ _ (y xs q) p
 ·have e:i=xs.length:=by omega
  subst e;exact .inl ⟨⟨xs,q,Nat.le_refl _⟩,hd σ H p⟩
theorem pG{lo:Int}{n:Nat}{g:TG}{tb:TS}{D:Ends}{σ:St}{H:Hp}(Pv:Nat->St->Hp->Prop)(h0:Pv 0 σ H)
  (hs:∀i σ H,i<n->Pv i σ H->g (.int (lo+i)) σ H fun σ2 H2=>tb {D with nx:=Pv (i+1),ct:=Pv (i+1),bk:=D.nx} σ2 H2) (hd:∀σ H,Pv n σ H->D.nx σ H):
  ∃W:Nat->Nat->St->Hp->Prop,(∃m,W 0 m σ H)/\∀i m σ H,W i m σ H ->
   ((Itr lo n).stop i H/\D.nx σ H)\/((Itr lo n).go i H/\∃N:St->Hp->Prop,(∀σ' H',N σ' H'->∃m',m'<m/\W (i+1) m' σ' H')/\∀x H',(Itr lo n).yld i H x H'->g x σ H' fun σ2 H2=>tb {D with nx:=N,ct:=N,bk:=D.nx} σ2 H2):=by
 refine⟨fun i m σ H=>m=n - i/\i<=n/\Pv i σ H,⟨n,by simp,Nat.zero_le _,h0⟩,?_⟩;rintro i m σ H ⟨rfl,hi,p⟩;by_cases hlt:i<n
 ·refine .inr ⟨hlt,Pv (i+1),fun σ' H' p'=>⟨n - (i+1),by omega,rfl,hlt,p'⟩,fun x H' y=>?_⟩;obtain⟨e,y⟩:=y;subst e y;exact hs i σ _ hlt p
 ·have e:i=n:=by omega
  subst e;exact .inl ⟨Nat.le_refl _,hd σ H p⟩
theorem mO{c:TT}{tb:TS}{D:Ends}{σ:St}{H:Hp}(Pv:St->Hp->Prop)(μ:St->Hp->Nat)(h0:Pv σ H)
  (hs:∀σ H,Pv σ H->c σ H fun b H1=>if b=true then tb {D with nx:=fun σ' H'=>Pv σ' H'/\μ σ' H'<μ σ H,ct:=fun σ' H'=>Pv σ' H'/\μ σ' H'<μ σ H,bk:=D.nx} σ H1 else D.nx σ H1)
  (mono:∀σ H Q Q',(∀b H1,Q b H1->Q' b H1)->c σ H Q->c σ H Q'):EX c tb D σ H:=by
 refine⟨fun m σ H=>m=μ σ H/\Pv σ H,⟨_,rfl,h0⟩,?_⟩;rintro m σ H ⟨rfl,p⟩;refine mono σ H _ _ (fun b H1 q=>?_) (hs σ H p);cases b with
 |true=>exact⟨_,fun σ' H' ⟨p',l⟩=>⟨_,l,rfl,p'⟩,q⟩
 |false=>exact q
end L2
namespace L2
open PySem PySem.Spec PyProof.Rows
abbrev R2:=V->V->Hp->VK->Prop
noncomputable def OpR(X:Cx)(f:Value->Value->Sem Value)(r:R2):Prop:=
 ∀(pins:List (Addr×Obj))(s:Shared)(σ:St)(H:Hp)(x y:V)(v u:Value)(Q:VK),Inv X pins σ H s->RelV x v->RelV y u->r x y H Q ->
  wpAny (model X.prog X.w) X.A (f v u) (EP X pins σ Q) X.xe s
noncomputable def UnR(X:Cx)(f:Value->Sem Value)(r:V->Hp->VK->Prop):Prop:=
 ∀(pins:List (Addr×Obj))(s:Shared)(σ:St)(H:Hp)(x:V)(v:Value)(Q:VK),Inv X pins σ H s->RelV x v->r x H Q ->
  wpAny (model X.prog X.w) X.A (f v) (EP X pins σ Q) X.xe s
noncomputable def jM(X:Cx)(f:Value)(r:List V->Hp->VK->Prop):Prop:=
 ∀(pins:List (Addr×Obj))(s:Shared)(σ:St)(H:Hp)(xs:List V)(us:List Value)(Q:VK),Inv X pins σ H s->Vals xs us->r xs H Q ->
  wpAny (model X.prog X.w) X.A (call f us) (EP X pins σ Q) X.xe s
noncomputable def UX(X:Cx)(r:V->Hp->(Bool->Hp->Prop)->Prop):Prop:=
 ∀(pins:List (Addr×Obj))(s:Shared)(σ:St)(H:Hp)(x:V)(v:Value)(Q:Bool->Hp->Prop),Inv X pins σ H s->RelV x v->r x H Q ->
  wpAny (model X.prog X.w) X.A (truthy v) (TP X pins σ Q) X.xe s
noncomputable def tOp(r:R2)(ta tb:TE):TE:=fun σ H Q=>ta σ H fun x H1=>tb σ H1 fun y H2=>r x y H2 Q
def tUn(r:V->Hp->VK->Prop)(ta:TE):TE:=fun σ H Q=>ta σ H fun x H1=>r x H1 Q
noncomputable def rI(C:Int->Int->Prop)(g:Int->Int->V):R2:=fun x y H Q=>∃i j,x=.int i/\y=.int j/\C i j/\Q (g i j) H
noncomputable def rI0(g:Int->Int->V):R2:=fun x y H Q=>∃i j,x=.int i/\y=.int j/\Q (g i j) H
def rU(g:Int->V):V->Hp->VK->Prop:=fun x H Q=>∃i,x=.int i/\Q (g i) H
section
variable {X:Cx}{a b c:Expr}{ta tb tc:TE}{pos:Pos}
theorem LP(ha:PE X a ta)(hb:PE X b tb){pins:List (Addr×Obj)}{s:Shared}{σ:St}{H:Hp}{R:V->V->Hp->Prop}(I:Inv X pins σ H s)
  (h:ta σ H fun x H1=>tb σ H1 fun y H2=>R x y H2) {Q:Value->Shared->Prop}{f:Value->Value->Sem Value}
  (hf:∀v u s2 x y H2,Inv X pins σ H2 s2->RelV x v->RelV y u->R x y H2->wpAny (model X.prog X.w) X.A (f v u) Q X.xe s2):
  wpAny (model X.prog X.w) X.A (eval a X.env) (fun v s₁=>wpAny (model X.prog X.w) X.A (eval b X.env) (fun u s₂=>wpAny (model X.prog X.w) X.A (f v u) Q X.xe s₂) X.xe s₁) X.xe s:=by
 refine thn (ha pins s σ H _ I h) fun v s1 ⟨x,H1,I1,r1,q1⟩=>?_
 refine thn (hb pins s1 σ H1 _ I1 q1) fun u s2 ⟨y,H2,I2,r2,q2⟩=>?_
 exact hf v u s2 x y H2 I2 r1 r2 q2
theorem gJ{op:Operator}{r:R2}(ho:OpR X (binaryOp op) r)(ha:PE X a ta)(hb:PE X b tb):PE X (.BinOp a op b pos) (tOp r ta tb):=by intro pins s σ H Q I h;exact wpAny_BinOp (LP ha hb I h fun v u s2 x y H2 I2 rx ry q=>ho pins s2 σ H2 x y v u Q I2 rx ry q)
theorem JU{op:UnaryOp}{r:V->Hp->VK->Prop}(ho:UnR X (unaryOp op) r)(ha:PE X a ta):PE X (.UnaryOp op a pos) (tUn r ta):=by intro pins s σ H Q I h;exact UnaryOp_ (thn (ha pins s σ H _ I h) fun v s1 ⟨x,H1,I1,r1,q1⟩=>ho pins s1 σ H1 x v Q I1 r1 q1)
theorem opI{f:Value->Value->Sem Value}{C:Int->Int->Prop}{g:Int->Int->Int}
  (rule:∀(i j:Int)(t u:Tok)(s:Shared)(Q:Value->Shared->Prop)(E:Value->Shared->Prop),C i j->Q (.int (g i j) s.toks) {s with toks:=s.toks+1}->wpAny (model X.prog X.w) X.A (f (.int i t) (.int j u)) Q E s):
  OpR X f (rI C fun i j=>.int (g i j)):=by
 intro pins s σ H x y v u Q I rx ry h;obtain⟨i,j,rfl,rfl,hc,q⟩:=h;obtain⟨t,rfl⟩:=rx;obtain⟨t',rfl⟩:=ry;exact rule i j t t' s _ _ hc ⟨.int (g i j),H,I.tok _,⟨_,rfl⟩,q⟩
theorem MK{f:Value->Value->Sem Value}{g:Int->Int->Int}
  (rule:∀(i j:Int)(t u:Tok)(s:Shared)(Q:Value->Shared->Prop)(E:Value->Shared->Prop),Q (.int (g i j) s.toks) {s with toks:=s.toks+1}->wpAny (model X.prog X.w) X.A (f (.int i t) (.int j u)) Q E s):
  OpR X f (rI0 fun i j=>.int (g i j)):=by
 intro pins s σ H x y v u Q I rx ry h;obtain⟨i,j,rfl,rfl,q⟩:=h;obtain⟨t,rfl⟩:=rx;obtain⟨t',rfl⟩:=ry;exact rule i j t t' s _ _ ⟨.int (g i j),H,I.tok _,⟨_,rfl⟩,q⟩
theorem ML{f:Value->Value->Sem Value}{g:Int->Int->Bool}
  (rule:∀(i j:Int)(t u:Tok)(s:Shared)(Q:Value->Shared->Prop)(E:Value->Shared->Prop),Q (.bool (g i j)) s->wpAny (model X.prog X.w) X.A (f (.int i t) (.int j u)) Q E s):
  OpR X f (rI0 fun i j=>.bl (g i j)):=by
 intro pins s σ H x y v u Q I rx ry h;obtain⟨i,j,rfl,rfl,q⟩:=h;obtain⟨t,rfl⟩:=rx;obtain⟨t',rfl⟩:=ry;exact rule i j t t' s _ _ ⟨.bl (g i j),H,I,rfl,q⟩
def LW(i j:Int):Prop:=(-(2^64)<i/\i<2^64)\/(-(2^64)<j/\j<2^64)
theorem LW.ok{i j:Int}(h:LW i j):IntMulOk i j:=by
 rcases h with⟨h1,h2⟩|⟨h1,h2⟩
 ·exact .of_left (intBits_le_64 h1 h2)
 ·exact .of_right (intBits_le_64 h1 h2)
theorem m6:OpR X (binaryOp .Add) (rI0 fun i j=>.int (i+j)):=MK fun _ _ _ _ _ _ _ q=>add_int q
theorem FR:OpR X (binaryOp .Sub) (rI0 fun i j=>.int (i - j)):=MK fun _ _ _ _ _ _ _ q=>sub_int q
theorem A5:OpR X (binaryOp .Mult) (rI LW fun i j=>.int (i*j)):=opI fun _ _ _ _ _ _ _ hc q=>mul_int q hc.ok
theorem A6:OpR X (binaryOp .Mod) (rI (fun _ j=>0<j) fun i j=>.int (i%j)):=opI fun i j _ _ _ _ _ hc q=>by have h1:(0:Int)<j:=hc;exact mod_int' (by omega) (by rw[Int.fmod_eq_emod_of_nonneg i (by omega)];exact q)
theorem unI{f:Value->Sem Value}{g:Int->Int}
  (rule:∀(i:Int)(t:Tok)(s:Shared)(Q:Value->Shared->Prop)(E:Value->Shared->Prop),Q (.int (g i) s.toks) {s with toks:=s.toks+1}->wpAny (model X.prog X.w) X.A (f (.int i t)) Q E s):
  UnR X f (rU fun i=>.int (g i)):=by
 intro pins s σ H x v Q I rx h;obtain⟨i,rfl,q⟩:=h;obtain⟨t,rfl⟩:=rx;exact rule i t s _ _ ⟨.int (g i),H,I.tok _,⟨_,rfl⟩,q⟩
theorem ES:UnR X (unaryOp .USub) (rU fun i=>.int (-i)):=unI fun _ _ _ _ _ q=>neg_int q
end
noncomputable def ME:V->V->Bool
 | .non,.non=>true| .non,.int _=>true| .int _,.non=>true| .non,.bl _=>true| .bl _,.non=>true| .non,.str _=>true| .str _,.non=>true
 | .int _,.int _=>true| .bl _,.bl _=>true| .str _,.str _=>true| .byt _,.byt _=>true
 | .int _,.str _=>true| .str _,.int _=>true| .bl _,.str _=>true| .str _,.bl _=>true
 |_,_=>false
def rEq:R2:=fun x y H Q=>ME x y=true/\Q (.bl (decide (x=y))) H
def rNe:R2:=fun x y H Q=>ME x y=true/\Q (.bl (!decide (x=y))) H
theorem wI{i j:Int}:decide (V.int i=V.int j)=(i==j):=by rw[Bool.eq_iff_iff];simp
theorem GU{i j:Bool}:decide (V.bl i=V.bl j)=(i==j):=by rw[Bool.eq_iff_iff];simp
theorem C9{i j:Str}:decide (V.str i=V.str j)=(i==j):=by rw[Bool.eq_iff_iff];simp
theorem CA{i j:Array UInt8}:decide (V.byt i=V.byt j)=(i.toList==j.toList):=by rw[Bool.eq_iff_iff];cases i;cases j;simp
section
variable {X:Cx}{a b c:Expr}{ta tb tc:TE}{pos:Pos}
theorem bK{pins:List (Addr×Obj)}{σ:St}{H:Hp}{s:Shared}{Q:VK}{k k':Bool}(I:Inv X pins σ H s)(q:Q (.bl k) H)(e:k=k'):EP X pins σ Q (.bool k') s:=by subst e;exact⟨.bl k,H,I,rfl,q⟩
theorem jY:OpR X (compareOp .Eq) rEq:=by
 intro pins s σ H x y v u Q I rx ry h;obtain⟨hs,q⟩:=h;cases x with
 |non=>
  cases rx;cases y with
  |non=>cases ry;exact PySem.EqNone.eq_none_none (bK I q (by simp))
  |bl j=>cases ry;exact PySem.EqNone.eq_none_bool (bK I q (by simp))
  |int j=>obtain⟨t',rfl⟩:=ry;exact PySem.EqNone.eq_none_int (bK I q (by simp))
  |str j=>obtain⟨t',rfl⟩:=ry;exact PySem.EqNone.eq_none_str (bK I q (by simp))
  |_=>exact absurd (show false=true from hs) Bool.false_ne_true
 |bl i=>
  cases rx;cases y with
  |non=>cases ry;exact PySem.EqNone.eq_bool_none (bK I q (by simp))
  |bl j=>cases ry;exact eq_bool (bK I q GU)
  |str j=>obtain⟨t',rfl⟩:=ry;exact PySem.EqMixed.eq_bool_str (bK I q (by simp))
  |_=>exact absurd (show false=true from hs) Bool.false_ne_true
 |int i=>
  obtain⟨t,rfl⟩:=rx;cases y with
  |non=>cases ry;exact PySem.EqNone.eq_int_none (bK I q (by simp))
  |int j=>obtain⟨t',rfl⟩:=ry;exact eq_int (bK I q wI)
  |str j=>obtain⟨t',rfl⟩:=ry;exact PySem.EqMixed.eq_int_str (bK I q (by simp))
  |_=>exact absurd (show false=true from hs) Bool.false_ne_true
 |str i=>
  obtain⟨t,rfl⟩:=rx;cases y with
  |non=>cases ry;exact PySem.EqNone.eq_str_none (bK I q (by simp))
  |bl j=>cases ry;exact PySem.EqMixed.eq_str_bool (bK I q (by simp))
  |int j=>obtain⟨t',rfl⟩:=ry;exact PySem.EqMixed.eq_str_int (bK I q (by simp))
  |str j=>obtain⟨t',rfl⟩:=ry;exact eq_str (bK I q C9)
  |_=>exact absurd (show false=true from hs) Bool.false_ne_true
 |byt i=>
  obtain⟨t,rfl⟩:=rx;cases y with
  |byt j=>obtain⟨t',rfl⟩:=ry;exact W.eq_bytes (bK I q CA)
  |_=>exact absurd (show false=true from hs) Bool.false_ne_true
 |_=>cases y<;>exact absurd (show false=true from hs) Bool.false_ne_true
theorem FT:OpR X (compareOp .NotEq) rNe:=by
 intro pins s σ H x y v u Q I rx ry h;obtain⟨hs,q⟩:=h;cases x with
 |non=>
  cases rx;cases y with
  |non=>cases ry;exact PySem.EqNone.ne_none_none (bK I q (by simp))
  |bl j=>cases ry;exact PySem.EqNone.ne_none_bool (bK I q (by simp))
  |int j=>obtain⟨t',rfl⟩:=ry;exact PySem.EqNone.ne_none_int (bK I q (by simp))
  |str j=>obtain⟨t',rfl⟩:=ry;exact PySem.EqNone.ne_none_str (bK I q (by simp))
  |_=>exact absurd (show false=true from hs) Bool.false_ne_true
 |bl i=>
  cases rx;cases y with
  |non=>cases ry;exact PySem.EqNone.ne_bool_none (bK I q (by simp))
  |bl j=>cases ry;exact ne_bool (bK I q (congrArg not GU))
  |str j=>obtain⟨t',rfl⟩:=ry;exact PySem.EqMixed.ne_bool_str (bK I q (by simp))
  |_=>exact absurd (show false=true from hs) Bool.false_ne_true
 |int i=>
  obtain⟨t,rfl⟩:=rx;cases y with
  |non=>cases ry;exact PySem.EqNone.ne_int_none (bK I q (by simp))
  |int j=>obtain⟨t',rfl⟩:=ry;exact ne_int (bK I q (congrArg not wI))
  |str j=>obtain⟨t',rfl⟩:=ry;exact PySem.EqMixed.ne_int_str (bK I q (by simp))
  |_=>exact absurd (show false=true from hs) Bool.false_ne_true
 |str i=>
  obtain⟨t,rfl⟩:=rx;cases y with
  |non=>cases ry;exact PySem.EqNone.ne_str_none (bK I q (by simp))
  |bl j=>cases ry;exact PySem.EqMixed.ne_str_bool (bK I q (by simp))
  |int j=>obtain⟨t',rfl⟩:=ry;exact PySem.EqMixed.ne_str_int (bK I q (by simp))
  |str j=>obtain⟨t',rfl⟩:=ry;exact ne_str (bK I q (congrArg not C9))
  |_=>exact absurd (show false=true from hs) Bool.false_ne_true
 |byt i=>
  obtain⟨t,rfl⟩:=rx;cases y with
  |byt j=>obtain⟨t',rfl⟩:=ry;exact W.ne_bytes (bK I q (congrArg not CA))
  |_=>exact absurd (show false=true from hs) Bool.false_ne_true
 |_=>cases y<;>exact absurd (show false=true from hs) Bool.false_ne_true
theorem FU:OpR X (compareOp .Lt) (rI0 fun i j=>.bl (decide (i<j))):=ML fun _ _ _ _ _ _ _ q=>lt_int q
theorem uO:OpR X (compareOp .Gt) (rI0 fun i j=>.bl (decide (j<i))):=ML fun _ _ _ _ _ _ _ q=>gt_int q
theorem bZ(b:Expr){op:CmpOp}(h:op≠ .In:=by decide)(h2:op≠ .NotIn:=by decide):behindInMarks op b=false:=by
 have e1:(op==CmpOp.In)=false:=by cases op<;>first|rfl|exact absurd rfl h
 have e2:(op==CmpOp.NotIn)=false:=by cases op<;>first|rfl|exact absurd rfl h2
 cases b<;>simp[behindInMarks,e1,e2]
theorem qV{op:CmpOp}{r:R2}(ho:OpR X (compareOp op) r)(ha:PE X a ta)(hb:PE X b tb)(hm:behindInMarks op b=false):PE X (.Compare a [op] [b] pos) (tOp r ta tb):=by intro pins s σ H Q I h;exact wpAny_Compare1 (LP ha hb I h fun v u s2 x y H2 I2 rx ry q=>ho pins s2 σ H2 x y v u Q I2 rx ry q) hm
def M0(t:TE):TT:=fun σ H Q=>t σ H fun x H'=>∃k,x=.bl k/\Q k H'
theorem bV{op:CmpOp}{r:R2}(ho:OpR X (compareOp op) r)(ha:PE X a ta)(hb:PE X b tb)(hm:behindInMarks op b=false):PT X (.Compare a [op] [b] pos) (M0 (tOp r ta tb)):=by
 intro pins s σ H Q I h;refine wpAny_isTrue_Compare1 (thn (ha pins s σ H _ I h) fun v s1 ⟨x,H1,I1,r1,q1⟩=>thn (hb pins s1 σ H1 _ I1 q1) fun u s2 ⟨y,H2,I2,r2,q2⟩=>
  thn (ho pins s2 σ H2 x y v u _ I2 r1 r2 q2) fun c s3 ⟨z,H3,I3,r3,k,e,q3⟩=>?_) hm
 subst e;cases r3;exact wpAny_truthy_bool ⟨H3,I3,q3⟩
noncomputable def QH(K:W.Frag)(x:V)(H:Hp)(k:Bool):Prop:=
 match x with
 | .non=>k=false
 | .bl b=>k=b
 | .int i=>k=(i !=0)
 | .str y=>y.length<=sizeLine/\k=((y.length:Int) !=0)
 | .byt y=>y.size<=sizeLine/\k=((y.size:Int) !=0)
 | .ref p=>(∃xs,SqL K H p xs/\k=!xs.isEmpty)\/(∃xs,SqT K H p xs/\k=!xs.isEmpty)\/∃kvs,H p=some (.dK kvs)/\k=!kvs.isEmpty
 |_=>False
theorem AM{κ:Type}{kvs:List (κ×V)}{vs:List (κ×Value)}(r:KV kvs vs):(!vs.isEmpty)=!kvs.isEmpty:=by cases r<;>rfl
theorem sL{xs:List V}{its:List Value}(r:Vals xs its):(!its.toArray.isEmpty)=!xs.isEmpty:=by cases r<;>simp
theorem m9:(sizeLine:Nat)<2^63:=by rw[sizeLine_eq];decide
theorem K4:UX X (fun x H Q=>∃k,QH X.K x H k/\Q k H):=by
 intro pins s σ H x v Q I rx h;obtain⟨k,e,q⟩:=h;have hl:=m9;have hs:sizeLine=16777216:=sizeLine_eq;cases x with
 |non=>cases rx;have e':k=false:=e;subst e';exact truthy_none ⟨H,I,q⟩
 |bl b=>cases rx;have e':k=b:=e;subst e';exact wpAny_truthy_bool ⟨H,I,q⟩
 |int i=>obtain⟨t,rfl⟩:=rx;have e':k=(i !=0):=e;subst e';exact PySem.P.truthy_int ⟨H,I,q⟩
 |str y=>obtain⟨t,rfl⟩:=rx;obtain⟨hy,e'⟩:y.length<=sizeLine/\k=((y.length:Int) !=0):=e;subst e';exact PySem.P.truthy_str (by omega) ⟨H,I.tok _,q⟩
 |byt y=>obtain⟨t,rfl⟩:=rx;obtain⟨hy,e'⟩:y.size<=sizeLine/\k=((y.size:Int) !=0):=e;subst e';exact W.truthy_bytes (by omega) ⟨H,I.tok _,q⟩
 |ref p=>
  cases rx;have e':(∃xs,SqL X.K H p xs/\k=!xs.isEmpty)\/(∃xs,SqT X.K H p xs/\k=!xs.isEmpty)\/∃kvs,H p=some (.dK kvs)/\k=!kvs.isEmpty:=e
  rcases e' with⟨xs,hx,e'⟩|⟨xs,hx,e'⟩|⟨kvs,hx,e'⟩
  ·subst e';obtain⟨its,r,pl,hz⟩:=I.list hx;have hlen:=r.length;exact wpAny_truthy_list pl.isList (by simp only[List.size_toArray];omega) ⟨H,I.tok _,by rw[sL r];exact q⟩
  ·subst e';obtain⟨its,r,pl,hz⟩:=I.tuple hx;have hlen:=r.length;exact truthy_tuple pl (by simp only[List.size_toArray];omega) ⟨H,I.tok _,by rw[sL r];exact q⟩
  ·subst e';obtain⟨hz,hS,vs,r,m⟩:kvs.length<=sizeLine/\(p==sysModules)=false/\∃vs,KV kvs vs/\s.heap.DictOf (bW X.prog X.w) p vs:=I.hok p _ hx
   have hlen:kvs.length=vs.length:=Paired.length r;exact wpAny_truthy_dict hS m (by omega) ⟨H,I.tok _,by rw[AM r];exact q⟩
 |_=>exact(show False from e).elim
theorem rW(ha:PE X a ta)(he:∀whole,isTrue a X.env whole=(do let v<- whole;standAt a.pos;holding [v] (truthy v))):
  PT X a (fun σ H Q=>ta σ H fun x H'=>∃k,QH X.K x H' k/\Q k H'):=by
 intro pins s σ H Q I h;exact isTrue_plain (thn (ha pins s σ H _ I h) fun v s1 ⟨x,H1,I1,r1,q1⟩=>K4 pins s1 σ H1 x v Q I1 r1 q1) (he _)
theorem vals1{x:V}{us:List Value}(r:Vals [x] us):∃u,us=[u]/\RelV x u:=by
 cases r with
 |cons r1 r2=>cases r2;exact⟨_,rfl,r1⟩
theorem vals2{x y:V}{us:List Value}(r:Vals [x,y] us):∃u w',us=[u,w']/\RelV x u/\RelV y w':=by
 cases r with
 |cons r1 r2=>
  cases r2 with
  |cons r3 r4=>cases r4;exact⟨_,_,rfl,r1,r3⟩
theorem EE(hc:X.calm=true):jM X (.builtin "max") (fun xs H Q=>∃i j,xs=[.int i,.int j]/\Q (.int (if j>i then j else i)) H):=by
 intro pins s σ H xs us Q I r h;obtain⟨i,j,rfl,q⟩:=h;obtain⟨u,w',rfl,⟨t,rfl⟩,⟨t',rfl⟩⟩:=vals2 r;refine max_two_ints (I.ok.hd hc) fun h' tk k=>⟨_,H,I.kept k,?_,q⟩
 by_cases hj:j>i
 ·rw[if_pos hj,if_pos hj];exact⟨_,rfl⟩
 ·rw[if_neg hj,if_neg hj];exact⟨_,rfl⟩
theorem ED(hc:X.calm=true):jM X (.builtin "min") (fun xs H Q=>∃i j,xs=[.int i,.int j]/\Q (.int (if j<i then j else i)) H):=by
 intro pins s σ H xs us Q I r h;obtain⟨i,j,rfl,q⟩:=h;obtain⟨u,w',rfl,⟨t,rfl⟩,⟨t',rfl⟩⟩:=vals2 r;refine min_two_ints (I.ok.hd hc) fun h' tk k=>⟨_,H,I.kept k,?_,q⟩
 by_cases hj:j<i
 ·rw[if_pos hj,if_pos hj];exact⟨_,rfl⟩
 ·rw[if_neg hj,if_neg hj];exact⟨_,rfl⟩
end
end L2
namespace L2
open PySem PySem.Spec PyProof.Rows
structure EI(h:Heap)(x dx C:Addr)(mA:Str->Option Value):Prop where
 obj:h.get? x=some (W.instObj C dx)
 ns:h.Ns1 dx mA
 ne:dx≠x
theorem DG{h:Heap}{dx:Addr}{mA:Str->Option Value}(n:h.Ns1 dx mA):∃od,h.get? dx=some od/\∀name,W.lookIn name od=some (mA name):=by
 obtain⟨o,es,ep,ho,hd,hk,_,hm⟩:=n;refine⟨o,ho,fun name=>?_⟩;have e:=hm name;unfold nsFind findBy at e;rw[<- Array.find?_toList]at e;unfold W.lookIn;rw[hd];dsimp only;split
 ·rename_i y q;rw[q]at e;exact congrArg some e
 ·rename_i q;rw[q]at e;have a:es.toList.any (·.refKey)=false:=by rw[List.any_eq_false];intro y hy;obtain⟨z,t,hkey⟩:=hk y (Array.mem_toList_iff.mp hy);simp[DictEntry.refKey,hkey]
  have a':¬es.toList.any (·.refKey)=true:=by rw[a];exact Bool.false_ne_true
  rw[if_neg a'];exact congrArg some e
theorem EI.look{h:Heap}{x dx C:Addr}{mA:Str->Option Value}(I:EI h x dx C mA):∃od,W.InstAt h x (W.instObj C dx) C (some od)/\∀name,W.lookIn name od=some (mA name):=
 let⟨od,ho,hl⟩:=DG I.ns
 ⟨od,⟨I.obj,rfl,rfl,ho⟩,hl⟩
section
variable {prog:Program}{w:World}{A:Around}{E:Value->Shared->Prop}{s:Shared}{K:W.Frag}{x dx C f:Addr}{mA:Str->Option Value}{name:Str}{v:Value}
theorem get_map{expr:Bool}{Q:Value->Shared->Prop}(X:K.In s.heap)(I:EI s.heap x dx C mA)(hg:W.plainGet K C name=true)(hh:W.hasDictIn K C=true)
  (ha:W.findIn K (.ref C) name=some none) (hv:mA name=some v) (hv':W.handedIn v=true) (h:Q v {s with toks:=s.toks+1}):
  wpAny (model prog w) A (getAttr (.ref x) name expr) Q E s:=by
 obtain⟨od,J,hl⟩:=I.look;exact W.get_value X J (W.plainGet_of hg).1 (W.findObj_own hh ha rfl (by rw[hl,hv])) hv' h
theorem HV{ns:List Str}{Q:Unit->Shared->Prop}(X:K.In s.heap)(I:EI s.heap x dx C mA)
  (hs:W.findIn K (.ref C) "__setattr__" =some (some (.builtin "object.__setattr__"))) (hp:W.plainOver K C=true) (ht:W.takerIn K C name=some none) (hh:W.hasDictIn K C=true)
  (hw:PySem.Within mA ns) (hsz:ns.length<=sizeLine)
  (h:∀h',EI h' x dx C (fun y=>if y=name then some v else mA y)->Heap.SameBut dx s.heap h'->Q () {s with heap:=h',toks:=s.toks+2}):
  wpAny (model prog w) A (setAttr (.ref x) name v) Q E s:=by
 obtain⟨od,J,hl⟩:=I.look;refine W.set_plain X J hs (W.osa_open (s:={s with toks:=s.toks+1}) (r:=none) X J hp ht fun b=>?_);obtain⟨cd,hc,hd'⟩:=W.any_some hh;have hx:s.heap.get? x=some ⟨.ref C,some dx,.plain,#[]⟩:=I.obj;refine wpAny_bind (wpAny_pure (wpAny_bind (wpAny_bind (wpAny_loadPart hx (wpAny_bind (W.Looks.here (s:={s with toks:=s.toks+1}) (W.looks_clsIn X hc) ?_))))));rw[hd'];refine wpAny_pure (a:=some dx) (wpAny_bind (wpAny_pure (wpAny_bind ?_)));refine wpAny_nsSet1 (s:={s with toks:=s.toks+1}) I.ns fun h' hn2 hs2=>?_
 obtain⟨oD,esD,epD,hoD,hdD,hcD⟩:=hn2.count (PySem.Within.cons name v hw);refine wpAny_bind (wpAny_lookBehind hoD (by rw[hdD];exact pastItsLine_dict (Nat.le_trans hcD (by rw[List.length_cons];omega))) ?_);exact wpAny_pure (h _ ⟨(hs2.2 _ (Ne.symm I.ne)).trans I.obj,hn2,I.ne⟩ hs2)
theorem G1{R:Result->Shared->Prop}{vs:List Value}{kw:List (Str×Value)}(X:K.In s.heap)(hm:W.makesIn K C=true)
  (hi:W.findIn K (.ref C) "__init__" =some (some (.ref f))) (hf:W.typeIn K (.ref f)=some (.type "function"))
  (h:codeAny (model prog w) (A.under (.builtin "type.__call__" ⟨.ref C::vs,kw⟩)) (.call (.ref f) ⟨.ref (s.heap.objs.size+1)::vs,kw⟩) (W.InitBack (s.heap.objs.size+1) R)
   {s with heap:=(s.heap.push W.emptyDict).push (W.instObj C s.heap.objs.size)}):
  codeAny (model prog w) A (.call (.ref C) ⟨vs,kw⟩) R s:=by
 obtain⟨hh,g,d,t,os⟩:=s;exact W.make_core (W.makes_of X hm) (W.looks_findIn X hi) (fun self=>W.bind_fn X self hf) (.inl rfl) h
end
noncomputable def bO(f:Str)(v:V):List (Str×V)->List (Str×V)
 |[]=>[(f,v)]
 |(g,x)::r=>if g=f then(g,v)::r else(g,x)::bO f v r
theorem bI(f g:Str)(v:V):∀fs:List (Str×V),(bO f v fs).lookup g=if g=f then some v else fs.lookup g
 |[]=>by
  show List.lookup g [(f,v)]=_
  by_cases h:g=f
  ·have hb:(g==f)=true:=beq_iff_eq.mpr h;simp only[List.lookup,hb,if_pos h]
  ·have hb:(g==f)=false:=beq_eq_false_iff_ne.mpr h;simp only[List.lookup,hb,if_neg h]
 |(k,x)::r=>by
  have ih:=bI f g v r;rw[show bO f v ((k,x)::r)=(if k=f then(k,v)::r else(k,x)::bO f v r)from rfl];by_cases hk:k=f
  ·rw[if_pos hk];by_cases h:g=k
   ·have hb:(g==k)=true:=beq_iff_eq.mpr h;simp only[List.lookup,hb,if_pos (h.trans hk)]
   ·have hb:(g==k)=false:=beq_eq_false_iff_ne.mpr h;simp only[List.lookup,hb,if_neg (fun e:g=f=>h (e.trans hk.symm))]
  ·rw[if_neg hk];by_cases h:g=k
   ·have hb:(g==k)=true:=beq_iff_eq.mpr h;simp only[List.lookup,hb,if_neg (fun e:g=f=>hk (h.symm.trans e))]
   ·have hb:(g==k)=false:=beq_eq_false_iff_ne.mpr h;simp only[List.lookup,hb];exact ih
theorem p9(f:Str)(v:V):∀fs:List (Str×V),f∈(bO f v fs).map (·.1)/\∀g,g∈fs.map (·.1)->g∈(bO f v fs).map (·.1)
 |[]=>⟨by simp[bO],fun g h=>by simp at h⟩
 |(k,x)::r=>by
  obtain⟨i1,i2⟩:=p9 f v r;rw[show bO f v ((k,x)::r)=(if k=f then(k,v)::r else(k,x)::bO f v r)from rfl];by_cases hk:k=f
  ·rw[if_pos hk];subst hk;exact⟨by simp,fun g h=>by simpa using h⟩
  ·rw[if_neg hk];refine⟨?_,fun g h=>?_⟩
   ·rw[List.map_cons];exact List.mem_cons_of_mem _ i1
   ·rw[List.map_cons]at h ⊢;rcases List.mem_cons.mp h with e|e
    ·exact List.mem_cons.mpr (.inl e)
    ·exact List.mem_cons_of_mem _ (i2 g e)
theorem dF(f:Str)(v:V):∀fs:List (Str×V),(bO f v fs).length<=fs.length+1
 |[]=>by simp[bO]
 |(k,x)::r=>by
  have ih:=dF f v r;rw[show bO f v ((k,x)::r)=(if k=f then(k,v)::r else(k,x)::bO f v r)from rfl];by_cases hk:k=f
  ·rw[if_pos hk,List.length_cons,List.length_cons];omega
  ·rw[if_neg hk,List.length_cons,List.length_cons];omega
theorem mK.some_of{v:V}{o:Option Value}(r:mK (some v) o):∃u,o=some u/\RelV v u:=by
 cases o with
 |none=>exact(show False from r).elim
 |some u=>exact⟨u,rfl,r⟩
theorem DS{v:V}{u:Value}(r:RelV v u):W.handedIn u=true:=by
 cases v with
 |non=>cases (show u=Value.none from r);rfl
 |bl b=>cases (show u=Value.bool b from r);rfl
 |int i=>obtain⟨t,e⟩:=(show∃t,u=Value.int i t from r);cases e;rfl
 |str x=>obtain⟨t,e⟩:=(show∃t,u=Value.str x t from r);cases e;rfl
 |byt b=>obtain⟨t,e⟩:=(show∃t,u=Value.bytes b t from r);cases e;rfl
 |flt b=>obtain⟨t,e⟩:=(show∃t,u=Value.float b t from r);cases e;rfl
 |ref a=>cases (show u=Value.ref a from r);rfl
 |ty n=>cases (show u=Value.type n from r);rfl
section
variable {P:Program}{w:World}{H H':Hp}{h h':Heap}{a C dx:Addr}{fs fs':List (Str×V)}
theorem C1(hok:HOk P w H h)(e:H a=some (.ins C dx fs)):∃mA,EI h a dx C mA/\(∀f,mK (fs.lookup f) (mA f))/\PySem.Within mA (fs.map (·.1))/\fs.length<=1000/\H dx=some (.own a):=by obtain⟨d,z,ne,ob,mA,n,r,q⟩:=(show cW P w H h a (.ins C dx fs)from hok a _ e);exact⟨mA,⟨ob,n,ne⟩,r,q,z,d⟩
end
structure Cls(K:W.Frag)(C:Addr):Prop where
 pg:W.plainGet K C Str.empty=true
 hd:W.hasDictIn K C=true
 po:W.plainOver K C=true
 sa:W.findIn K (.ref C) "__setattr__" =some (some (.builtin "object.__setattr__"))
theorem Cls.get{K:W.Frag}{C:Addr}(c:Cls K C)(f:Str):W.plainGet K C f=true:=c.pg
def fV(K:W.Frag)(C:Addr)(f:Str):Prop:=W.findIn K (.ref C) f=some none
theorem fV.LZ{K:W.Frag}{C:Addr}{f:Str}(n:fV K C f):W.takerIn K C f=some none:=by unfold W.takerIn;rw[show W.findIn K (.ref C) f=some none from n];rfl
section
variable {X:Cx}{pins:List (Addr×Obj)}{σ:St}{H:Hp}{s:Shared}{a C dx:Addr}{fs:List (Str×V)}{f:Str}{v:V}{A:Around}{E:Value->Shared->Prop}
theorem AW{b:Bool}{Q:Value->Shared->Prop}(I:Inv X pins σ H s)(e:H a=some (.ins C dx fs))(c:Cls X.K C)(n:fV X.K C f)(l:fs.lookup f=some v)
  (h:∀u s',Inv X pins σ H s'->RelV v u->Q u s'):wpAny (model X.prog X.w) A (getAttr (.ref a) f b) Q E s:=by
 obtain⟨mA,O,r,_,_,_⟩:=C1 I.hok e;obtain⟨u,hu,ru⟩:=mK.some_of (v:=v) (o:=mA f) (by rw[<- l];exact r f);exact get_map I.kIn O (c.get f) c.hd n hu (DS ru) (h u _ (I.tok _) ru)
theorem zR{y:V}{u:Value}{Q:Unit->Shared->Prop}(I:Inv X pins σ H s)(e:H a=some (.ins C dx fs))(c:Cls X.K C)(n:fV X.K C f)(hl:fs.length<1000)(ry:RelV y u)
  (h:∀s',Inv X pins σ (upd H a (.ins C dx (bO f y fs))) s'->Q () s'):wpAny (model X.prog X.w) A (setAttr (.ref a) f u) Q E s:=by
 obtain⟨mA,O,r,wi,_,ho⟩:=C1 I.hok e;have hz:(fs.map (·.1)).length<=sizeLine:=by rw[List.length_map,sizeLine_eq];omega
 refine HV I.kIn O c.sa c.po n.LZ c.hd wi hz fun h' O' sb=>h _ ?_
 have hd:∃o,h'.get? dx=some o:=let⟨o,_,_,e',_⟩:=O'.ns;⟨o,e'⟩
 refine I.write (x:=a) (e:=dx) (by rw[e];exact True.intro) (.inr ho) (fun b q hb z=>(sb.2 b hb).trans z) hd ?_;refine⟨by rw[aA O.ne];exact ho,?_,O.ne,O'.obj,_,O'.ns,fun g=>?_,fun g hg=>?_⟩
 ·have:=dF f y fs;omega
 ·show mK ((bO f y fs).lookup g) (if g=f then some u else mA g)
  rw[bI];by_cases q:g=f
  ·rw[if_pos q,if_pos q];exact ry
  ·rw[if_neg q,if_neg q];exact r g
 ·by_cases q:g=f
  ·rw[q];exact(p9 f y fs).1
  ·refine(p9 f y fs).2 g (wi g fun z=>hg ?_);show(if g=f then some u else mA g)=none
   rw[if_neg q];exact z
theorem Inv.made(I:Inv X pins σ H s):Inv X pins σ (upd (upd H s.heap.objs.size (.own (s.heap.objs.size+1))) (s.heap.objs.size+1) (.ins C s.heap.objs.size []))
  {s with heap:=(s.heap.push W.emptyDict).push (W.instObj C s.heap.objs.size)}:=by
 have e1:(s.heap.push W.emptyDict).get? s.heap.objs.size=some W.emptyDict:=Heap.get?_push_size s.heap rfl;have e2:((s.heap.push W.emptyDict).push (W.instObj C s.heap.objs.size)).get? (s.heap.objs.size+1)=some (W.instObj C s.heap.objs.size):=by
  have:=Heap.get?_push_size (s.heap.push W.emptyDict) (o:=W.instObj C s.heap.objs.size) rfl
  rwa [Heap.size_push]at this
 have e3:(s.heap.push W.emptyDict).Ns s.heap.objs.size (fun _=>none):=⟨W.emptyDict,#[],_,e1,rfl,(fun e he=>absurd he (by simp)),fun _=>rfl⟩;have I1:=I.laid (a:=s.heap.objs.size) (o:=.own (s.heap.objs.size+1)) (h':=s.heap.push W.emptyDict) (t':=s.toks) (fun b u q=>Heap.get?_push_of_some _ q) (Nat.le_refl _) ⟨_,e1⟩;refine I1.laid (a:=s.heap.objs.size+1) (o:=.ins C s.heap.objs.size []) (t':=s.toks) (fun b u q=>Heap.get?_push_of_some _ q) (Nat.le_of_eq (Heap.size_push _ _)) ?_;have ne:s.heap.objs.size≠s.heap.objs.size+1:=Nat.ne_of_lt (Nat.lt_succ_self _);refine⟨by rw[aA ne,a7],Nat.zero_le _,ne,e2,fun _=>none,(Heap.Ns1.of_empty e3).at fun o q=>Heap.get?_push_of_some _ q,fun _=>True.intro,fun y hy=>absurd rfl hy⟩
theorem JJ{prog:Program}{w:World}{env:Env}{e:Expr}{f:Str}{pos:Pos}{s:Shared}{Q:Value->Shared->Prop}(hb:attributeBase e f env (eval e env)=eval e env)
  (h:wpAny (model prog w) A (eval e env) (fun o s₁=>wpAny (model prog w) A (getAttr o f true) Q E s₁) E s):wpAny (model prog w) A (eval (.Attribute e f pos) env) Q E s:=
 Attribute_any_ h (by rw[arm_eval_Attribute,hb])
end
noncomputable def M9(K:W.Frag)(ta:TE)(f:Str):TE:=fun σ H Q=>ta σ H fun x H1=>∃a C dx fs v,x=.ref a/\H1 a=some (.ins C dx fs)/\Cls K C/\fV K C f/\fs.lookup f=some v/\Q v H1
noncomputable def QY(K:W.Frag)(ta tv:TE)(f:Str):TS:=fun D σ H=>tv σ H fun y H1=>ta σ H1 fun x H2=>∃a C dx fs,x=.ref a/\H2 a=some (.ins C dx fs)/\Cls K C/\fV K C f/\fs.length<1000/\
 D.nx σ (upd H2 a (.ins C dx (bO f y fs)))
section
variable {X:Cx}{o e value:Expr}{f:Str}{pos pos' tpos:Pos}{ta tv:TE}
theorem fQ(he:PE X e ta)(hb:attributeBase e f X.env (eval e X.env)=eval e X.env):PE X (.Attribute e f pos) (M9 X.K ta f):=by intro pins s σ H Q I h;refine JJ hb (thn (he pins s σ H _ I h) fun u s1 ⟨x,H1,I1,rx,a,C,dx,fs,v,ex,ea,c,n,l,q⟩=>?_);subst ex;obtain rfl:u=Value.ref a:=rx;exact AW I1 ea c n l fun u' s2 I2 ru=>⟨v,H1,I2,ru,q⟩
theorem oS(ha:PE X o ta)(hv:PE X value tv)(hs:swapsWith value (some (.Attribute o f pos')) pos.line X.env=pure false):PS X (.Assign [.Attribute o f pos'] value pos) (QY X.K ta tv f):=by intro pins s σ H D I h;refine plainObj_wpAny_Assign_Attribute (thn (hv pins s σ H _ I h) fun u s1 ⟨y,H1,I1,ry,q⟩=>thn (ha pins s1 σ H1 _ I1 q) fun ov s2 ⟨x,H2,I2,rx,a,C,dx,fs,ex,ea,c,n,l,q2⟩=>?_) hs;subst ex;obtain rfl:ov=Value.ref a:=rx;exact zR I2 ea c n l ry fun s3 I3=>⟨σ,_,I3,q2⟩
end
end L2
namespace L2
open PySem PySem.Spec PyProof.Rows
structure cQ(k:Nat)(A:Around):Prop where
 hd:A.handled=none
 dp:A.depth+3*k+5<recursionLimit
 un:A.units+16*k+200<cLine
theorem cQ.mono{j k:Nat}{A:Around}(r:cQ k A)(h:j<=k):cQ j A:=⟨r.hd,by have:=r.dp;omega,by have:=r.un;omega⟩
theorem cQ.deeper{k:Nat}{A:Around}(r:cQ (k+1) A)(env:Env):cQ k (A.deeper env):=
 ⟨r.hd,by have:=r.dp;show A.depth+1+3*k+5< _;omega,by have:=r.un;show A.units+3+16*k+200< _;omega⟩
theorem cQ.in1{k:Nat}{A:Around}(r:cQ (k+1) A):cQ k A.in1:=
 ⟨r.hd,by have:=r.dp;show A.depth+3*k+5< _;omega,by have:=r.un;show A.units+1+16*k+200< _;omega⟩
theorem AG{A:Around}{C:Addr}{us:List Value}{kw:List (Str×Value)}:(A.under (.builtin "type.__call__" ⟨.ref C::us,kw⟩)).depth=A.depth+1:=by first|rfl|simp[Around.under,Code.weight,Code.isCreation,Code.isGuard,Code.isCaller,Code.frames,Code.isFrame,guardIds]
theorem AF{A:Around}{C:Addr}{us:List Value}{kw:List (Str×Value)}:(A.under (.builtin "type.__call__" ⟨.ref C::us,kw⟩)).units=A.units+1:=by first|rfl|simp[Around.under,Code.cUnits,Code.frames,Code.isFrame]
theorem cQ.make{k:Nat}{A:Around}(r:cQ (k+1) A)(C:Addr)(us:List Value)(kw:List (Str×Value)):cQ k (A.under (.builtin "type.__call__" ⟨.ref C::us,kw⟩)):=
 ⟨r.hd,by have:=r.dp;rw[AG];omega,by have:=r.un;rw[AF];omega⟩
theorem cQ.depth{k:Nat}{A:Around}(r:cQ k A):A.depth<recursionLimit:=by have:=r.dp;omega
theorem cQ.units{k:Nat}{A:Around}(r:cQ k A):A.units+64<cLine:=by have:=r.un;omega
def HQ:TA:=fun _ H Q=>Q [] H
noncomputable def wX(ta:TE)(tr:TA):TA:=fun σ H Q=>ta σ H fun x H1=>tr σ H1 fun xs H2=>Q (x::xs) H2
section
variable {X:Cx}{e:Expr}{es:List Expr}{te:TE}{t:TA}{pos:Pos}
theorem aC:PA X [] HQ:=fun _ _ _ _ H Q I h=>Calls.spliced_nil ⟨[],H,I,.nil,h⟩
theorem a8(ha:PE X e te)(hr:PA X es t)(hs:starEach (e::es) X.env=(false,eval e X.env)::starEach es X.env:=by rfl):PA X (e::es) (wX te t):=by
 intro pos pins s σ H Q I h;rw[hs];show wpAny _ _ (spliced ((false,eval e X.env)::backTo pos (starEach es X.env))) _ _ s
 refine Calls.spliced_cons (thn (ha pins s σ H _ I h) fun u s1 ⟨x,H1,I1,r1,q1⟩=>?_);exact thn (hr pos pins s1 σ H1 _ I1 q1) fun us s2 ⟨xs,H2,I2,r2,q2⟩=>⟨x::xs,H2,I2,.cons r1 r2,q2⟩
noncomputable def QN(t:TA):TE:=fun σ H Q=>t σ H fun xs H1=>xs.length<=sizeLine/\∀p,H1 p=none->Q (.ref p) (upd H1 p (.tup xs))
noncomputable def QQ(t:TA):TE:=fun σ H Q=>t σ H fun xs H1=>xs.length<=sizeLine/\∀p,H1 p=none->Q (.ref p) (upd H1 p (.lst xs))
theorem dE{x1}(h:PA X es t):PE X (.Tuple es x1 pos) (QN t):=by intro pins s σ H Q I hq;refine wpAny_Tuple_spliced (thn (h pos pins s σ H _ I hq) fun us s1 ⟨xs,H1,I1,r,z,q⟩=>⟨by rw[<- r.length];exact z,?_⟩);have hf:H1 s1.heap.objs.size=none:=I1.hok.fresh (Nat.le_refl _);refine⟨.ref s1.heap.objs.size,upd H1 s1.heap.objs.size (.tup xs),I1.laid (t':=s1.toks) (fun b u e=>Heap.get?_push_of_some _ e) (Nat.le_refl _) ?_,rfl,q _ hf⟩;exact⟨z,us,r,⟨_,Heap.get?_push_size _ rfl,rfl,_,rfl⟩⟩
theorem fO(h:PA X es t):PE X (.List es pos) (QQ t):=by intro pins s σ H Q I hq;refine wpAny_List_spliced (thn (h pos pins s σ H _ I hq) fun us s1 ⟨xs,H1,I1,r,z,q⟩=>⟨by rw[<- r.length];exact z,?_⟩);have hf:H1 s1.heap.objs.size=none:=I1.hok.fresh (Nat.le_refl _);refine⟨.ref s1.heap.objs.size,upd H1 s1.heap.objs.size (.lst xs),I1.laid (t':=s1.toks) (fun b u e=>Heap.get?_push_of_some _ e) (Nat.le_refl _) ?_,rfl,q _ hf⟩;exact⟨z,us,0,r,Heap.get?_push_size _ rfl⟩
end
abbrev Sp:=List V->Hp->VK->XK->Prop
abbrev CXT:=List Env->Hp->Shared->XK->Value->Shared->Prop
structure nZ(P:Program)(w:World)(K:W.Frag)(mg:Str->Option Value)(base:Heap)(A:Around)(outer:List Env)(s:Shared)(H:Hp):Prop where
 frames:A.frames=some outer
 mod:Mod K mg base
 bs:∀b o,base.get? b=some o->s.heap.get? b=some o/\H b=none
 bsz:base.objs.size<=s.heap.objs.size
 kA:s.heap.FunFrames base outer
 frf:∀b∈frs outer,H b=none
 hok:HOk P w H s.heap
 bare:AllBare s.gens
noncomputable def CE(outer:List Env)(P:Program)(w:World)(H:Hp)(s:Shared)(Q:VK)(u:Value)(s':Shared):Prop:=
 ∃v H',s'.os=s.os/\AllBare s'.gens/\Un (frs outer) [] H H' s.heap s'.heap/\HOk P w H' s'.heap/\RelV v u/\Q v H'
noncomputable def CR(CX:CXT)(outer:List Env)(P:Program)(w:World)(H:Hp)(s:Shared)(Q:VK)(E:XK)(r:Result)(s':Shared):Prop:=
 match r with
 | .ok (.ret u)=>CE outer P w H s Q u s'
 | .ok _=>False
 | .error e=>CX outer H s E e s'
structure bM(P:Program)(w:World)(K:W.Frag)(mg:Str->Option Value)(base:Heap)(CX:CXT)(k:Nat)(f:Addr)(fd:FuncData)(ps:List Str)(sp:Sp):Prop where
 len:∀vs H Q E,sp vs H Q E->vs.length=ps.length
 run:∀(A:Around)(outer:List Env)(s:Shared)(H:Hp)(args:Args)(us:List Value)(vs:List V)(Q:VK)(E:XK),cQ k A->nZ P w K mg base A outer s H->BindsTo s fd args (ps.zip us)->Vals vs us->sp vs H Q E ->
  codeAny (model P w) A (.call (.ref f) args) (CR CX outer P w H s Q E) s
theorem nZ.make{P:Program}{w:World}{K:W.Frag}{mg:Str->Option Value}{base:Heap}{A:Around}{outer:List Env}{s:Shared}{H:Hp}(e:nZ P w K mg base A outer s H)(C:Addr)(us:List Value)(kw:List (Str×Value)):
  nZ P w K mg base (A.under (.builtin "type.__call__" ⟨.ref C::us,kw⟩)) outer s H:=⟨by first|exact e.frames|(simpa[Around.under,Code.envs,Code.isFrame,pushEnvs]using e.frames),e.mod,e.bs,e.bsz,e.kA,e.frf,e.hok,e.bare⟩
theorem nZ.in1{P:Program}{w:World}{K:W.Frag}{mg:Str->Option Value}{base:Heap}{A:Around}{outer:List Env}{s:Shared}{H:Hp}(e:nZ P w K mg base A outer s H):
  nZ P w K mg base A.in1 outer s H:=⟨e.frames,e.mod,e.bs,e.bsz,e.kA,e.frf,e.hok,e.bare⟩
section
variable {X:Cx}{pins:List (Addr×Obj)}{σ:St}{H:Hp}{s s':Shared}
theorem Inv.GP(I:Inv X pins σ H s):nZ X.prog X.w X.K X.mg X.base X.A X.stack s H:=
 ⟨I.ok.frames,I.ok.mod,I.bs,Nat.le_trans I.ok.bsz I.sz,I.stack,I.vL,I.hok,I.bare⟩
theorem Inv.after{Q:VK}{u:Value}(I:Inv X pins σ H s)(h:CE X.stack X.prog X.w H s Q u s'):EP X pins σ Q u s':=by obtain⟨v,H',os,bare,un,hok,r,q⟩:=h;obtain⟨hh,g,d,t,os'⟩:=s';obtain rfl:os'=s.os:=os;exact⟨v,H',I.call (h':=hh) (g':=g) (d':=d) (t':=t) (ch:=[]) un hok bare (fun b z=>absurd z (by simp)),r,q⟩
end
noncomputable def wY(sp:Sp)(dvs:List V)(E:XK)(t:TA):TE:=fun σ H Q=>t σ H fun vs H1=>sp (vs++dvs) H1 Q E
noncomputable def M7(C:Addr)(sp:Sp)(dvs:List V)(E:XK)(t:TA):TE:=fun σ H Q=>t σ H fun vs H1=>∀x dx,H1 x=none->H1 dx=none->dx≠x ->
 sp (.ref x::(vs++dvs)) (upd (upd H1 dx (.own x)) x (.ins C dx [])) (fun v H2=>v=.non/\Q (.ref x) H2) E
noncomputable def Binds(K:W.Frag)(fd:FuncData)(ps:List Str)(ds:List Value):Prop:=
 ∀(s:Shared)(us:List Value),K.In s.heap->(us++ds).length=ps.length->BindsTo s fd ⟨us,[]⟩ (ps.zip (us++ds))
theorem Binds.all{K:W.Frag}{fd:FuncData}{ps:List Str}(h:∀us:List Value,us.length=ps.length->bindArgs fd ⟨us,[]⟩=pure (ps.zip us)):Binds K fd ps []:=fun s us _ hl=>by rw[List.append_nil]at hl ⊢;exact .of_eq (h us hl)
noncomputable def Passes(CX:CXT)(X:Cx)(E:XK):Prop:=∀(pins:List (Addr×Obj))(σ:St)(H:Hp)(s:Shared)(e:Value)(s':Shared),Inv X pins σ H s->CX X.stack H s E e s'->X.xe e s'
section
variable {X:Cx}{CX:CXT}{k:Nat}{f C:Addr}{fd:FuncData}{ps:List Str}{sp:Sp}{dvs:List V}{ds:List Value}{E:XK}{x m:Str}{p pos apos:Pos}{e o:Expr}{es:List Expr}{ta:TE}{t:TA}
theorem KG{pins:List (Addr×Obj)}{σ:St}{H:Hp}{s:Shared}{Q:VK}{us:List Value}{vs:List V}(F:bM X.prog X.w X.K X.mg X.base CX k f fd ps sp)(hr:cQ k X.A)(hb:Binds X.K fd ps ds)(hd:Vals dvs ds)(hx:Passes CX X E)
  (I:Inv X pins σ H s) (r:Vals vs us) (h:sp (vs++dvs) H Q E):wpAny (model X.prog X.w) X.A (call (.ref f) us) (EP X pins σ Q) X.xe s:=by
 have r2:Vals (vs++dvs) (us++ds):=r.append hd;have hl:(us++ds).length=ps.length:=by rw[<- r2.length];exact F.len _ _ _ _ h
 refine wpAny_call (codeAny_mono (F.run X.A X.stack s H ⟨us,[]⟩ (us++ds) (vs++dvs) Q E hr I.GP (hb s us I.kIn hl) r2 h) fun r s' hq=>?_);cases r with
 |error e=>exact hx pins σ H s e s' I hq
 |ok fl=>
  cases fl with
  |ret u=>exact I.after hq
  |next=>exact False.elim hq
  |brk=>exact False.elim hq
  |cont=>exact False.elim hq
theorem IE(F:bM X.prog X.w X.K X.mg X.base CX k f fd ps sp)(hr:cQ k X.A)(hg:Gl X x)(hm:X.mg x=some (.ref f))(hk:W.keepIn X.K (.ref f)=true)(hb:Binds X.K fd ps ds)(hd:Vals dvs ds)(hx:Passes CX X E)
  (ha:PA X (e::es) t) (hdb:(x==("__debug__" : Str))=false:=by decide) (he:starEach (e::es) X.env=(false,eval e X.env)::starEach es X.env:=by rfl) (hpl:(backTo pos (starEach es X.env)).any (·.1)=false:=by rfl):
  PE X (.Call (.Name x p) (e::es) [] pos) (wY sp dvs E t):=by
 intro pins s σ H Q I h;refine wpAny_Call_Name_kw (j7 I hg hm ?_ hdb);refine W.callWith_K (h₀:=X.base) I.ok.mod.kin hk (thn (ha pos pins s σ H _ I h) fun us s1 ⟨vs,H1,I1,r,q⟩=>⟨I1.kIn,?_⟩) he hpl;exact KG F hr hb hd hx I1 r q
structure Mk(K:W.Frag)(C f:Addr):Prop where
 makes:W.makesIn K C=true
 init:W.findIn K (.ref C) "__init__" =some (some (.ref f))
 fn:W.isFn K (.ref f)=true
 kp:W.keepIn K (.ref C)=true
theorem F4{pins:List (Addr×Obj)}{σ:St}{H:Hp}{s:Shared}{Q:VK}{us:List Value}{vs:List V}(M:Mk X.K C f)(F:bM X.prog X.w X.K X.mg X.base CX k f fd ps sp)(hr:cQ (k+1) X.A)(hb:Binds X.K fd ps ds)(hd:Vals dvs ds)
  (hx:Passes CX X E) (I:Inv X pins σ H s) (r:Vals vs us)
  (h:∀x dx,H x=none->H dx=none->dx≠x->sp (.ref x::(vs++dvs)) (upd (upd H dx (.own x)) x (.ins C dx [])) (fun v H2=>v=.non/\Q (.ref x) H2) E):
  wpAny (model X.prog X.w) X.A (call (.ref C) us) (EP X pins σ Q) X.xe s:=by
 have hq:=h (s.heap.objs.size+1) s.heap.objs.size (I.hok.fresh (Nat.le_succ _)) (I.hok.fresh (Nat.le_refl _)) (Nat.ne_of_lt (Nat.lt_succ_self _));have I2:=Inv.made (C:=C) I;have r2:Vals (V.ref (s.heap.objs.size+1)::(vs++dvs)) (Value.ref (s.heap.objs.size+1)::(us++ds)):=.cons rfl (r.append hd);have hl:(Value.ref (s.heap.objs.size+1)::us++ds).length=ps.length:=by have e:=r2.length;rw[F.len _ _ _ _ hq]at e;exact e.symm
 refine wpAny_call (G1 (f:=f) I.kIn M.makes M.init (beq_iff_eq.mp M.fn) (codeAny_mono (F.run _ X.stack _ _ ⟨Value.ref (s.heap.objs.size+1)::us,[]⟩ (Value.ref (s.heap.objs.size+1)::(us++ds)) _ _ E (hr.make C us [])
  (I2.GP.make C us []) (hb _ (Value.ref (s.heap.objs.size+1)::us) I2.kIn hl) r2 hq) fun r s' hq'=>?_))
 cases r with
 |error e=>exact hx pins σ _ _ e s' I2 hq'
 |ok fl=>
  cases fl with
  |ret u=>obtain⟨v,H',I3,rv,ev,q3⟩:=I2.after hq';subst ev;exact⟨rv,⟨V.ref (s.heap.objs.size+1),H',I3,rfl,q3⟩⟩
  |next=>exact False.elim hq'
  |brk=>exact False.elim hq'
  |cont=>exact False.elim hq'
theorem IC(M:Mk X.K C f)(F:bM X.prog X.w X.K X.mg X.base CX k f fd ps sp)(hr:cQ (k+1) X.A)(hg:Gl X x)(hm:X.mg x=some (.ref C))(hb:Binds X.K fd ps ds)(hd:Vals dvs ds)(hx:Passes CX X E)
  (ha:PA X (e::es) t) (hdb:(x==("__debug__" : Str))=false:=by decide) (he:starEach (e::es) X.env=(false,eval e X.env)::starEach es X.env:=by rfl) (hpl:(backTo pos (starEach es X.env)).any (·.1)=false:=by rfl):
  PE X (.Call (.Name x p) (e::es) [] pos) (M7 C sp dvs E t):=by
 intro pins s σ H Q I h;refine wpAny_Call_Name_kw (j7 I hg hm ?_ hdb);refine W.callWith_K (h₀:=X.base) I.ok.mod.kin M.kp (thn (ha pos pins s σ H _ I h) fun us s1 ⟨vs,H1,I1,r,q⟩=>⟨I1.kIn,?_⟩) he hpl;exact F4 M F hr hb hd hx I1 r q
end
structure aL(N P:List Str)(sc:Scope):Prop where
 kind:sc.kind=.function
 co:sc.isCoroutine=false
 gen:sc.isGenerator=false
 nd:N.Nodup
 pre:N.take P.length=P
 par:∀x∈P,sc.names.lookup x=some .local\/sc.names.lookup x=some .cell
 KQ:∀y∈sc.names,y.2≠ .free
theorem vA{kindOf:Str->Option NameKind}{x:Str}:∀{binds:List (Str×Value)}{m:Str->Option Value},(∀v,(x,v)∉binds)->bindL kindOf binds m x=m x
 |[],_,_=>rfl
 |(n,v)::r,m,h=>by
  unfold bindL;rw[vA fun w hw=>h w (List.mem_cons_of_mem _ hw)];split
  ·have:x≠n:=by rintro rfl;exact h v List.mem_cons_self
   simp[this]
  ·rfl
theorem vC{kindOf:Str->Option NameKind}{x:Str}:∀{binds:List (Str×Value)}{m:Str->Option Value},(∀v,(x,v)∉binds)->bindC kindOf binds m x=m x
 |[],_,_=>rfl
 |(n,v)::r,m,h=>by
  unfold bindC;rw[vC fun w hw=>h w (List.mem_cons_of_mem _ hw)];split
  ·rfl
  ·have:x≠n:=by rintro rfl;exact h v List.mem_cons_self
   simp[this]
theorem vB{kindOf:Str->Option NameKind}{x:Str}{v:Value}:∀{P:List Str}{vs:List Value}{i:Nat}{m:Str->Option Value},P.Nodup->P[i]? =some x->vs[i]? =some v->kindOf x=some .local ->
  bindL kindOf (P.zip vs) m x=some v
 |[],_,_,_,_,h,_,_=>by simp at h
 |_::_,[],_,_,_,_,h,_=>by simp at h
 |p::P,w::vs,0,m,nd,h1,h2,hk=>by
  simp at h1 h2;subst h1;subst h2;show bindL kindOf ((p,w)::P.zip vs) m p=_
  unfold bindL;rw[vA fun v hv=>(List.nodup_cons.mp nd).1 (List.of_mem_zip hv).1,if_pos hk];simp
 |p::P,w::vs,i+1,m,nd,h1,h2,hk=>by
  show bindL kindOf ((p,w)::P.zip vs) m x=_
  unfold bindL;exact vB (i:=i) (List.nodup_cons.mp nd).2 (by simpa using h1) (by simpa using h2) hk
theorem vD{kindOf:Str->Option NameKind}{x:Str}{v:Value}:∀{P:List Str}{vs:List Value}{i:Nat}{m:Str->Option Value},P.Nodup->P[i]? =some x->vs[i]? =some v->kindOf x≠some .local ->
  bindC kindOf (P.zip vs) m x=some v
 |[],_,_,_,_,h,_,_=>by simp at h
 |_::_,[],_,_,_,_,h,_=>by simp at h
 |p::P,w::vs,0,m,nd,h1,h2,hk=>by
  simp at h1 h2;subst h1;subst h2;show bindC kindOf ((p,w)::P.zip vs) m p=_
  unfold bindC;rw[vC fun v hv=>(List.nodup_cons.mp nd).1 (List.of_mem_zip hv).1,if_neg hk];simp
 |p::P,w::vs,i+1,m,nd,h1,h2,hk=>by
  show bindC kindOf ((p,w)::P.zip vs) m x=_
  unfold bindC;exact vD (i:=i) (List.nodup_cons.mp nd).2 (by simpa using h1) (by simpa using h2) hk
noncomputable def start(N:List Str)(vs:List V):St:=vs.map some++List.replicate (N.length - vs.length) none
noncomputable def tV(CX:CXT)(P:Program)(w:World)(K:W.Frag)(mg:Str->Option Value)(base:Heap)(N:List Str)(qual:Str)(scope:Scope)(f:Addr)(cd:Value)(A:Around)(outer:List Env)(s:Shared)(H:Hp)(E:XK):Cx where
 prog:=P
 w:=w
 K:=K
 mg:=mg
 base:=base
 A:=A.deeper (envOfC qual scope s.heap.objs.size f cd)
 N:=N
 s_0:=s
 H_0:=H
 env:=envOfC qual scope s.heap.objs.size f cd
 outer:=outer
 stack:=envOfC qual scope s.heap.objs.size f cd::outer
 ex:=[]
 calm:=true
 fn:=fun _=>true
 pn:=[]
 xe:=fun e s'=>wpAny (model P w) (A.deeper (envOfC qual scope s.heap.objs.size f cd)) (leaving (envOfC qual scope s.heap.objs.size f cd) e) (fun _ s''=>CX outer H s E e s'') (fun e' s''=>CX outer H s E e' s'') s'
theorem zA{sc:Scope}{n:Nat}{x:Str}(h:sc.names.lookup x=some .cell):∃c,(cellsFrom n sc.names []).lookup x=some c:=by have q:=W.cellsFrom_some sc.names n [] (.inl h);exact Option.isSome_iff_exists.mp q
theorem pB{CX:CXT}{P:Program}{w:World}{K:W.Frag}{mg:Str->Option Value}{base:Heap}{N ps:List Str}{qual:Str}{scope:Scope}{f:Addr}{cd:Value}{A:Around}{outer:List Env}{s s1:Shared}{H:Hp}{E:XK}{us:List Value}{vs:List V}
  (S:aL N ps scope) (hd:A.handled=none) (e0:nZ P w K mg base A outer s H) (hl:vs.length=ps.length) (r:Vals vs us)
  (x:InCallC s s.heap.objs.size (bindL (envOfC qual scope s.heap.objs.size f cd).kindOf (ps.zip us) fun _=>none) (cellsFrom (s.heap.objs.size+1) scope.names []) (bindC (envOfC qual scope s.heap.objs.size f cd).kindOf (ps.zip us) fun _=>none) s1):
  Inv (tV CX P w K mg base N qual scope f cd A outer s H E) [] (start N vs) H s1:=by
 have hpl:ps.length<=N.length:=by have:=congrArg List.length S.pre;rw[List.length_take]at this;omega
 obtain⟨h1,tk,rfl,hk⟩:=x.done;have noA:∀b:Addr,b∉ (tV CX P w K mg base N qual scope f cd A outer s H E).ex:=fun b z=>absurd (show b∈([]:List Addr)from z) (by simp)
 refine⟨⟨e0.mod,S.kind,rfl,rfl,Nat.le_refl _,fun y z c h1 h2=>?_,fun y hy=>?_,fun y c _ h=>?_,fun _=>hd,Around.frames_deeper e0.frames,.inr ⟨rfl,rfl⟩,fun b z=>absurd z (noA b),e0.bs,e0.bsz,fun b _ _=>noA b,fun b z=>absurd z (noA b),e0.kA,e0.frf⟩,
  rfl,e0.bare,Un.kept hk,⟨_,x.toInCall.ns,fun i y v h1 h2 h3=>?_⟩,fun y c h=>⟨_,x.cell y c h⟩,e0.hok.fresh (Nat.le_refl _),fun y c h=>?_,fun p hp=>absurd (show p∈([]:List (Addr×Obj))from hp) (by simp),e0.hok.kept hk,?_⟩
 ·exact name_of_addr x.apart (PySem.mem_of_lookup h1) (PySem.mem_of_lookup h2)
 ·have hy:scope.names.lookup y=some .cell\/scope.names.lookup y=some .free:=hy;rcases hy with hy|hy
  ·exact zA hy
  ·exact absurd rfl (S.KQ _ (PySem.mem_of_lookup hy))
 ·exact Nat.le_of_lt (x.above y c (PySem.mem_of_lookup h))
 ·have hi:i<vs.length:=by
   unfold start at h2;by_cases hi:i<vs.length
   ·exact hi
   ·rw[List.getElem?_append_right (by simpa using hi)]at h2;rw[List.getElem?_replicate]at h2;split at h2<;>cases h2
  have ha:vs[i]? =some v:=by
   unfold start at h2;rw[List.getElem?_append_left (by simpa using hi),List.getElem?_map]at h2;cases e:vs[i]? with
   |none=>rw[e]at h2;cases h2
   |some a=>rw[e]at h2;cases h2;rfl
  obtain⟨u,hu,rv⟩:=r.get ha;have hp:ps[i]? =some y:=by rw[<- S.pre,List.getElem?_take_of_lt (by omega)];exact h1
  have ndP:ps.Nodup:=by rw[<- S.pre];exact S.nd.sublist (List.take_sublist _ _)
  refine⟨u,rv,?_⟩;rcases S.par y (List.mem_of_getElem? hp)with k|k
  ·exact .inl ⟨k,vB ndP hp hu k⟩
  ·obtain⟨c,e⟩:=zA (n:=s.heap.objs.size+1) k;refine .inr ⟨.inl k,c,e,?_⟩;have q:=x.cell y c e;rw[vD ndP hp hu (by show scope.names.lookup y≠ _;rw[k];decide)]at q;exact q
 ·exact e0.hok.fresh (Nat.le_of_lt (x.above y c (PySem.mem_of_lookup h)))
 ·unfold start;show _=N.length
  rw[List.length_append,List.length_map,List.length_replicate];omega
theorem QB{CX:CXT}{P:Program}{w:World}{K:W.Frag}{mg:Str->Option Value}{base:Heap}{k:Nat}{f:Addr}{name qual:Str}{params:Arguments}{body:List Stmt}{scope:Scope}{dV kV doc pm cdv ct oc:Value}{an od:Option Addr}
  {osl:Array (Option Value)}{N ps:List Str}{sp:Sp} (lk:K.lookup f=some ⟨oc,od,.func (W.fnOf name qual params body scope dV kV doc pm an cdv ct),osl⟩) (hcd:W.codeIn K cdv qual=true) (S:aL N ps scope)
  (len:∀vs H Q E,sp vs H Q E->vs.length=ps.length)
  (hbody:∀(A:Around)(outer:List Env)(s:Shared)(H:Hp)(vs:List V)(Q:VK)(E:XK),cQ k (A.deeper (envOfC qual scope s.heap.objs.size f cdv))->sp vs H Q E ->
   ∃t,PSs (tV CX P w K mg base N qual scope f cdv A outer s H E) body t/\t {nx:=fun _ H'=>Q .non H',rt:=Q} (start N vs) H):
  bM P w K mg base CX (k+1) f (W.fnOf name qual params body scope dV kV doc pm an cdv ct) ps sp:=by
 refine⟨len,fun A outer s H args us vs Q E hr e0 hb r hsp=>?_⟩;have hl:=len _ _ _ _ hsp;have KX:K.In s.heap:=e0.mod.kin.keeps fun b o e=>(e0.bs b o e).1
 have lim:s.heap.NoLimit:=e0.mod.nolimit.keeps fun b o e=>(e0.bs b o e).1
 have hkind:∀y∈ps.zip us,scope.names.lookup y.1=some .local\/(scope.names.lookup y.1=some .cell/\((cellsFrom (s.heap.objs.size+1) scope.names []).lookup y.1).isSome=true):=fun⟨n,v⟩ hy=>by
  rcases S.par n (List.of_mem_zip hy).1 with q|q
  ·exact .inl q
  ·exact .inr ⟨q,W.cellsFrom_some _ _ _ (.inl q)⟩
 refine codeAny_call_function hr.depth (KX _ _ lk) rfl S.co S.gen rfl (W.codeRec_of KX hcd) (hb _ _ _ _ ?_);refine wpAny_newFunctionEnv_cells S.kind hkind fun env he s1 x=>?_
 subst he;refine⟨lim.keeps x.toInCall.keep,codeAny_func ?_⟩;obtain⟨t,ht,hq⟩:=hbody A outer s H vs Q E (hr.deeper _) hsp;have I:Inv (tV CX P w K mg base N qual scope f cdv A outer s H E) [] (start N vs) H s1:=pB S hr.hd e0 hl r x;refine wpAny_mono (ht [] s1 (start N vs) H _ I hq) (fun fl s' hs=>?_) fun e s' hs=>hs
 have fin:∀{σ':St}{H':Hp}{v:V}{u:Value},Inv (tV CX P w K mg base N qual scope f cdv A outer s H E) [] σ' H' s'->RelV v u->Q v H'->CE outer P w H s Q u s':=
  fun{σ' H' v u} J rv q=>⟨v,H',J.os,J.bare,J.base,J.hok,rv,q⟩
 cases fl with
 |ret u=>obtain⟨v,σ',H',J,rv,q⟩:=hs;exact fin J rv q
 |next=>obtain⟨σ',H',J,q⟩:=hs;exact fin (v:=V.non) (u:=Value.none) J rfl q
 |brk=>obtain⟨_,_,_,q⟩:=hs;exact False.elim q
 |cont=>obtain⟨_,_,_,q⟩:=hs;exact False.elim q
end L2
namespace L2
open PySem PySem.Spec PyProof.Rows
section
variable {X:Cx}{x:Str}{p pos:Pos}{e:Expr}{es:List Expr}{t:TA}{id T:String}{r:List V->Hp->VK->Prop}
noncomputable def tCB(r:List V->Hp->VK->Prop)(t:TA):TE:=fun σ H Q=>t σ H fun vs H1=>r vs H1 Q
theorem bT(hc:jM X (.builtin id) r)(hg:Gl X x)(hm:X.mg x=none)(hv:bootBuiltins x=some (.builtin id))(ha:PA X (e::es) t)(hn:x≠ "__name__" :=by decide)(hdb:(x==("__debug__" : Str))=false:=by decide)
  (he:starEach (e::es) X.env=(false,eval e X.env)::starEach es X.env:=by rfl) (hpl:(backTo pos (starEach es X.env)).any (·.1)=false:=by rfl):PE X (.Call (.Name x p) (e::es) [] pos) (tCB r t):=by
 intro pins s σ H Q I h;refine wpAny_Call_Name_kw (p8 I hg hm hv ?_ hn hdb);exact PyProof.Rows.callWith_builtin1 (thn (ha pos pins s σ H _ I h) fun us s1 ⟨vs,H1,I1,r1,q1⟩=>hc pins s1 σ H1 vs us Q I1 r1 q1) he hpl
theorem oV(hc:jM X (.type T) r)(hg:Gl X x)(hm:X.mg x=none)(hv:bootBuiltins x=some (.type T))(ha:PA X (e::es) t)(hn:x≠ "__name__" :=by decide)(hdb:(x==("__debug__" : Str))=false:=by decide)
  (he:starEach (e::es) X.env=(false,eval e X.env)::starEach es X.env:=by rfl) (hpl:(backTo pos (starEach es X.env)).any (·.1)=false:=by rfl):PE X (.Call (.Name x p) (e::es) [] pos) (tCB r t):=by
 intro pins s σ H Q I h;refine wpAny_Call_Name_kw (p8 I hg hm hv ?_ hn hdb);exact PyProof.Rows.callWith_type1 (thn (ha pos pins s σ H _ I h) fun us s1 ⟨vs,H1,I1,r1,q1⟩=>hc pins s1 σ H1 vs us Q I1 r1 q1) he hpl
end
end L2
namespace HT
open PySem PyProof.Rows
section
variable {prog:Program}{w:World}{A:Around}{E:Value->Shared->Prop}{s:Shared}
noncomputable def sIx(n d:Nat):Option Int->Nat
 |none=>d
 |some v=>if v<0 then(v+(n:Int)).toNat else min v.toNat n
end
end HT
namespace L2
open PySem PySem.Spec PyProof.Rows
abbrev TO:=St->Hp->(Option Int->Hp->Prop)->Prop
noncomputable def PO(X:Cx)(e:Option Expr)(t:TO):Prop:=
 ∀(pins:List (Addr×Obj))(s:Shared)(σ:St)(H:Hp)(Q:Option Int->Hp->Prop),Inv X pins σ H s->t σ H Q ->
  wpAny (model X.prog X.w) X.A (evalPart e X.env) (fun u s'=>∃o H',Inv X pins σ H' s'/\IsPart u o/\Q o H') X.xe s
def HN:TO:=fun _ H Q=>Q none H
def M4(t:TE):TO:=fun σ H Q=>t σ H fun x H1=>∃i,x=.int i/\Q (some i) H1
section
variable {X:Cx}{e:Expr}{te:TE}{lo hi:Option Expr}{tl th:TO}{pos p2:Pos}
theorem IA:PO X none HN:=by intro pins s σ H Q I h;rw[evalPart_none];exact wpAny_pure ⟨none,H,I,.none,h⟩
theorem I0(h:PE X e te):PO X (some e) (M4 te):=by
 intro pins s σ H Q I hw;rw[evalPart_some];refine thn (h pins s σ H _ I hw) fun u s1 ⟨x,H1,I1,r1,q1⟩=>?_
 obtain⟨i,rfl,q⟩:=q1;obtain⟨t,rfl⟩:=r1;exact⟨some i,H1,I1,.int i t,q⟩
noncomputable def SlR(X:Cx)(r:V->Option Int->Option Int->Hp->VK->Prop):Prop:=
 ∀(pins:List (Addr×Obj))(s:Shared)(σ:St)(H:Hp)(x:V)(v vl vu:Value)(lo hi:Option Int)(sl:Addr)(Q:VK),Inv X pins σ H s->RelV x v->s.heap.IsSliceOf sl vl vu .none->IsPart vl lo->IsPart vu hi->r x lo hi H Q ->
  ∃T id,typeLookup (.type T) "__getitem__" =pure (some (.builtin id))/\s.TypeIs v T/\wpAny (model X.prog X.w) X.A (getItem v (.ref sl)) (EP X pins σ Q) X.xe s
noncomputable def tSl(r:V->Option Int->Option Int->Hp->VK->Prop)(te:TE)(tl th:TO):TE:=fun σ H Q=>te σ H fun x H1=>tl σ H1 fun l H2=>th σ H2 fun u H3=>r x l u H3 Q
theorem FJ{r:V->Option Int->Option Int->Hp->VK->Prop}(hr:SlR X r)(he:PE X e te)(hl:PO X lo tl)(hu:PO X hi th):PE X (.Subscript e (.Slice lo hi none p2) pos) (tSl r te tl th):=by
 intro pins s σ H Q I h;refine Subscript_ (thn (he pins s σ H _ I h) fun v s1 ⟨x,H1,I1,r1,q1⟩=>?_);refine wpAny_Slice (thn (hl pins s1 σ H1 _ I1 q1) fun vl s2 ⟨l,H2,I2,pl,q2⟩=>thn (hu pins s2 σ H2 _ I2 q2) fun vu s3 ⟨u,H3,I3,pu,q3⟩=>?_);rw[evalPart_none];refine wpAny_pure ?_;have I4:Inv X pins σ H3 {s3 with heap:=s3.heap.push {cls:=.type "slice",data:=.fields #[vl,vu,.none]}}:=I3.kept (t':=s3.toks) fun b ob q=>Heap.get?_push_of_some _ q
 obtain⟨T,id,hT,ht,hg⟩:=hr pins {s3 with heap:=s3.heap.push {cls:=.type "slice",data:=.fields #[vl,vu,.none]}} σ H3 x v vl vu l u s3.heap.objs.size Q I4 r1 (Heap.IsSliceOf.new ..) pl pu q3;show wpAny (model X.prog X.w) X.A (subscriptTail e (.Slice lo hi none p2) v (.ref s3.heap.objs.size)) (EP X pins σ Q) X.xe {s3 with heap:=s3.heap.push {cls:=.type "slice",data:=.fields #[vl,vu,.none]}}
 exact tail_any (ops:=[.ref s3.heap.objs.size,v]) ht hT hg (by with_unfolding_all rfl)
noncomputable def E8(xs:List V)(lo hi:Option Int):List V:=(xs.drop (HT.sIx xs.length 0 lo)).take (HT.sIx xs.length xs.length hi - HT.sIx xs.length 0 lo)
theorem z6(xs:List V)(lo hi:Option Int):(E8 xs lo hi).length<=xs.length:=by unfold E8;rw[List.length_take,List.length_drop];omega
end
end L2
namespace L2
open PySem PySem.Spec PyProof.Rows
noncomputable def ixN(n:Nat)(i:Int):Option Nat:=if 0<=i then(if i<n then some i.toNat else none)else if -(n:Int)<=i then some (i+n).toNat else none
def atI{α:Type}(xs:List α)(i:Int):Option α:=(ixN xs.length i).bind fun j=>xs[j]?
theorem BX{n:Nat}{i:Int}{j:Nat}(h:ixN n i=some j):seqIndex? i n=some j/\j<n/\-(n:Int)<=i/\i<n:=by
 unfold ixN at h;by_cases h0:0<=i
 ·rw[if_pos h0]at h;by_cases h1:i<n
  ·rw[if_pos h1]at h;have e:i.toNat=j:=Option.some.inj h;exact⟨by rw[seqIndex_of h0 h1,e],by omega,by omega,h1⟩
  ·rw[if_neg h1]at h;cases h
 ·rw[if_neg h0]at h;by_cases h1:-(n:Int)<=i
  ·rw[if_pos h1]at h;have e:(i+n).toNat=j:=Option.some.inj h;exact⟨by rw[seqIndex_neg (by omega) h1,e],by omega,h1,by omega⟩
  ·rw[if_neg h1]at h;cases h
theorem CF{α:Type}{xs:List α}{i:Int}{v:α}(h:atI xs i=some v):∃j,seqIndex? i xs.length=some j/\xs[j]? =some v/\j<xs.length/\-(xs.length:Int)<=i/\i<xs.length:=by
 unfold atI at h;cases e:ixN xs.length i with
 |none=>rw[e]at h;cases h
 |some j=>rw[e]at h;obtain⟨h1,h2,h3,h4⟩:=BX e;exact⟨j,h1,h,h2,h3,h4⟩
theorem JL{α:Type}{xs:List α}{j:Nat}{v:α}(h:xs[j]? =some v):atI xs (j:Int)=some v:=by
 have hj:j<xs.length:=(List.getElem?_eq_some_iff.mp h).1;have e:ixN xs.length (j:Int)=some j:=by unfold ixN;rw[if_pos (by omega),if_pos (by omega)];simp
 unfold atI;rw[e];exact h
def JO(b:Expr):Prop:=∀o i,subscripted b false o i=operate [o,i] (getItem o i)
noncomputable def IxR(X:Cx)(r:R2):Prop:=
 ∀(value slice:Expr)(pins:List (Addr×Obj))(s:Shared)(σ:St)(H:Hp)(x y:V)(v u:Value)(Q:VK),Inv X pins σ H s->RelV x v->RelV y u->r x y H Q ->
  subscripted slice false v u=operate [v,u] (getItem v u)->wpAny (model X.prog X.w) X.A (subscriptTail value slice v u) (EP X pins σ Q) X.xe s
noncomputable def MtR(X:Cx)(id:String)(r:V->List V->Hp->VK->Prop):Prop:=
 ∀(pins:List (Addr×Obj))(s:Shared)(σ:St)(H:Hp)(x:V)(xs:List V)(v:Value)(us:List Value)(Q:VK),Inv X pins σ H s->RelV x v->Vals xs us->r x xs H Q ->
  wpAny (model X.prog X.w) X.A (call (.builtin id) (v::us)) (EP X pins σ Q) X.xe s
section
variable {X:Cx}{a b:Expr}{ta tb:TE}{pos:Pos}
theorem cU{r:R2}(hr:IxR X r)(ha:PE X a ta)(hb:PE X b tb)(hs:JO b):PE X (.Subscript a b pos) (tOp r ta tb):=by intro pins s σ H Q I h;exact Subscript_ (LP ha hb I h fun v u s2 x y H2 I2 rx ry q=>hr a b pins s2 σ H2 x y v u Q I2 rx ry q (hs _ _))
noncomputable def R7(K:W.Frag):R2:=fun x y H Q=>∃p xs i v,x=.ref p/\y=.int i/\SqL K H p xs/\atI xs i=some v/\Q v H
noncomputable def R6(K:W.Frag):R2:=fun x y H Q=>∃p xs i v,x=.ref p/\y=.int i/\SqT K H p xs/\atI xs i=some v/\Q v H
theorem nJ:IxR X (R7 X.K):=by
 intro value slice pins s σ H x y v u Q I rx ry h hs;obtain⟨p,xs,i,z,rfl,rfl,hq,he,q⟩:=h;cases rx;obtain⟨t,rfl⟩:=ry;obtain⟨its,r,pl,hz⟩:=I.list hq;obtain⟨j,h1,h2,h3,h4,h5⟩:=CF he;obtain⟨w,ew,rw'⟩:=r.get h2;have hl:=r.length;have hn:=m9;have fin:EP X pins σ Q w s:=⟨z,H,I,rw',q⟩;by_cases h0:0<=i
 ·have hj:i.toNat=j:=by rw[seqIndex_of h0 h5]at h1;exact Option.some.inj h1
  exact item_listR pl.isList h0 (by omega) (by rw[hj];simpa using ew) fin hs
 ·have hj:(i+(its.toArray.size:Int)).toNat=j:=by rw[seqIndex_neg (by omega) h4]at h1;rw[List.size_toArray,<- hl];exact Option.some.inj h1
  exact subscriptTail_builtinR (x:=w) pl.isList.typeIs slot_list_getitem.lookup
   (wpAny_getItem_list_neg (Q:=fun r s'=>r=w/\EP X pins σ Q r s') pl.isList (by omega) (by rw[List.size_toArray]<;>omega) (by omega) (by rw[hj];simpa using ew) ⟨rfl,fin⟩) hs
theorem cN:IxR X (R6 X.K):=by
 intro value slice pins s σ H x y v u Q I rx ry h hs;obtain⟨p,xs,i,z,rfl,rfl,hq,he,q⟩:=h;cases rx;obtain⟨t,rfl⟩:=ry;obtain⟨its,r,pl,hz⟩:=I.tuple hq;obtain⟨j,h1,h2,h3,h4,h5⟩:=CF he;obtain⟨w,ew,rw'⟩:=r.get h2;have hl:=r.length;have hn:=m9;have fin:EP X pins σ Q w s:=⟨z,H,I,rw',q⟩;exact subscriptTail_builtinR (x:=w) pl.typeIs slot_tuple_getitem.lookup
  (getItem_tuple (j:=j) (Q:=fun r s'=>r=w/\EP X pins σ Q r s') pl (by omega) (by omega) (by rw[List.size_toArray,<- hl];exact h1) (by simpa using ew) ⟨rfl,fin⟩) hs
theorem AE(its:List Value)(n j:Nat)(u:Value):Obj.mapSeq (·.setIfInBounds j u) {cls:=.type "list",data:=.seq its.toArray n}={cls:=.type "list",data:=.seq (its.set j u).toArray n}:=by simp[Obj.mapSeq]
theorem Inv.lst{pins:List (Addr×Obj)}{σ:St}{H:Hp}{s:Shared}{p:Addr}{xs:List V}(I:Inv X pins σ H s)(h:H p=some (.lst xs)):
  ∃(its:List Value)(n:Nat),Vals xs its/\s.heap.get? p=some {cls:=.type "list",data:=.seq its.toArray n}/\xs.length<=sizeLine:=by
 obtain⟨z,its,n,r,e⟩:=I.hok p _ h;exact⟨its,n,r,e,z⟩
theorem Inv.KU{pins:List (Addr×Obj)}{σ:St}{H:Hp}{s:Shared}{p:Addr}{xs ys:List V}{its its':List Value}{n n':Nat}{f:Obj->Obj}(I:Inv X pins σ H s)(h:H p=some (.lst xs))
  (ho:s.heap.get? p=some {cls:=.type "list",data:=.seq its.toArray n}) (hf:f {cls:=.type "list",data:=.seq its.toArray n}={cls:=.type "list",data:=.seq its'.toArray n'}) (r:Vals ys its') (hz:ys.length<=sizeLine) (t:Nat):
  Inv X pins σ (upd H p (.lst ys)) {s with heap:=s.heap.update p f,toks:=t}:=by
 have e:(s.heap.update p f).get? p=some {cls:=.type "list",data:=.seq its'.toArray n'}:=by rw[Heap.get?_update_self f ho (by rw[hf]<;>rfl),hf]
 refine I.write (x:=p) (e:=p) (by rw[h];trivial) (.inl rfl) (fun b u hb q=>(Heap.get?_update_other _ _ (Ne.symm hb)).trans q) ⟨_,e⟩ ?_;exact⟨hz,its',n',r,e⟩
noncomputable def MI:V->V->V->Hp->(Hp->Prop)->Prop:=fun o i v H Q=>∃p xs k j,o=.ref p/\i=.int k/\H p=some (.lst xs)/\ixN xs.length k=some j/\Q (upd H p (.lst (xs.set j v)))
theorem set_list:QI X MI:=by
 intro pins s σ H o i v ov iv u Q I ro ri rv h;obtain⟨p,xs,k,j,rfl,rfl,hp,hj,q⟩:=h;cases ro;obtain⟨t,rfl⟩:=ri;obtain⟨its,n,r,ho,hz⟩:=I.lst hp;obtain⟨h1,h2,h3,h4⟩:=BX hj;have hl:=r.length;have hn:=m9;have I':Inv X pins σ (upd H p (.lst (xs.set j v))) {s with heap:=s.heap.update p (Obj.mapSeq (·.setIfInBounds j u))}:=
  I.KU hp ho (AE its n j u) (r.set rv j) (by rw[List.length_set];exact hz) s.toks
 by_cases h0:0<=k
 ·have hk:k.toNat=j:=by rw[seqIndex_of h0 h4]at h1;exact Option.some.inj h1
  exact W.ki_setAt ho h0 (by omega) (by rw[List.size_toArray,<- hl];exact h4) (by rw[hk];exact⟨_,I',q⟩)
 ·have hk:(k+(its.toArray.size:Int)).toNat=j:=by rw[seqIndex_neg (by omega) h3]at h1;rw[List.size_toArray,<- hl];exact Option.some.inj h1
  exact W.ki_setBack ho (by omega) (by rw[List.size_toArray,<- hl];exact h3) (by omega) (by rw[hk];exact⟨_,I',q⟩)
theorem vN(lo hi:Option Int)(n:Nat):(sliceBounds lo hi none n).1=((HT.sIx n 0 lo:Nat):Int)/\(sliceBounds lo hi none n).2.1=((HT.sIx n n hi:Nat):Int)/\(sliceBounds lo hi none n).2.2=1:=by
 refine⟨?_,?_,rfl⟩
 ·cases lo with
  |none=>simp[sliceBounds,HT.sIx]
  |some i=>
   simp only[sliceBounds,HT.sIx,Option.getD_none,show(1:Int)>0 by decide,if_true];by_cases h:i<0
   ·simp only[h,if_true]<;>omega
   ·simp only[h,if_false]<;>omega
 ·cases hi with
  |none=>simp[sliceBounds,HT.sIx]
  |some i=>
   simp only[sliceBounds,HT.sIx,Option.getD_none,show(1:Int)>0 by decide,if_true];by_cases h:i<0
   ·simp only[h,if_true]<;>omega
   ·simp only[h,if_false]<;>omega
theorem tL(its:List Value)(lo hi:Option Int):slicePick its.toArray lo hi none=((its.drop (HT.sIx its.length 0 lo)).take (HT.sIx its.length its.length hi - HT.sIx its.length 0 lo)).toArray:=by obtain⟨h1,h2,h3⟩:=vN lo hi its.toArray.size;unfold slicePick;rw[h1,h2,h3];simp only[sliceRange_one,pick_run,List.size_toArray]<;>rfl
noncomputable def R0(K:W.Frag):V->Option Int->Option Int->Hp->VK->Prop:=fun x lo hi H Q=>∃a xs,x=.ref a/\SqL K H a xs/\∀p,H p=none->Q (.ref p) (upd H p (.lst (E8 xs lo hi)))
theorem HU:SlR X (R0 X.K):=by intro pins s σ H x v vl vu lo hi sl Q I rx hs pl pu h;obtain⟨a,xs,rfl,hx,q⟩:=h;cases rx;obtain⟨its,r,ht,hz⟩:=I.list hx;have hlen:=r.length;refine⟨"list",_,slot_list_getitem.lookup,ht.isList.typeIs,?_⟩;refine wpAny_getItem_list_slice ht.isList hs pl pu .none (by simp) ?_ (by rw[List.size_toArray]<;>omega);rw[tL,<- hlen];refine⟨.ref s.heap.objs.size,_,I.laid (t':=s.toks) (o:=.lst (E8 xs lo hi)) (fun b ob q=>Heap.get?_push_of_some _ q) (Nat.le_refl _) ?_,rfl,q _ (I.hok.fresh (Nat.le_refl _))⟩;exact⟨Nat.le_trans (z6 xs lo hi) hz,_,0,(r.drop (HT.sIx xs.length 0 lo)).take (HT.sIx xs.length xs.length hi - HT.sIx xs.length 0 lo),Heap.get?_push_size _ rfl⟩
theorem cM:jM X (.builtin "len") (fun xs H Q=>∃p ys,xs=[.ref p]/\(SqL X.K H p ys\/SqT X.K H p ys)/\Q (.int ys.length) H):=by
 intro pins s σ H xs us Q I r h;obtain⟨p,ys,rfl,hq,q⟩:=h;obtain⟨u,rfl,rx⟩:=vals1 r;cases rx;have hn:=m9;rcases hq with hq|hq
 ·obtain⟨its,r',pl,hz⟩:=I.list hq;have hlen:=r'.length;exact Calls.call_len_list pl.isList (by simp only[List.size_toArray]<;>omega) ⟨.int ys.length,H,I.tok _,⟨s.toks+1,by rw[List.size_toArray,hlen]⟩,q⟩
 ·obtain⟨its,r',pl,hz⟩:=I.tuple hq;have hlen:=r'.length;exact len_tuple pl (by simp only[List.size_toArray]<;>omega) ⟨.int ys.length,H,I.tok _,⟨s.toks+1,by rw[List.size_toArray,hlen]⟩,q⟩
noncomputable def tyV(K:W.Frag)(T:String)(x:V)(H:Hp):Prop:=match x with
 | .str _=>T= "str"
 | .int _=>T= "int"
 | .ref p=>(T= "list" /\∃xs,SqL K H p xs)\/(T= "tuple" /\∃o,K.lookup p=some o/\o.cls=.type "tuple" /\o.dict=none)\/
   (T= "dict" /\((∃kvs,H p=some (.dK kvs))\/∃kvs,H p=some (.dT kvs)))\/(T= "set" /\∃S n,H p=some (.set S n))
 |_=>False
theorem ET{pins:List (Addr×Obj)}{σ:St}{H:Hp}{s:Shared}{T:String}{x:V}{v:Value}(I:Inv X pins σ H s)(r:RelV x v)(ty:tyV X.K T x H):
  s.TypeIs v T/\∀a,v=.ref a->∃ob,s.heap.get? a=some ob/\ob.dict=none:=by
 cases x with
 |str z=>obtain⟨t,rfl⟩:=r;cases (show T= "str" from ty);exact⟨typeIs_str s z t,fun _ e=>nomatch e⟩
 |int i=>obtain⟨t,rfl⟩:=r;cases (show T= "int" from ty);exact⟨typeIs_int s i t,fun _ e=>nomatch e⟩
 |ref p=>
  cases r;rcases ty with⟨rfl,xs,hq⟩|⟨rfl,o,hk,hc,hd⟩|⟨rfl,hk⟩|⟨rfl,S,n,hk⟩
  ·obtain⟨its,_,pl,_⟩:=I.list hq;refine⟨pl.isList.typeIs,fun a e=>?_⟩;cases e;obtain⟨o,n,e,c,hd,_⟩:=pl;exact⟨o,e,hd⟩
  ·refine⟨⟨o,I.kIn p o hk,hc⟩,fun a e=>?_⟩;cases e;exact⟨o,I.kIn _ o hk,hd⟩
  ·have z:∃o,s.heap.get? p=some o/\o.ExactDict:=by
    rcases hk with⟨kvs,hk⟩|⟨kvs,hk⟩
    ·obtain⟨_,_,_,_,o,_,_,e,ex,_⟩:=I.hok p _ hk;exact⟨o,e,ex⟩
    ·obtain⟨_,_,_,_,o,_,_,e,ex,_⟩:=I.hok p _ hk;exact⟨o,e,ex⟩
   obtain⟨o,e,ex⟩:=z;refine⟨⟨o,e,ex.1⟩,fun a e2=>?_⟩;cases e2;exact⟨o,e,ex.2.1⟩
  ·obtain⟨o,_,_,_,e,ex,_⟩:=I.hok p _ hk;refine⟨⟨o,e,ex.1⟩,fun a e2=>?_⟩;cases e2;exact⟨o,e,ex.2.1⟩
 |_=>exact False.elim ty
noncomputable def QU(K:W.Frag)(T:String)(r:V->List V->Hp->VK->Prop)(to:TE):TE:=fun σ H Q=>to σ H fun x H1=>tyV K T x H1/\r x [] H1 Q
noncomputable def tBM(K:W.Frag)(T:String)(r:V->List V->Hp->VK->Prop)(to:TE)(t:TA):TE:=fun σ H Q=>to σ H fun x H1=>tyV K T x H1/\t σ H1 fun xs H2=>r x xs H2 Q
variable {o e:Expr}{es:List Expr}{to:TE}{t:TA}{name:Str}{apos cpos:Pos}{T id:String}{r:V->List V->Hp->VK->Prop}
theorem zX(pa:PlainAttrs T)(slot:Slot T name id)(hty:typeOf (.builtin id)=pure (.type "method_descriptor"))(hm:MtR X id r)(ho:PE X o to)
  (hbase:attributeBase o name X.env (eval o X.env)=eval o X.env:=by rfl) (hline:(apos.endLine==cpos.line)=true:=by rfl):PE X (.Call (.Attribute o name apos) [] [] cpos) (QU X.K T r to):=by
 intro pins s σ H Q I h;refine wpAny_Call_method0_late hbase hline (thn (ho pins s σ H _ I h) fun v s1 ⟨x,H1,I1,r1,ty,q1⟩=>?_);obtain⟨h1,h2⟩:=ET I1 r1 ty;exact⟨T,id,pa,slot,hty,h1,h2,Calls.callWith_builtin rfl (PySem.evalArgs_none (hm pins s1 σ H1 x [] v [] Q I1 r1 .nil q1))⟩
theorem iJ(pa:PlainAttrs T)(slot:Slot T name id)(hty:typeOf (.builtin id)=pure (.type "method_descriptor"))(hm:MtR X id r)(ho:PE X o to)(ha:PA X (e::es) t)
  (hbase:attributeBase o name X.env (eval o X.env)=eval o X.env:=by rfl)
  (hfew:((backTo cpos (starEach (e::es) X.env)).all (fun x=>!x.1)&& (backToKw cpos (keywordEach [] X.env)).all (fun x=>x.1.isSome)
   && decide ((e::es).length+([]:List Keyword).length+(if([]:List Keyword).isEmpty then 0 else 1)<30))=true:=by rfl)
  (hline:(apos.endLine==cpos.line)=true:=by rfl) (hs:starEach (e::es) X.env=(false,eval e X.env)::starEach es X.env:=by rfl) (hplain:(backTo cpos (starEach es X.env)).any (·.1)=false:=by rfl):
  PE X (.Call (.Attribute o name apos) (e::es) [] cpos) (tBM X.K T r to t):=by
 intro pins s σ H Q I h;refine wpAny_Call_method_late hbase hfew hline rfl (thn (ho pins s σ H _ I h) fun v s1 ⟨x,H1,I1,r1,ty,q1⟩=>?_);obtain⟨h1,h2⟩:=ET I1 r1 ty;refine⟨T,id,pa,slot,hty,h1,h2,?_⟩;have hA:=ha cpos pins s1 σ H1 _ I1 q1;rw[hs]at hA ⊢;refine Calls.callWith_builtin (by show(false||(backTo cpos (starEach es X.env)).any (·.1))=false;rw[hplain]<;>rfl) (Calls.evalArgs_plain ?_);exact thn hA fun us s2 ⟨vs,H2,I2,r2,q2⟩=>hm pins s2 σ H2 x vs v us Q I2 r1 r2 q2
end
end L2
namespace L2
open PySem PySem.Spec PyProof.Rows
noncomputable def MtM(X:Cx)(id:String)(r:V->List V->Hp->VK->Prop):Prop:=
 ∀(pins:List (Addr×Obj))(s:Shared)(σ:St)(H:Hp)(x:V)(xs:List V)(v:Value)(us:List Value)(Q:VK),Inv X pins σ H s->RelV x v->Vals xs us->r x xs H Q ->
  wpAny (model X.prog X.w) X.A (call (.builtin id) (v::us)) (EP X pins σ Q) X.xe s
theorem Vals.one:∀{x:V}{us:List Value},Vals [x] us->∃u,us=[u]/\RelV x u
 |_,_,.cons r .nil=>⟨_,rfl,r⟩
theorem Vals.zero:∀{us:List Value},Vals [] us->us=[]
 |_,.nil=>rfl
theorem Vals.dropLast{xs:List V}{us:List Value}(h:Vals xs us):Vals xs.dropLast us.dropLast:=by
 induction h with
 |nil=>exact .nil
 |cons r t ih=>
  cases t with
  |nil=>exact .nil
  |cons q t'=>exact .cons r ih
theorem B3{α:Type}(l:List α):l.eraseIdx (l.length - 1)=l.dropLast:=by
 induction l with
 |nil=>rfl
 |cons a r ih=>
  cases r with
  |nil=>rfl
  |cons b r=>
   have e:(a::b::r).length - 1=((b::r).length - 1)+1:=by have h1:(a::b::r).length=r.length+2:=rfl;have h2:(b::r).length=r.length+1:=rfl;omega
   rw[e,List.eraseIdx_cons_succ,ih];all_goals rfl
section
variable {X:Cx}{pins:List (Addr×Obj)}{σ:St}{H:Hp}{s:Shared}{l b:Addr}{xs ys zs:List V}
theorem Inv.DE{its its':List Value}{n:Nat}{f:Array Value->Array Value}{t':Nat}(I:Inv X pins σ H s)(hH:H l=some (.lst xs))
  (e:s.heap.get? l=some {cls:=.type "list",data:=.seq its.toArray n}) (hf:f its.toArray=its'.toArray) (hv:Vals ys its') (hz:ys.length<=sizeLine):
  Inv X pins σ (upd H l (.lst ys)) {s with heap:=s.heap.update l (Obj.mapSeq f),toks:=t'}:=by
 have q:=PySem.IsL.update e f;rw[hf]at q;refine I.write (x:=l) (e:=l) (by rw[hH];exact trivial) (.inl rfl) (fun b' u hb hu=>(Heap.get?_update_other s.heap (Obj.mapSeq f) (Ne.symm hb)).trans hu) ⟨_,q⟩ ?_;exact⟨hz,its',_,hv,q⟩
theorem Inv.Q2{its:List Value}{t':Nat}(I:Inv X pins σ H s)(hv:Vals ys its)(hz:ys.length<=sizeLine):
  Inv X pins σ (upd H s.heap.objs.size (.lst ys)) {s with heap:=s.heap.push {cls:=.type "list",data:=.seq its.toArray},toks:=t'}:=
 I.laid (fun _ _ q=>Heap.get?_push_of_some _ q) (Nat.le_refl _) ⟨hz,its,0,hv,Heap.get?_push_size _ rfl⟩
theorem Inv.fresh(I:Inv X pins σ H s):H s.heap.objs.size=none:=I.hok.fresh (Nat.le_refl _)
theorem Inv.DD(I:Inv X pins σ H s)(hH:H l=some (.lst xs)):xs.length<=sizeLine/\∃(its:List Value)(n:Nat),Vals xs its/\xs.length=its.length/\s.heap.get? l=some {cls:=.type "list",data:=.seq its.toArray n}:=by obtain⟨z,its,n,r,e⟩:=I.hok l _ hH;exact⟨z,its,n,r,r.length,e⟩
end
section
variable {X:Cx}
noncomputable def HX:V->List V->Hp->VK->Prop:=fun x vs H Q=>∃l xs y,x=.ref l/\vs=[y]/\H l=some (.lst xs)/\xs.length<sizeLine/\Q .non (upd H l (.lst (xs++[y])))
theorem cI:MtM X "list.append" HX:=by intro pins s σ H x vs v us Q I rx rv h;obtain⟨l,xs,y,rfl,rfl,hH,hz,q⟩:=h;cases rx;obtain⟨u,rfl,ru⟩:=rv.one;obtain⟨z,its,n,r,hl,e⟩:=I.DD hH;refine call_meets F.slot_list_append ⟨_,e,rfl⟩ F.entry_list_append (F.args_list_append_2 _ _) (PySem.list_append l its.toArray n u (by rw[List.size_toArray];omega)) ⟨e,?_⟩;refine⟨.non,_,I.DE (its':=its++[u]) hH e (by simp) (r.append (.cons ru .nil)) ?_,rfl,q⟩;rw[List.length_append,List.length_singleton];omega
noncomputable def R1:V->List V->Hp->VK->Prop:=fun x vs H Q=>∃l xs y,x=.ref l/\vs=[]/\H l=some (.lst xs)/\xs[xs.length - 1]? =some y/\Q y (upd H l (.lst xs.dropLast))
theorem A9:MtM X "list.pop" R1:=by
 intro pins s σ H x vs v us Q I rx rv h;obtain⟨l,xs,y,rfl,rfl,hH,hy,q⟩:=h;cases rx;have hus:=rv.zero;subst hus;obtain⟨z,its,n,r,hl,e⟩:=I.DD hH;obtain⟨u,hu,ru⟩:=r.get hy;have hy':its.toArray[its.toArray.size - 1]? =some u:=by
  show its.toArray[its.length - 1]? =some u
  rw[<- Array.getElem?_toList,<- hl];exact hu
 refine call_meets F.slot_list_pop ⟨_,e,rfl⟩ F.entry_list_pop (F.args_list_pop_1 _) (MeetsSeq.list_pop_last l its.toArray n u hy' (by rw[List.size_toArray];omega)) ⟨e,?_⟩;refine⟨y,_,I.DE (its':=its.dropLast) hH e ?_ r.dropLast ?_,ru,q⟩
 ·show its.toArray.eraseIdxIfInBounds (its.toArray.size - 1)=its.dropLast.toArray
  rw[List.size_toArray,List.eraseIdxIfInBounds_toArray,B3]
 ·rw[List.length_dropLast];omega
end
end L2
namespace L2
open PySem PySem.Spec PyProof.Rows
theorem Vals.ints:∀{ns:List Int}{us:List Value},Vals (ns.map V.int) us->IntsAre us ns
 |[],us,h=>by rw[List.map_nil]at h;cases h;exact IntsAre.nil
 |n::ns,us,h=>by
  rw[List.map_cons]at h;cases h with
  |cons r t=>obtain⟨k,rfl⟩:=r;exact IntsAre.cons n k (Vals.ints t)
theorem Vals.bls:∀{bs:List Bool}{us:List Value},Vals (bs.map V.bl) us->us=bs.map Value.bool
 |[],us,h=>by rw[List.map_nil]at h;cases h;rfl
 |b::bs,us,h=>by
  rw[List.map_cons]at h;cases h with
  |cons r t=>cases r;rw[Vals.bls t,List.map_cons]
theorem Vals.F9{a:Addr}{us:List Value}(r:Vals [V.ref a] us):us=[Value.ref a]:=by
 cases r with
 |cons r t=>cases t;cases r;rfl
section
variable {prog:Program}{w:World}{A:Around}{E:Value->Shared->Prop}{s:Shared}{l:Addr}{its:List Value}{ns:List Int}{Q:Value->Shared->Prop}
theorem IQ(hh:A.handled=none)(hl:s.heap.IsList l its.toArray)(hi:IntsAre its ns)(hne:0<ns.length)
  (h:∀h' tk M t',(∀b o,s.heap.get? b=some o->h'.get? b=some o)->M∈ns->(∀a,a∈ns->M<=a)->Q (.int M t') {s with heap:=h',toks:=tk}):wpAny (model prog w) A (call (.builtin "min") [.ref l]) Q E s:=by
 obtain⟨xs,e⟩:=hi.allInts.items;have hn:numsOf (intItems xs).toList=ns:=by rw[<- e];exact hi.numsOf
 rw[nums_intItems]at hn;subst hn;rw[e]at hl;have hsz:0<xs.size:=by simpa using hne
 refine PySem.min_intList hh hl hsz fun v h' tk hv hk=>?_
 obtain⟨t,rfl⟩:=intItems_at hv;obtain⟨h1,h2⟩:=argBest_lt (numAt xs) (xs.size - 1);refine h h' tk _ t hk ?_ fun a ha=>?_
 ·rw[numAt_eq];exact PySem.getD_mem (by rw[List.length_map,Array.length_toList];omega)
 ·obtain⟨j,hj,rfl⟩:=mem_getD ha;rw[List.length_map,Array.length_toList]at hj;rw[<- numAt_eq];exact h2 j (by omega)
end
section
variable {X:Cx}
noncomputable def R5(K:W.Frag):List V->Hp->VK->Prop:=fun vs H Q=>∃(a:Addr)(ns:List Int),vs=[V.ref a]/\SqL K H a (ns.map V.int)/\0<ns.length/\∀m,m∈ns->(∀y,y∈ns->m<=y)->Q (.int m) H
theorem LL(hc:X.calm=true):jM X (.builtin "min") (R5 X.K):=by intro pins s σ H vs us Q I r h;obtain⟨a,ns,rfl,hs,hne,q⟩:=h;obtain⟨its,rv,hl,_⟩:=I.list hs;rw[Vals.F9 r];exact IQ (I.ok.hd hc) hl.isList rv.ints hne fun h' tk m t' hk h1 h2=>⟨.int _,H,I.kept hk,⟨_,rfl⟩,q m h1 h2⟩
end
theorem yB{prog:Program}{w:World}{A:Around}{E:Value->Shared->Prop}{s:Shared}{l:Addr}{items:Array Value}{Q:Value->Shared->Prop}(hl:s.heap.IsList l items)
  (h:∀s₂:Shared,s₂={s with heap:=s.heap.push {cls:=.type "list_iterator",data:=.fields #[.ref l,.int 0 0]}} ->
   (s₂.heap.IsListIter s.heap.objs.size l 0/\s₂.heap.IsList l items)->l≠s.heap.objs.size->Q (.ref s.heap.objs.size) s₂):wpAny (model prog w) A (pyIter (.ref l)) Q E s:=by
 have hlt:l<s.heap.objs.size:=by obtain⟨_,e,_⟩:=hl;exact Heap.lt_size e
 exact wpAny_pyIter_list hl (h _ rfl ⟨⟨_,Heap.get?_push_size _ rfl,rfl,rfl⟩,hl.push _⟩ (Nat.ne_of_lt hlt))
theorem pT{prog:Program}{w:World}{A:Around}{bs:List Bool}{its:List Value}(e:its=bs.map Value.bool):
  TruthOf prog w A (fun i v=>its.toArray[i]? =some v) (fun i=>bs.getD i false):=fun i v s Q E hv hq=>by
 have hv':its[i]? =some v:=by simpa using hv
 rw[e,List.getElem?_map]at hv';obtain⟨b,hb,rfl⟩:=Option.map_eq_some_iff.mp hv';have hg:bs.getD i false=b:=by rw[List.getD_eq_getElem?_getD,hb]<;>rfl
 have hq':Q (bs.getD i false) s:=hq;rw[hg]at hq';exact wpAny_truthy_bool hq'
theorem any_range:∀bs:List Bool,(List.range bs.length).any (fun i=>bs.getD i false)=bs.any id
 |[]=>rfl
 |b::bs=>by rw[List.length_cons,List.range_succ_eq_map,List.any_cons,List.any_map,List.any_cons,<- any_range bs];all_goals rfl
theorem all_range:∀bs:List Bool,(List.range bs.length).all (fun i=>bs.getD i false)=bs.all id
 |[]=>rfl
 |b::bs=>by rw[List.length_cons,List.range_succ_eq_map,List.all_cons,List.all_map,List.all_cons,<- all_range bs];all_goals rfl
section
variable {X:Cx}
noncomputable def R8(K:W.Frag):List V->Hp->VK->Prop:=fun vs H Q=>∃(a:Addr)(bs:List Bool),vs=[V.ref a]/\SqL K H a (bs.map V.bl)/\Q (.bl (bs.any id)) H
noncomputable def R9(K:W.Frag):List V->Hp->VK->Prop:=fun vs H Q=>∃(a:Addr)(bs:List Bool),vs=[V.ref a]/\SqL K H a (bs.map V.bl)/\Q (.bl (bs.all id)) H
theorem LM(hc:X.calm=true):jM X (.builtin "any") (R8 X.K):=by
 intro pins s σ H vs us Q I r h;obtain⟨a,bs,rfl,hs,q⟩:=h;obtain⟨its,rv,hl,_⟩:=I.list hs;rw[Vals.F9 r];have hb:=rv.bls;refine call_any_walk (yB hl.isList fun s₂ e2 st hne=>?_);subst e2;refine⟨_,_,_,_,_,_,_,rfl,Walks.list (A:=X.A.in1) (I.ok.hd hc) _ a hne its.toArray,st,pT hb,fun h' tk hk=>?_⟩;refine⟨.bl _,H,I.kept fun b o eo=>hk b o (fun hmem=>?_) (Heap.get?_push_of_some _ eo),?_,q⟩
 ·rcases List.mem_cons.mp hmem with e1|hmem
  ·exact absurd (e1▸Heap.lt_size eo) (Nat.lt_irrefl _)
  ·cases hmem
 ·show Value.bool _=Value.bool _
  rw[<- any_range,hb,List.size_toArray,List.length_map]
theorem LN(hc:X.calm=true):jM X (.builtin "all") (R9 X.K):=by
 intro pins s σ H vs us Q I r h;obtain⟨a,bs,rfl,hs,q⟩:=h;obtain⟨its,rv,hl,_⟩:=I.list hs;rw[Vals.F9 r];have hb:=rv.bls;refine call_all_walk (yB hl.isList fun s₂ e2 st hne=>?_);subst e2;refine⟨_,_,_,_,_,_,_,rfl,Walks.list (A:=X.A.in1) (I.ok.hd hc) _ a hne its.toArray,st,pT hb,fun h' tk hk=>?_⟩;refine⟨.bl _,H,I.kept fun b o eo=>hk b o (fun hmem=>?_) (Heap.get?_push_of_some _ eo),?_,q⟩
 ·rcases List.mem_cons.mp hmem with e1|hmem
  ·exact absurd (e1▸Heap.lt_size eo) (Nat.lt_irrefl _)
  ·cases hmem
 ·show Value.bool _=Value.bool _
  rw[<- all_range,hb,List.size_toArray,List.length_map]
end
mutual
inductive Dp (K:W.Frag) (H:Hp):V->PyData->Prop
 |non:Dp K H .non .none
 |bl (b:Bool):Dp K H (.bl b) (.bool b)
 |int (i:Int):Dp K H (.int i) (.int i)
 |str (x:Str):Dp K H (.str x) (.str x)
 |lst {a:Addr}{xs:List V}{ds:List PyData}:SqL K H a xs->tD K H xs ds->Dp K H (.ref a) (.list ds)
 |tup {a:Addr}{xs:List V}{ds:List PyData}:SqT K H a xs->tD K H xs ds->Dp K H (.ref a) (.tuple ds)
inductive tD (K:W.Frag) (H:Hp):List V->List PyData->Prop
 |nil:tD K H [] []
 |cons {v:V}{vs:List V}{d:PyData}{ds:List PyData}:Dp K H v d->tD K H vs ds->tD K H (v::vs) (d::ds)
end
section
variable {X:Cx}{pins:List (Addr×Obj)}{σ:St}{H:Hp}{s:Shared}
mutual
theorem Dp.reads(I:Inv X pins σ H s):∀(d:PyData)(v:V)(u:Value),Dp X.K H v d->RelV v u->∃as,Reads s.heap u d as
 | .none,_,_,h,r=>by cases h;cases r;exact⟨_,Reads.none⟩
 | .bool b,_,_,h,r=>by cases h;cases r;exact⟨_,Reads.bool b⟩
 | .int i,_,_,h,r=>by cases h;obtain⟨t,rfl⟩:=r;exact⟨_,Reads.int i t⟩
 | .str x,_,_,h,r=>by cases h;obtain⟨t,rfl⟩:=r;exact⟨_,Reads.str x t⟩
 | .list ds,_,_,h,r=>by
  cases h with
  |lst hs ha=>cases r;obtain⟨its,rv,⟨o,n,ho,hc,_,hd⟩,_⟩:=I.list hs;obtain⟨as,hr⟩:=Dp.readsAll I ds _ its ha rv;exact⟨_,Reads.list ho hc hd hr⟩
 | .tuple ds,_,_,h,r=>by
  cases h with
  |tup hs ha=>cases r;obtain⟨its,rv,⟨o,ho,hc,n,hd⟩,_⟩:=I.tuple hs;obtain⟨as,hr⟩:=Dp.readsAll I ds _ its ha rv;exact⟨_,Reads.tuple ho hc hd hr⟩
 | .dict _,_,_,h,_=>by cases h
theorem Dp.readsAll(I:Inv X pins σ H s):∀(ds:List PyData)(vs:List V)(us:List Value),tD X.K H vs ds->Vals vs us->∃as,ReadsAll s.heap us ds as
 |[],_,_,h,r=>by cases h;cases r;exact⟨_,ReadsAll.nil⟩
 |d::ds,_,_,h,r=>by
  cases h with
  |cons h1 h2=>
   cases r with
   |cons r1 r2=>obtain⟨as,q1⟩:=Dp.reads I d _ _ h1 r1;obtain⟨bs,q2⟩:=Dp.readsAll I ds _ _ h2 r2;exact⟨_,ReadsAll.cons q1 q2⟩
end
end
section
variable {X:Cx}
noncomputable def R4(K:W.Frag):R2:=fun x y H Q=>∃d e,Dp K H x d/\Dp K H y e/\SeqAt.shaped d=true/\SeqAt.shaped e=true/\Q (.bl (!PyData.eqv d e)) H
theorem KP(hu:X.A.units+64<cLine):OpR X (compareOp .NotEq) (R4 X.K):=by intro pins s σ H x y v u Q I rx ry h;obtain⟨d,e,hd,he,sd,se,q⟩:=h;obtain⟨as,r1⟩:=Dp.reads I d x v hd rx;obtain⟨bs,r2⟩:=Dp.reads I e y u he ry;exact SeqAt.compareNe_shaped r1 r2 sd se hu ⟨.bl _,H,I,rfl,q⟩
end
end L2
namespace L2
open PySem PySem.Spec PyProof.Rows
abbrev HG(h:Heap)(c:Addr)(v:Option Value):Prop:=h.IsCell c v
noncomputable def QZ(scope sc:Scope):Scope:=
 {scope with names:=scope.names.map fun(n,k)=>if(k== .free&& sc.kind== .function&& sc.names.lookup n==some .cell)then(n,.cell)else(n,k)}
noncomputable def bF(cells:List (Str×Addr)):List (Str×NameKind)->List (Str×Addr)->List (Str×Addr)
 |[],acc=>acc
 |(n,k)::r,acc=>if k== .free then bF cells r ((n,(cells.lookup n).getD 0)::acc)else bF cells r acc
theorem nY(env:Env)(f:Str×NameKind->List (Str×Addr)->Sem (ForInStep (List (Str×Addr))))
  (hf:∀n k c,f (n,k) c=if k== .free then(do let a<- cellOf env n;pure (.yield ((n,a)::c)))else pure (.yield c)):
  ∀(names:List (Str×NameKind))(acc:List (Str×Addr)),(∀y∈names,y.2=.free->∃c,env.cells.lookup y.1=some c)->forIn names acc f=pure (bF env.cells names acc)
 |[],acc,_=>by rw[List.forIn_nil];rfl
 |(n,k)::r,acc,h=>by
  rw[List.forIn_cons,hf];have ih:=fun acc=>nY env f hf r acc fun y hy=>h y (List.mem_cons_of_mem _ hy)
  unfold bF;by_cases hk:(k==NameKind.free)=true
  ·rw[if_pos hk,if_pos hk];obtain⟨c,hc⟩:=h (n,k) List.mem_cons_self (by simpa using hk);have e:cellOf env n=pure c:=by unfold cellOf;rw[hc]
   rw[e];have e2:(env.cells.lookup n).getD 0=c:=by rw[hc];rfl
   rw[e2];exact ih _
  ·rw[if_neg hk,if_neg hk];exact ih _
theorem mI{scope:Scope}{env:Env}(h:∀y∈scope.names,y.2=.free->∃c,env.cells.lookup y.1=some c):closureFor scope env=pure (bF env.cells scope.names []):=by simp only[closureFor];rw[nY env _ (fun n k c=>rfl) scope.names [] h];rfl
theorem mem_lookup{α:Type}:∀{l:List (Str×α)}{n:Str}{c:α},(n,c)∈l->∃c',l.lookup n=some c'
 |(k,v)::r,n,c,h=>by
  rw[List.lookup_cons];cases hb:n==k with
  |true=>exact⟨_,rfl⟩
  |false=>
   rcases List.mem_cons.mp h with e|h
   ·cases e;simp at hb
   ·exact mem_lookup h
theorem fJ{cells:List (Str×Addr)}:∀{names:List (Str×NameKind)}{acc:List (Str×Addr)}{n:Str}{c:Addr},(n,c)∈bF cells names acc->(n,c)∈acc\/((n,.free)∈names/\c=(cells.lookup n).getD 0)
 |[],_,_,_,h=>.inl h
 |(m,k)::r,acc,n,c,h=>by
  unfold bF at h;split at h
  ·rename_i hk;have hk:k=.free:=by simpa using hk
   rcases fJ h with h|⟨h1,h2⟩
   ·rcases List.mem_cons.mp h with e|h
    ·cases e;exact .inr ⟨hk▸List.mem_cons_self,rfl⟩
    ·exact .inl h
   ·exact .inr ⟨List.mem_cons_of_mem _ h1,h2⟩
  ·rcases fJ h with h|⟨h1,h2⟩
   ·exact .inl h
   ·exact .inr ⟨List.mem_cons_of_mem _ h1,h2⟩
theorem kJ{cells:List (Str×Addr)}:∀{names:List (Str×NameKind)}{acc:List (Str×Addr)}{p:Str×Addr},p∈acc->p∈bF cells names acc
 |[],_,_,h=>h
 |(m,k)::r,acc,p,h=>by
  unfold bF;split
  ·exact kJ (List.mem_cons_of_mem _ h)
  ·exact kJ h
theorem gY{cells:List (Str×Addr)}:∀{names:List (Str×NameKind)}{acc:List (Str×Addr)}{n:Str},(n,.free)∈names->(n,(cells.lookup n).getD 0)∈bF cells names acc
 |(m,k)::r,acc,n,h=>by
  unfold bF;rcases List.mem_cons.mp h with e|h
  ·cases e;exact kJ List.mem_cons_self
  ·split
   ·exact gY h
   ·exact gY h
theorem iS:∀{names:List (Str×NameKind)}{h:Heap}{acc:List (Str×Addr)}{x:Str}{c:Addr},(x,c)∈cellsFrom h.objs.size names acc ->
  (x,c)∈acc\/((x,.cell)∈names/\h.objs.size<=c/\HG (pushCells h names) c none)
 |[],_,_,_,_,h=>.inl h
 |(n,k)::r,h,acc,x,c,hm=>by
  unfold cellsFrom at hm;unfold pushCells;split at hm
  ·rename_i hk;rw[if_pos hk];have hk:k=.cell:=by simpa using hk
   rw[<- Heap.size_push h {cls:=.type "cell",data:=.cell none}]at hm;rcases iS hm with hm|⟨h1,h2,h3⟩
   ·rcases List.mem_cons.mp hm with e|hm
    ·cases e;exact .inr ⟨hk▸List.mem_cons_self,Nat.le_refl _,_,pushCells_keeps r _ _ _ (Heap.get?_push_size _ rfl),rfl⟩
    ·exact .inl hm
   ·rw[Heap.size_push]at h2;exact .inr ⟨List.mem_cons_of_mem _ h1,Nat.le_of_succ_le h2,h3⟩
  ·rename_i hk;rw[if_neg hk];rcases iS hm with hm|⟨h1,h2,h3⟩
   ·exact .inl hm
   ·exact .inr ⟨List.mem_cons_of_mem _ h1,h2,h3⟩
theorem lI:∀{names:List (Str×NameKind)}{n:Nat}{acc:List (Str×Addr)}{p:Str×Addr},p∈acc->p∈cellsFrom n names acc
 |[],_,_,_,h=>h
 |(m,k)::r,n,acc,p,h=>by
  unfold cellsFrom;split
  ·exact lI (List.mem_cons_of_mem _ h)
  ·exact lI h
theorem pK:∀{names:List (Str×NameKind)}{n:Nat}{acc:List (Str×Addr)}{x:Str},(x,.cell)∈names->∃c,(x,c)∈cellsFrom n names acc
 |(m,k)::r,n,acc,x,h=>by
  unfold cellsFrom;rcases List.mem_cons.mp h with e|h
  ·cases e;exact⟨n,lI List.mem_cons_self⟩
  ·split
   ·exact pK h
   ·exact pK h
theorem pJ:∀{names:List (Str×NameKind)}{h:Heap}{acc:List (Str×Addr)}{x y:Str}{c:Addr},(∀p∈acc,p.2<h.objs.size)->(∀x y c,(x,c)∈acc->(y,c)∈acc->x=y) ->
  (x,c)∈cellsFrom h.objs.size names acc->(y,c)∈cellsFrom h.objs.size names acc->x=y
 |[],_,_,_,_,_,_,hi,h1,h2=>hi _ _ _ h1 h2
 |(n,k)::r,h,acc,x,y,c,hl,hi,h1,h2=>by
  unfold cellsFrom at h1 h2;split at h1
  ·rename_i hk;rw[if_pos hk]at h2;rw[<- Heap.size_push h {cls:=.type "cell",data:=.cell none}]at h1 h2;refine pJ (h:=h.push _) (fun p hp=>?_) (fun x y c a b=>?_) h1 h2
   ·rw[Heap.size_push];rcases List.mem_cons.mp hp with rfl|hp
    ·exact Nat.lt_succ_self _
    ·exact Nat.lt_succ_of_lt (hl p hp)
   ·rcases List.mem_cons.mp a with e|a<;>rcases List.mem_cons.mp b with e'|b
    ·cases e;cases e';rfl
    ·cases e;exact absurd (hl _ b) (Nat.lt_irrefl _)
    ·cases e';exact absurd (hl _ a) (Nat.lt_irrefl _)
    ·exact hi _ _ _ a b
  ·rename_i hk;rw[if_neg hk]at h2;exact pJ hl hi h1 h2
theorem qC{M:Model}{A:Around}{E:Value->Shared->Prop}{s:Shared}{scope:Scope}{globals:Addr}{closure:List (Str×Addr)}{qual:Str}{func:Option Addr}{code:Value}{around:Env}{builtins:Addr}{Q:Env->Shared->Prop}
  (h:Q (newEnv scope s.heap.objs.size globals (cellsFrom (s.heap.objs.size+1) scope.names closure) qual func code (some around) builtins)
   {s with heap:=pushCells (s.heap.push {cls:=.type "dict",data:=.dict #[]}) scope.names}):
  wpAny M A (newFunctionEnv scope globals closure [] qual func code (some around) builtins) Q E s:=by
 simp only[newFunctionEnv,Option.isSome_some,if_true];refine wpAny_bind (wpAny_alloc ?_);refine wpAny_bind (wpAny_layCells _ (fun n k c=>rfl) scope.names closure _ _ ?_);rw[show({s with heap:=s.heap.push {cls:=.type "dict",data:=.dict #[]}}:Shared).heap.objs.size=s.heap.objs.size+1 from Heap.size_push ..];rw[List.forIn_nil];exact wpAny_bind (wpAny_pure (wpAny_pure h))
theorem k6{sc:Scope}:∀{names:List (Str×NameKind)}{x:Str}{k:NameKind},
  (names.map fun(n,k)=>if(k==NameKind.free&& sc.kind== .function&& sc.names.lookup n==some .cell)then(n,NameKind.cell)else(n,k)).lookup x=some k ->
  ∃k',names.lookup x=some k'/\(k=k'\/(k'=.free/\k=.cell))
 |[],_,_,h=>by simp at h
 |(n,k₀)::r,x,k,h=>by
  have ih:=@k6 sc r x k;have h':List.lookup x ((if(k₀==NameKind.free&& sc.kind== .function&& sc.names.lookup n==some .cell)=true then(n,NameKind.cell)else(n,k₀))::(r.map _))=some k:=h;cases hx:x==n with
  |true=>
   simp only[List.lookup_cons,hx];by_cases hc:(k₀==NameKind.free&& sc.kind== .function&& sc.names.lookup n==some .cell)=true
   ·rw[if_pos hc]at h';simp only[List.lookup_cons,hx]at h';cases h';simp only[Bool.and_eq_true,beq_iff_eq]at hc;exact⟨k₀,rfl,.inr ⟨hc.1.1,rfl⟩⟩
   ·rw[if_neg hc]at h';simp only[List.lookup_cons,hx]at h';cases h';exact⟨_,rfl,.inl rfl⟩
  |false=>
   simp only[List.lookup_cons,hx];by_cases hc:(k₀==NameKind.free&& sc.kind== .function&& sc.names.lookup n==some .cell)=true
   ·rw[if_pos hc]at h';simp only[List.lookup_cons,hx]at h';exact ih h'
   ·rw[if_neg hc]at h';simp only[List.lookup_cons,hx]at h';exact ih h'
structure oA(N:List Str)(sc scope:Scope)(own:List (Str×Nat)):Prop where
 kind:scope.kind=.function
 uniq:∀y∈scope.names,scope.names.lookup y.1=some y.2
 ix:∀p∈own,N[p.2]? =some p.1
 free:∀y∈scope.names,y.2=.free->sc.names.lookup y.1=some .cell\/sc.names.lookup y.1=some .free
 own:∀y∈scope.names,y.2=.local\/y.2=.cell->y.1∈own.map (·.1)\/y.1∉N
def wipe(σ:St):List Nat->St
 |[]=>σ
 |v::vs=>(wipe σ vs).set v none
theorem gQ(σ:St):∀vs:List Nat,(wipe σ vs).length=σ.length
 |[]=>rfl
 |v::vs=>by unfold wipe;rw[List.length_set,gQ σ vs]
theorem kZ{σ:St}{i:Nat}{x:V}:∀{vs:List Nat},(wipe σ vs)[i]? =some (some x)->σ[i]? =some (some x)/\i∉vs
 |[],h=>⟨h,by simp⟩
 |v::vs,h=>by
  unfold wipe at h;by_cases hi:v=i
  ·subst hi;by_cases hv:v<(wipe σ vs).length
   ·rw[List.getElem?_set_self hv]at h;cases h
   ·rw[List.getElem?_eq_none (by simpa using hv)]at h;cases h
  ·rw[List.getElem?_set_ne hi]at h;obtain⟨h1,h2⟩:=kZ h;exact⟨h1,by simp only[List.mem_cons,not_or];exact⟨fun e=>hi e.symm,h2⟩⟩
noncomputable abbrev Cx.blk(X:Cx)(s:Shared)(H:Hp)(scope:Scope)(cenv:Env)(fp:List Addr):Cx:={X with s_0:=s,H_0:=H,env:=cenv,outer:=X.stack,ex:=fp,fn:=fun x=>scope.names.lookup x==some .cell,pn:=[],xe:=fun _ _=>False}
section
variable {X:Cx}{pins:List (Addr×Obj)}{σ:St}{H:Hp}{s:Shared}
theorem qL{scope:Scope}{own:List (Str×Nat)}{fp:List Addr}(I:Inv X pins σ H s)(ok:oA X.N X.env.scope scope own)(hN:X.N.Nodup)(hfp:∀b∈fp,mM X pins H b/\b<s.heap.objs.size):
  Inv (X.blk s H scope (compEnvC scope (cellsFrom (s.heap.objs.size+1) scope.names (bF X.env.cells scope.names [])) s.heap.objs.size X.env) fp) [] (wipe σ (own.map (·.2))) H {s with heap:=pushCells (s.heap.push {cls:=.type "dict",data:=.dict #[]}) scope.names}:=by
 have hfree:∀y∈scope.names,y.2=.free->∃c,X.env.cells.lookup y.1=some c:=fun y hy e=>by
  rcases ok.free y hy e with k|k
  ·exact I.ok.has _ (.inl k)
  ·exact I.ok.has _ (.inr k)
 generalize hcenv:compEnvC scope (cellsFrom (s.heap.objs.size+1) scope.names (bF X.env.cells scope.names [])) s.heap.objs.size X.env=cenv;have kp:∀b o,s.heap.get? b=some o->(pushCells (s.heap.push {cls:=.type "dict",data:=.dict #[]}) scope.names).get? b=some o:=fun b o e=>pushCells_keeps _ _ _ _ (Heap.get?_push_of_some _ e)
 have hL:cenv.locals=s.heap.objs.size:=by rw[<- hcenv];rfl
 have hcl:cenv.cells=cellsFrom (s.heap.objs.size+1) scope.names (bF X.env.cells scope.names []):=by rw[<- hcenv];rfl
 have hsc:cenv.scope=QZ scope X.env.scope:=by rw[<- hcenv];rfl
 rw[<- Heap.size_push s.heap {cls:=.type "dict",data:=.dict #[]}]at hcl;have cm:∀{y c},(y,c)∈bF X.env.cells scope.names []->X.env.cells.lookup y=some c/\c<s.heap.objs.size:=fun{y c} hm=>by
  rcases fJ hm with hm|⟨h1,rfl⟩
  ·cases hm
  ·obtain⟨c,hc⟩:=hfree _ h1 rfl;rw[hc];obtain⟨w,z⟩:=I.cell _ _ hc;exact⟨rfl,z.lt⟩
 have mem:∀{y c},cenv.cells.lookup y=some c->(X.env.cells.lookup y=some c/\c<s.heap.objs.size)\/(s.heap.objs.size+1<=c/\HG (pushCells (s.heap.push {cls:=.type "dict",data:=.dict #[]}) scope.names) c none):=fun{y c} e=>by
  rw[hcl]at e;rcases iS (PySem.mem_of_lookup e)with hm|⟨_,h2,h3⟩
  ·exact .inl (cm hm)
  ·rw[Heap.size_push]at h2;exact .inr ⟨h2,h3⟩
 have look:∀{y},scope.names.lookup y=some .free->∃c,cenv.cells.lookup y=some c/\X.env.cells.lookup y=some c:=fun{y} hl=>by
  have hy:(y,NameKind.free)∈scope.names:=PySem.mem_of_lookup hl;obtain⟨c',e'⟩:=mem_lookup (lI (names:=scope.names) (n:=(s.heap.push {cls:=.type "dict",data:=.dict #[]}).objs.size) (gY (cells:=X.env.cells) (acc:=[]) hy));rw[<- hcl]at e';refine⟨c',e',?_⟩;rw[hcl]at e';rcases iS (PySem.mem_of_lookup e')with hm|⟨h1,_,_⟩
  ·exact(cm hm).1
  ·have:=ok.uniq _ h1;rw[hl]at this;cases this
 have okB:(X.blk s H scope cenv fp).Ok:=by
  refine⟨I.ok.mod,by show cenv.scope.kind=_;rw[hsc];exact ok.kind,by show cenv.globals=_;rw[<- hcenv];exact I.ok.glob,by show cenv.builtins=_;rw[<- hcenv];exact I.ok.blt,by show s.heap.objs.size<=cenv.locals;rw[hL];exact Nat.le_refl _,
   fun y z c e1 e2=>?_,fun y hy=>?_,fun y c z e=>?_,I.ok.hd,I.ok.frames,.inl rfl,fun b hb=>⟨?_,fun y c e z=>?_⟩,I.bs,Nat.le_trans I.ok.bsz I.sz,fun b o e hb=>?_,fun b hb z=>?_,I.stack,I.vL⟩
  ·have e1:cenv.cells.lookup y=some c:=e1;have e2:cenv.cells.lookup z=some c:=e2;rw[hcl]at e1 e2;refine pJ (fun p hp=>?_) (fun y z c a b=>I.ok.inj y z c (cm a).1 (cm b).1) (PySem.mem_of_lookup e1) (PySem.mem_of_lookup e2);rw[Heap.size_push];exact Nat.lt_succ_of_lt (cm (y:=p.1) (c:=p.2) hp).2
  ·show∃c,cenv.cells.lookup y=some c
   have key:∀k,cenv.kindOf y=some k->(k=.cell\/k=.free)->∃c,cenv.cells.lookup y=some c:=fun k hk hk'=>by
    unfold Env.kindOf at hk;rw[hsc]at hk;obtain⟨k',e,r⟩:=k6 hk;have:k'=.cell\/k'=.free:=by
     rcases r with rfl|⟨rfl,_⟩
     ·exact hk'
     ·exact .inr rfl
    rcases this with rfl|rfl
    ·obtain⟨c,hm⟩:=pK (n:=(s.heap.push {cls:=.type "dict",data:=.dict #[]}).objs.size) (acc:=bF X.env.cells scope.names []) (PySem.mem_of_lookup e);obtain⟨c',e'⟩:=mem_lookup hm;exact⟨c',by rw[hcl];exact e'⟩
    ·obtain⟨c,h1,_⟩:=look e;exact⟨c,h1⟩
   rcases hy with hy|hy
   ·exact key _ hy (.inl rfl)
   ·exact key _ hy (.inr rfl)
  ·have z:(scope.names.lookup y==some NameKind.cell)=true:=z;have z:scope.names.lookup y=some .cell:=by simpa using z
   have e:cenv.cells.lookup y=some c:=e;rw[hcl]at e;rcases iS (PySem.mem_of_lookup e)with hm|⟨_,h2,_⟩
   ·rcases fJ hm with hm|⟨h1,_⟩
    ·cases hm
    ·have q:=ok.uniq _ h1;rw[z]at q;cases q
   ·rw[Heap.size_push]at h2;exact Nat.le_of_succ_le h2
  ·show b≠cenv.locals
   rw[hL];exact Nat.ne_of_lt (hfp b hb).2
  ·have e:cenv.cells.lookup y=some c:=e;rcases mem e with⟨h1,_⟩|⟨h1,_⟩
   ·exact(hfp b hb).1.2.2.2.2.1 y c h1 z
   ·have h2:s.heap.objs.size+1<=b:=by rw[<- z];exact h1
    exact absurd (Nat.lt_of_lt_of_le (hfp b hb).2 (Nat.le_of_succ_le h2)) (Nat.lt_irrefl _)
  ·rcases(hfp b hb).1.2.2.2.1 with z|z
   ·exact I.ok.FY b o e z
   ·exact absurd (Nat.lt_of_lt_of_le (Heap.lt_size e) (Nat.le_trans I.ok.bsz z)) (Nat.lt_irrefl _)
  ·rcases List.mem_cons.mp (I.rF b z)with z|z
   ·exact(hfp b hb).1.2.1 z
   ·exact(hfp b hb).1.2.2.1 z
 refine⟨okB,rfl,I.bare,Un.kept kp,⟨fun _=>none,?_,fun i y av e1 e2 e3=>?_⟩,fun y c e=>?_,?_,fun y c e=>?_,fun p hp=>?_,I.hok.kept kp,by rw[gQ];exact I.len⟩
 ·show Heap.Ns _ cenv.locals _
  rw[hL];exact Heap.Ns.keeps (Heap.Ns.new ..) fun b o e=>pushCells_keeps _ _ _ _ e
 ·obtain⟨e2,hne⟩:=kZ e2;have hfr:scope.names.lookup y=some .free/\(cenv.kindOf y=some .cell\/cenv.kindOf y=some .free):=by
   have key:∀k,cenv.scope.names.lookup y=some k->k=.local\/k=.cell\/k=.free->scope.names.lookup y=some .free/\(cenv.kindOf y=some .cell\/cenv.kindOf y=some .free):=fun k hk hk'=>by
    have hk0:=hk;rw[hsc]at hk;obtain⟨k',e,r⟩:=k6 hk;have no:¬(k'=.local\/k'=.cell):=fun hh=>by
     rcases ok.own _ (PySem.mem_of_lookup e) hh with e'|e'
     ·obtain⟨p,hp,hpy⟩:=List.mem_map.mp e';have e3:=ok.ix p hp;have:p.1=y:=hpy;rw[this]at e3;exact hne (List.mem_map.mpr ⟨p,hp,sD hN e3 e1⟩)
     ·exact e' (List.mem_of_getElem? e1)
    rcases r with rfl|⟨rfl,rfl⟩
    ·rcases hk' with rfl|rfl|rfl
     ·exact absurd (.inl rfl) no
     ·exact absurd (.inr rfl) no
     ·exact⟨e,.inr hk0⟩
    ·exact⟨e,.inl hk0⟩
   have e3:Vis cenv.scope y:=e3;rcases e3 with e3|e3|e3
   ·exact key _ e3 (.inl rfl)
   ·exact key _ e3 (.inr (.inl rfl))
   ·exact key _ e3 (.inr (.inr rfl))
  obtain⟨m,hn,hl⟩:=I.loc;have hvis:Vis X.env.scope y:=(ok.free _ (PySem.mem_of_lookup hfr.1) rfl).elim (fun k=>.inr (.inl k)) (fun k=>.inr (.inr k));obtain⟨w,r,q⟩:=hl i y av e1 e2 hvis;refine⟨w,r,.inr ⟨hfr.2,?_⟩⟩;obtain⟨c,h1,h2⟩:=look hfr.1;rcases q with⟨k,_⟩|⟨_,c',e',z⟩
  ·have k:X.env.scope.names.lookup y=some .local:=k;rcases ok.free _ (PySem.mem_of_lookup hfr.1) rfl with k'|k'<;>rw[show X.env.scope.names.lookup y=_ from k']at k<;>cases k
  ·rw[h2]at e';cases e';exact⟨c,h1,z.keeps kp⟩
 ·have e:cenv.cells.lookup y=some c:=e;rcases mem e with⟨h1,_⟩|⟨_,z⟩
  ·obtain⟨w,z⟩:=I.cell y c h1;exact⟨w,z.keeps kp⟩
  ·exact⟨_,z⟩
 ·show H cenv.locals=none
  rw[hL];exact I.hok.fresh (Nat.le_refl _)
 ·have e:cenv.cells.lookup y=some c:=e;rcases mem e with⟨h1,_⟩|⟨h1,_⟩
  ·exact I.gW y c h1
  ·exact I.hok.fresh (Nat.le_of_succ_le h1)
 ·exact absurd (show p∈([]:List (Addr×Obj))++[]from hp) (by simp)
theorem GZ{E:Value->Shared->Prop}{D:Addr}{xs:List V}{y:V}{v:Value}{Q:Value->Shared->Prop}(I:Inv X pins σ H s)(hD:H D=some (.lst xs))(hz:xs.length<sizeLine)(r:RelV y v)
  (h:∀s',Inv X pins σ (upd H D (.lst (xs++[y]))) s'->Q .none s'):wpAny (model X.prog X.w) X.A (call (.builtin "list.append") [.ref D,v]) Q E s:=by
 obtain⟨hz',its,n,ri,e⟩:=I.hok D _ hD;have hl:=ri.length;refine append_at (hsz:=by rw[List.size_toArray];omega) e fun h' sb ho'=>?_
 refine h {s with heap:=h'} (I.write (t':=s.toks) (by rw[hD];trivial) (.inl rfl) (fun b u hb q=>(sb.2 b hb).trans q) ⟨_,ho'⟩ ⟨by rw[List.length_append];exact hz,its++[v],n+1,ri.append (.cons r .nil),?_⟩);rw[ho'];simp
noncomputable def PTs(X:Cx)(ifs:List Expr)(t:TT):Prop:=
 ∀(pins:List (Addr×Obj))(s:Shared)(σ:St)(H:Hp)(Q:Bool->Hp->Prop),Inv X pins σ H s->t σ H Q ->
  wpAny (model X.prog X.w) X.A (forIn ifs true fun c r=>if r=true then do let ok<- isTrue c X.env (eval c X.env);pure (ForInStep.yield ok)else pure (ForInStep.yield r)) (TP X pins σ Q) X.xe s
def EW:TT:=fun _ H Q=>Q true H
theorem qU:PTs X [] EW:=fun _ _ _ H _ I h=>wpAny_tests_nil ⟨H,I,h⟩
theorem HY{c:Expr}{t:TT}(h:PT X c t):PTs X [c] t:=fun pins s σ H Q I hw=>wpAny_tests_one (h pins s σ H Q I hw)
end
theorem vJ{α:Type}{t:Sem α}{Q Q':α->Shared->Prop}{M:Model}{A:Around}{E:Value->Shared->Prop}{s:Shared}(h:wpAny M A t Q (fun _ _=>False) s)(hQ:∀a s,Q a s->Q' a s):wpAny M A t Q' E s:=wpAny_mono h hQ fun _ _ z=>False.elim z
theorem nX{prog:Program}{w:World}{A:Around}{R:Result->Shared->Prop}{s:Shared}{elt target iter:Expr}{ifs:List Expr}{scope:Scope}{pos:Pos}{it acc:Value}{env:Env}(I:Nat->Shared->Prop)
  (turn:∀n s,I n s->wpAny (model prog w) A (pyNext it) (fun r s₁=>match r with
   |none=>R (.ok .next) s₁
   |some v=>wpAny (model prog w) A (letOwnedTupleGo target it v) (fun _ s₁'=>wpAny (model prog w) A (assign target env v) (fun _ s₂=>
     wpAny (model prog w) A (forIn ifs true fun c r=>if r=true then do let ok<- isTrue c env (eval c env);pure (ForInStep.yield ok)else pure (ForInStep.yield r)) (fun ok s₃=>
      if ok=true then wpAny (model prog w) A (eval elt env) (fun x s₄=>
       wpAny (model prog w) A (call (.builtin "list.append") [acc,x]) (fun _ s₅=>∃m,m<n/\I m s₅) (notedBy (model prog w) A env fun e s'=>R (.error e) s') s₄) (notedBy (model prog w) A env fun e s'=>R (.error e) s') s₃
      else∃m,m<n/\I m s₃) (notedBy (model prog w) A env fun e s'=>R (.error e) s') s₂) (notedBy (model prog w) A env fun e s'=>R (.error e) s') s₁') (notedBy (model prog w) A env fun e s'=>R (.error e) s') s₁) (notedBy (model prog w) A env fun e s'=>R (.error e) s') s)
  (n:Nat) (h:I n s):
  codeAny (model prog w) A (.compLoop (.ListComp elt [⟨target,iter,ifs,0⟩] scope pos) 0 it acc env) R s:=by
 refine codeAny_loop rfl I (fun n s hI=>?_) n h;show wpAny _ A ((compTurn (.ListComp elt [⟨target,iter,ifs,0⟩] scope pos) 0 it acc env).onRaise (fun x=>do noteFrame x env;theTreesLotGoes x)) _ _ s
 refine wpAny_noted ?_;rw[compTurn_list];refine wpAny_bind (wpAny_standAt (wpAny_bind (wpAny_mono (turn n s hI) (fun r s₁ h₁=>?_) fun _ _ h'=>h')));cases r with
 |none=>exact wpAny_pure h₁
 |some v=>
  refine wpAny_bind (wpAny_mono h₁ (fun _ s₁' h₁'=>?_) fun _ _ h'=>h');refine wpAny_bind (wpAny_mono h₁' (fun _ s₂ h₂=>wpAny_bind (wpAny_mono h₂ (fun ok s₃ h₃=>?_) fun _ _ h'=>h')) fun _ _ h'=>h');cases ok with
  |false=>exact wpAny_pure ⟨rfl,h₃⟩
  |true=>exact wpAny_bind (wpAny_bind (wpAny_mono h₃ (fun x s₄ h₄=>wpAny_bind (wpAny_mono h₄ (fun _ s₅ h₅=>wpAny_pure (wpAny_pure ⟨rfl,h₅⟩)) fun _ _ h'=>h')) fun _ _ h'=>h'))
section
variable {X:Cx}
noncomputable def tLc(wi:TI)(g:TG)(tt:TT)(te:TE)(vs:List Nat):TE:=fun σ H Q=>wi σ H fun J H1=>∀D,H1 D=none->∃W:Nat->Nat->Hp->Prop,(∃m,W 0 m (upd H1 D (.lst [])))/\∀i m H,W i m H ->
 (J.stop i H/\Q (.ref D) H)\/(J.go i H/\∃Nx:Hp->Prop,(∀H',Nx H'->∃m',m'<m/\W (i+1) m' H')/\∀x H',J.yld i H x H'->g x (wipe σ vs) H' fun σ2 H2=>wipe σ2 vs=wipe σ vs/\tt σ2 H2 fun b H3=>
  if b=true then te σ2 H3 fun y H4=>∃acc,H4 D=some (.lst acc)/\acc.length<sizeLine/\Nx (upd H4 D (.lst (acc++[y])))else Nx H3)
theorem BV{pins:List (Addr×Obj)}{s:Shared}{σ:St}{H:Hp}{Q:VK}{elt tg iter:Expr}{ifs:List Expr}{scope:Scope}{own:List (Str×Nat)}{pos pos':Pos}{wi:TI}{g:TG}{tt:TT}{te:TE}{use:Option (Value->Sem Unit)}{Qf:Value->Shared->Prop}
  (hc:X.calm=true) (hN:X.N.Nodup) (I:Inv X pins σ H s) (hi:PI X tg iter wi) (ok:oA X.N X.env.scope scope own)
  (hg:∀(s:Shared)(H:Hp)(C:Addr)(cl:List (Str×Addr))(fp:List Addr),PG (X.blk s H scope (compEnvC scope cl C X.env) fp) tg g) (ht:∀(s:Shared)(H:Hp)(C:Addr)(cl:List (Str×Addr))(fp:List Addr),PTs (X.blk s H scope (compEnvC scope cl C X.env) fp) ifs tt)
  (he:∀(s:Shared)(H:Hp)(C:Addr)(cl:List (Str×Addr))(fp:List Addr),PE (X.blk s H scope (compEnvC scope cl C X.env) fp) elt te) (hs:∀x,foldedSetIterable iter X.env x=pure x)
  (h:tLc wi g tt te (own.map (·.2)) σ H Q)
  (hRR:∀D C s' m H',Inv X pins σ H' s'->Q (.ref D) H'->s'.heap.Ns C m->mM X pins H' C->compPost (model X.prog X.w) X.A X.xe use Qf (.ref D) C (.ok .next) s'):
  wpAny (model X.prog X.w) X.A (comprehension (.ListComp elt [⟨tg,iter,ifs,0⟩] scope pos) scope X.env pos' (newList []) false (eval iter X.env) use) Qf X.xe s:=by
 have hfree:∀y∈scope.names,y.2=.free->∃c,X.env.cells.lookup y.1=some c:=fun y hy e=>by
  rcases ok.free y hy e with k|k
  ·exact I.ok.has _ (.inl k)
  ·exact I.ok.has _ (.inr k)
 refine wpAny_comprehension_free (use:=use) rfl hs (mI hfree) ok.kind (fun y hy e=>by rw[ok.uniq y hy,e])
  (thn (hi pins s σ H _ I h) fun xv s1 hx=>thn hx fun itv s2 h2=>?_)
 obtain⟨it,fp,tn,J,H2,e,I2,T,st2,f2,q⟩:=h2;subst e;refine wpAny_newObj_type (qC ?_) (by show 0<=sizeLine;decide);generalize hD:s2.heap.objs.size=D;have hDn:H2 D=none:=I2.hok.fresh (Nat.le_of_eq hD);obtain⟨W,⟨m0,w0⟩,turn⟩:=q D hDn;generalize hs3:({s2 with heap:=s2.heap.push {cls:=.type "list",data:=.seq ([]:List Value).toArray}}:Shared)=s3;have I3:Inv X pins σ (upd H2 D (.lst [])) s3:=by rw[<- hs3];refine I2.laid (t':=s2.toks) (fun b o e=>Heap.get?_push_of_some _ e) (Nat.le_of_eq hD) ⟨Nat.zero_le _,[],0,.nil,?_⟩;rw[<- hD];exact Heap.get?_push_size _ rfl
 have h3:s3.heap=s2.heap.push {cls:=.type "list",data:=.seq ([]:List Value).toArray}:=by rw[<- hs3]
 have sz:∀b∈fp,b<s2.heap.objs.size:=fun b hb=>by obtain⟨o,e,_⟩:=T.obj _ _ st2 b hb;exact Heap.lt_size e
 have f3:∀b∈fp,mM X pins (upd H2 D (.lst [])) b/\b<s3.heap.objs.size:=fun b hb=>by have hlt:=sz b hb;refine⟨⟨?_,(f2 b hb).2⟩,by rw[h3,Heap.size_push];exact Nat.lt_succ_of_lt hlt⟩;rw[aA (by rw[<- hD];exact Nat.ne_of_lt hlt)];exact(f2 b hb).1
 have st3:tn 0 s3.heap:=T.keep _ _ _ st2 fun b _ o e=>by rw[h3];exact Heap.get?_push_of_some _ e
 have I4:=qL I3 ok hN f3;have pg:=hg s3 (upd H2 D (.lst [])) s3.heap.objs.size (cellsFrom (s3.heap.objs.size+1) scope.names (bF X.env.cells scope.names [])) fp;have pt:=ht s3 (upd H2 D (.lst [])) s3.heap.objs.size (cellsFrom (s3.heap.objs.size+1) scope.names (bF X.env.cells scope.names [])) fp;have pe:=he s3 (upd H2 D (.lst [])) s3.heap.objs.size (cellsFrom (s3.heap.objs.size+1) scope.names (bF X.env.cells scope.names [])) fp;show codeAny _ _ (.compStart (.ListComp elt [⟨tg,iter,ifs,0⟩] scope pos) 0 (.ref it) (.ref D) (compEnvC scope (cellsFrom (s3.heap.objs.size+1) scope.names (bF X.env.cells scope.names [])) s3.heap.objs.size X.env)) (compPost (model X.prog X.w) X.A X.xe use Qf (.ref D) s3.heap.objs.size) {s3 with heap:=pushCells (s3.heap.push {cls:=.type "dict",data:=.dict #[]}) scope.names}
 have nfp:∀b∈fp,(upd H2 D (.lst [])) b=none:=fun b hb=>(f3 b hb).1.1
 generalize hce:compEnvC scope (cellsFrom (s3.heap.objs.size+1) scope.names (bF X.env.cells scope.names [])) s3.heap.objs.size X.env=ce at I4 pg pt pe ⊢;have cL:ce.locals=s3.heap.objs.size:=by subst hce;rfl
 generalize hH3:upd H2 D (.lst [])=H3 at I3 I4 pg pt pe w0 nfp f3;generalize hs4:({s3 with heap:=pushCells (s3.heap.push {cls:=.type "dict",data:=.dict #[]}) scope.names}:Shared)=s4 at I4 ⊢;have st4:tn 0 s4.heap:=T.keep _ _ _ st3 fun b _ o e=>by rw[<- hs4];exact pushCells_keeps _ _ _ _ (Heap.get?_push_of_some _ e)
 have stat:∀{σ':St}{H':Hp}{s':Shared},Inv (X.blk s3 H3 scope ce fp) [] σ' H' s'->(∀b∈fp,H' b=none)->∀b∈fp,mM (X.blk s3 H3 scope ce fp) [] H' b:=fun{σ' H' s'} I' hn b hb=>
  ⟨hn b hb,(I'.ok.exf b hb).1,I'.ok.B2 b hb,.inl hb,fun x c e=>(I'.ok.exf b hb).2 x c e,fun p hp=>absurd (show p∈([]:List (Addr×Obj))++[]from hp) (by simp)⟩
 have loop:codeAny (model X.prog X.w) X.A (.compLoop (.ListComp elt [⟨tg,iter,ifs,0⟩] scope pos) 0 (.ref it) (.ref D) ce) (compPost (model X.prog X.w) X.A X.xe use Qf (.ref D) s3.heap.objs.size) s4:=by
  refine nX (fun n s'=>∃i H',Inv (X.blk s3 H3 scope ce fp) [] (wipe σ (own.map (·.2))) H' s'/\tn i s'.heap/\(∀b∈fp,H' b=none)/\W i n H') ?_ m0 ⟨0,H3,I4,st4,nfp,w0⟩;rintro n s5 ⟨i,H5,I5,st5,n5,w5⟩;rcases turn i n H5 w5 with⟨stop,qq⟩|⟨go,Nx,hNx,step⟩
  ·have td:=T.done (X.blk s3 H3 scope ce fp) rfl rfl rfl hc i [] s5 _ H5 (fun _ _=>False) I5 (stat I5 n5) st5 stop;refine vJ td fun r s6 ⟨hr,I6⟩=>?_
   subst hr;have I7:Inv X pins σ H5 s6:=I3.CC (ch:=fp) I6.os I6.base I6.hok I6.bare fun b hb=>⟨(f3 b hb).1.2.2.2.1,(f3 b hb).1.2.1,(f3 b hb).1.2.2.2.2.1,(f3 b hb).1.2.2.2.2.2⟩
   have nC:H5 s3.heap.objs.size=none:=by have z:H5 ce.locals=none:=I6.free;rw[cL]at z;exact z
   obtain⟨m,hn,_⟩:=I6.loc;have hn:s6.heap.Ns ce.locals m:=hn;rw[cL]at hn;exact hRR D s3.heap.objs.size s6 m H5 I7 qq hn (I3.AZ (Nat.le_refl _) nC)
  ·have ti:=T.item (X.blk s3 H3 scope ce fp) rfl rfl rfl hc i [] s5 _ H5 (fun _ _=>False) I5 (stat I5 n5) st5 go;refine vJ ti fun r s6 ⟨u,hr,h6⟩=>?_
   subst hr;refine vJ h6 fun _ s7 ⟨x,H7,I7,r7,y7,st7,n7⟩=>?_
   have I7':=I7.pinned (stat I7 n7) (T.obj _ _ st7);refine vJ (pg _ s7 _ H7 x u _ I7' r7 (step x H7 y7)) fun _ s8 ⟨σ8,H8,I8,hw8,q8⟩=>?_
   refine vJ (pt _ s8 σ8 H8 _ I8 q8) fun b s9 ⟨H9,I9,q9⟩=>?_
   have fin:∀{s':Shared}{H':Hp},Inv (X.blk s3 H3 scope ce fp) ([]++oU fp s7.heap) σ8 H' s'->Nx H'->∃m,m<n/\∃i H',Inv (X.blk s3 H3 scope ce fp) [] (wipe σ (own.map (·.2))) H' s'/\tn i s'.heap/\(∀b∈fp,H' b=none)/\W i m H':=fun{s' H'} I' nx=>by
    obtain⟨m',hm,w'⟩:=hNx H' nx;have pin':∀b∈fp,∀o,s7.heap.get? b=some o->s'.heap.get? b=some o/\H' b=none:=fun b hb o e=>
     let z:=I'.pin (b,o) (List.mem_append_right _ (List.mem_append_right _ (j6 hb e)))
     ⟨z.1,z.2.1⟩
    have hl:(wipe σ (own.map (·.2))).length=σ8.length:=by rw[<- hw8,gQ]
    refine⟨m',hm,i+1,H',(I'.jR (pins:=[])).weak hl (fun j v e=>?_),T.keep _ _ _ st7 fun b hb o e=>(pin' b hb o e).1,fun b hb=>?_,w'⟩
    ·rw[<- hw8]at e;exact(kZ e).1
    ·obtain⟨o,e,_⟩:=T.obj _ _ st7 b hb;exact(pin' b hb o e).2
   cases b with
   |false=>simp only[Bool.false_eq_true,if_false]at q9 ⊢;exact fin I9 q9
   |true=>
    simp only[if_true]at q9 ⊢;refine vJ (pe _ s9 σ8 H9 _ I9 q9) fun z s10 ⟨yv,H10,I10,r10,acc,hD10,hz10,nx⟩=>?_
    exact GZ (X:=X.blk s3 H3 scope ce fp) I10 hD10 hz10 r10 fun s11 I11=>fin I11 nx
 exact codeAny_compStart_list loop (T.self X.A 0 _ _ _ st4 loop)
theorem BO{elt tg iter:Expr}{ifs:List Expr}{scope:Scope}{own:List (Str×Nat)}{pos:Pos}{wi:TI}{g:TG}{tt:TT}{te:TE}(hc:X.calm=true)(hN:X.N.Nodup)(hi:PI X tg iter wi)(ok:oA X.N X.env.scope scope own)
  (hg:∀(s:Shared)(H:Hp)(C:Addr)(cl:List (Str×Addr))(fp:List Addr),PG (X.blk s H scope (compEnvC scope cl C X.env) fp) tg g) (ht:∀(s:Shared)(H:Hp)(C:Addr)(cl:List (Str×Addr))(fp:List Addr),PTs (X.blk s H scope (compEnvC scope cl C X.env) fp) ifs tt)
  (he:∀(s:Shared)(H:Hp)(C:Addr)(cl:List (Str×Addr))(fp:List Addr),PE (X.blk s H scope (compEnvC scope cl C X.env) fp) elt te) (hs:∀x,foldedSetIterable iter X.env x=pure x:=by intro _;rfl):
  PE X (.ListComp elt [⟨tg,iter,ifs,0⟩] scope pos) (tLc wi g tt te (own.map (·.2))):=by
 intro pins s σ H Q I h;rw[eval_ListComp];refine BV hc hN I hi ok hg ht he hs h fun D C s' m H' I' q hn f=>⟨m,hn,fun h'' sb=>?_⟩
 obtain⟨f0,f1,f2,f3,f4,f5⟩:=f;exact⟨.ref D,H',I'.turned (t':=s'.toks) (fun b o hb e=>(sb.2 b hb).trans e) f0 f1 f3 f4 f5,rfl,q⟩
theorem FD{i:Nat}{y:Str}{py:Pos}{elt tg iter:Expr}{ifs:List Expr}{scope:Scope}{own:List (Str×Nat)}{pos spos:Pos}{wi:TI}{g:TG}{tt:TT}{te:TE}(hc:X.calm=true)(hN:X.N.Nodup)(hy:X.N[i]? =some y)(hyl:X.env.scope.names.lookup y=some .local)
  (hsw:swapsWith (.ListComp elt [⟨tg,iter,ifs,0⟩] scope pos) (some (.Name y py)) spos.line X.env=pure true) (hi:PI X tg iter wi) (ok:oA X.N X.env.scope scope own)
  (hg:∀(s:Shared)(H:Hp)(C:Addr)(cl:List (Str×Addr))(fp:List Addr),PG (X.blk s H scope (compEnvC scope cl C X.env) fp) tg g) (ht:∀(s:Shared)(H:Hp)(C:Addr)(cl:List (Str×Addr))(fp:List Addr),PTs (X.blk s H scope (compEnvC scope cl C X.env) fp) ifs tt)
  (he:∀(s:Shared)(H:Hp)(C:Addr)(cl:List (Str×Addr))(fp:List Addr),PE (X.blk s H scope (compEnvC scope cl C X.env) fp) elt te) (hs:∀x,foldedSetIterable iter X.env x=pure x:=by intro _;rfl):
  PS X (.Assign [.Name y py] (.ListComp elt [⟨tg,iter,ifs,0⟩] scope pos) spos) (CW (tLc wi g tt te (own.map (·.2))) (lT i)):=by
 intro pins s σ H D I h;rw[exec_Assign_Name_used _ _ _ _ hsw];refine wpAny_bind (wpAny_standAt (wpAny_bind ?_));show wpAny _ X.A (do let _<- comprehension (.ListComp elt [⟨tg,iter,ifs,0⟩] scope pos) scope X.env (firstIterPos [⟨tg,iter,ifs,0⟩] pos) (newList []) false (eval iter X.env) (some (assign (.Name y py) X.env))) _ _ s
 have h:tLc wi g tt te (own.map (·.2)) σ H (fun x H1=>lT i x σ H1 D.nx):=h;refine wpAny_bind (thn (BV (Qf:=fun _ s'=>SP X pins D .next s') hc hN I hi ok hg ht he hs h fun L C s' m H' I' q hn f=>?_) fun _ s' hq=>wpAny_pure (wpAny_pure hq));show wpAny _ _ (assign (.Name y py) X.env (.ref L)) _ _ _
 refine wpAny_assign_Name (oM (v:=V.ref L) I' hN hy (.inl hyl) rfl (fun s2 I2 ⟨a,sb,ha⟩=>?_) (.inr hyl));obtain⟨f0,f1,f2,f3,f4,f5⟩:=f;have haC:C≠a:=by
  rcases ha with z|z
  ·rw[z];exact f1
  ·exact fun e=>f4 y a z e.symm
 refine⟨m,hn.sameBut sb haC,fun h3 sb3=>?_⟩;exact⟨_,H',I2.turned (t':=s2.toks) (fun b o hb e=>(sb3.2 b hb).trans e) f0 f1 f3 f4 f5,q⟩
theorem vK{elt:Expr}{gs:List Comprehension}{scope:Scope}{pos py:Pos}{y:Str}{l:Nat}{env:Env}(hk:env.scope.kind=.function)(hy:env.scope.names.lookup y=some .local)(hl:(py.line==pos.line)=true)
  (ha:(scope.names.any fun(n,k)=>n==y&& (k== .local||k== .cell))=false):swapsWith (.ListComp elt gs scope pos) (some (.Name y py)) l env=pure true:=by
 have ky:env.kindOf y=some .local:=hy;have hb:env.blockKind=.function:=by unfold Env.blockKind;rw[hk];rfl
 unfold swapsWith;simp only[hb,ky,ha,Expr.pos,hl];rfl
end
theorem lG{K:W.Frag}{a:Addr}{xs:List V}{g:TG}{tt:TT}{te:TE}{vs:List Nat}{σ:St}{H1:Hp}{D:Addr}{Qd:Hp->Prop}(Pv:Nat->Hp->Prop)(h0:Pv 0 (upd H1 D (.lst [])))(hl:∀i H,i<=xs.length->Pv i H->SqL K H a xs)
  (hs:∀i x H,xs[i]? =some x->Pv i H->g x (wipe σ vs) H fun σ2 H2=>wipe σ2 vs=wipe σ vs/\tt σ2 H2 fun b H3=>
   if b=true then te σ2 H3 fun y H4=>∃acc,H4 D=some (.lst acc)/\acc.length<sizeLine/\Pv (i+1) (upd H4 D (.lst (acc++[y])))else Pv (i+1) H3) (hd:∀H,Pv xs.length H->Qd H):
  ∃W:Nat->Nat->Hp->Prop,(∃m,W 0 m (upd H1 D (.lst [])))/\∀i m H,W i m H ->
   ((Itl K a).stop i H/\Qd H)\/((Itl K a).go i H/\∃Nx:Hp->Prop,(∀H',Nx H'->∃m',m'<m/\W (i+1) m' H')/\∀x H',(Itl K a).yld i H x H'->g x (wipe σ vs) H' fun σ2 H2=>wipe σ2 vs=wipe σ vs/\tt σ2 H2 fun b H3=>
    if b=true then te σ2 H3 fun y H4=>∃acc,H4 D=some (.lst acc)/\acc.length<sizeLine/\Nx (upd H4 D (.lst (acc++[y])))else Nx H3):=by
 refine⟨fun i m H=>m=xs.length - i/\i<=xs.length/\Pv i H,⟨xs.length,by simp,Nat.zero_le _,h0⟩,?_⟩;rintro i m H ⟨rfl,hi,p⟩;have q:=hl i H hi p;by_cases hlt:i<xs.length
 ·refine .inr ⟨⟨xs,xs[i],q,by simp[hlt]⟩,Pv (i+1),fun H' p'=>⟨xs.length - (i+1),by omega,rfl,hlt,p'⟩,fun x H' y=>?_⟩;obtain⟨e,y⟩:=y;subst e;exact hs i x _ (y xs q) p
 ·have e:i=xs.length:=by omega
  subst e;exact .inl ⟨⟨xs,q,Nat.le_refl _⟩,hd H p⟩
theorem KW{K:W.Frag}{a:Addr}{xs:List V}{g:TG}{tt:TT}{te:TE}{vs:List Nat}{σ:St}{H1:Hp}{D:Addr}{Qd:Hp->Prop}(Pv:Nat->Hp->Prop)(h0:Pv 0 (upd H1 D (.lst [])))(hl:∀i H,i<=xs.length->Pv i H->SqT K H a xs)
  (hs:∀i x H,xs[i]? =some x->Pv i H->g x (wipe σ vs) H fun σ2 H2=>wipe σ2 vs=wipe σ vs/\tt σ2 H2 fun b H3=>
   if b=true then te σ2 H3 fun y H4=>∃acc,H4 D=some (.lst acc)/\acc.length<sizeLine/\Pv (i+1) (upd H4 D (.lst (acc++[y])))else Pv (i+1) H3) (hd:∀H,Pv xs.length H->Qd H):
  ∃W:Nat->Nat->Hp->Prop,(∃m,W 0 m (upd H1 D (.lst [])))/\∀i m H,W i m H ->
   ((Itt K a).stop i H/\Qd H)\/((Itt K a).go i H/\∃Nx:Hp->Prop,(∀H',Nx H'->∃m',m'<m/\W (i+1) m' H')/\∀x H',(Itt K a).yld i H x H'->g x (wipe σ vs) H' fun σ2 H2=>wipe σ2 vs=wipe σ vs/\tt σ2 H2 fun b H3=>
    if b=true then te σ2 H3 fun y H4=>∃acc,H4 D=some (.lst acc)/\acc.length<sizeLine/\Nx (upd H4 D (.lst (acc++[y])))else Nx H3):=by
 refine⟨fun i m H=>m=xs.length - i/\i<=xs.length/\Pv i H,⟨xs.length,by simp,Nat.zero_le _,h0⟩,?_⟩;rintro i m H ⟨rfl,hi,p⟩;have q:=hl i H hi p;by_cases hlt:i<xs.length
 ·refine .inr ⟨⟨xs,xs[i],q,by simp[hlt]⟩,Pv (i+1),fun H' p'=>⟨xs.length - (i+1),by omega,rfl,hlt,p'⟩,fun x H' y=>?_⟩;obtain⟨e,y⟩:=y;subst e;exact hs i x _ (y xs q) p
 ·have e:i=xs.length:=by omega
  subst e;exact .inl ⟨⟨xs,q,Nat.le_refl _⟩,hd H p⟩
noncomputable def QG(N:List Str)(sc scope:Scope)(own:List (Str×Nat)):Bool:=
 (match scope.kind with| .function=>true|_=>false)&& (scope.names.all fun y=>decide (scope.names.lookup y.1=some y.2))&& (own.all fun p=>decide (N[p.2]? =some p.1))&&
  (scope.names.all fun y=>match y.2 with
   | .free=>(match sc.names.lookup y.1 with|some .cell=>true|some .free=>true|_=>false)
   | .local=>decide (y.1∈own.map (·.1))||decide (y.1∉N)
   | .cell=>decide (y.1∈own.map (·.1))||decide (y.1∉N)
   |_=>true)
theorem fL{N:List Str}{sc scope:Scope}{own:List (Str×Nat)}(h:QG N sc scope own=true):oA N sc scope own:=by
 unfold QG at h;simp only[Bool.and_eq_true,List.all_eq_true,decide_eq_true_eq]at h;obtain⟨⟨⟨h1,h2⟩,h3⟩,h4⟩:=h;refine⟨?_,h2,h3,fun y hy e=>?_,fun y hy e=>?_⟩
 ·split at h1
  ·assumption
  ·cases h1
 ·have q:=h4 y hy;simp only[e]at q;split at q<;>first|exact .inl (by assumption)|exact .inr (by assumption)|cases q
 ·have q:=h4 y hy;rcases e with e|e<;>(simp only[e,Bool.or_eq_true,decide_eq_true_eq]at q;exact q)
end L2
namespace L2
open PySem PySem.Spec PyProof.Rows
section
variable {κ:Type} [DecidableEq κ]
noncomputable def rA(kvs:List (κ×V))(k:κ):Option V:=(kvs.find? fun kv=>decide (kv.1=k)).map (·.2)
noncomputable def putK(kvs:List (κ×V))(k:κ)(v:V):List (κ×V):=
 if(kvs.any fun kv=>decide (kv.1=k))=true then kvs.map (fun kv=>if kv.1=k then(kv.1,v)else kv)else kvs++[(k,v)]
theorem mQ{p:κ×V}{r:List (κ×V)}{k:κ}(e:p.1=k):rA (p::r) k=some p.2:=by simp[rA,List.find?_cons,e]
theorem mR{p:κ×V}{r:List (κ×V)}{k:κ}(e:¬p.1=k):rA (p::r) k=rA r k:=by simp[rA,List.find?_cons,e]
theorem wQ(k:κ):∀kvs:List (κ×V),(kvs.any fun kv=>decide (kv.1=k))=(rA kvs k).isSome
 |[]=>rfl
 |p::r=>by
  rw[List.any_cons];by_cases e:p.1=k
  ·simp only[mQ e,decide_eq_true e,Bool.true_or,Option.isSome_some]
  ·rw[mR e,decide_eq_false e,Bool.false_or];exact wQ k r
theorem k7(kvs:List (κ×V))(k:κ)(v:V):(putK kvs k v).length<=kvs.length+1:=by
 unfold putK;split
 ·rw[List.length_map];omega
 ·rw[List.length_append,List.length_cons,List.length_nil];omega
theorem mK.iQ{o:Option V}{u:Option Value}(r:mK o u):o.isSome=u.isSome:=by
 cases o with
 |none=>cases u with
  |none=>rfl
  |some _=>exact(show False from r).elim
 |some _=>cases u with
  |none=>exact(show False from r).elim
  |some _=>rfl
theorem mK.getD{o:Option V}{u:Option Value}{d:V}{d':Value}(r:mK o u)(rd:RelV d d'):RelV (o.getD d) (u.getD d'):=by
 cases o with
 |none=>cases u with
  |none=>exact rd
  |some _=>exact(show False from r).elim
 |some _=>cases u with
  |none=>exact(show False from r).elim
  |some _=>exact r
theorem KV.val{kvs:List (κ×V)}{vs:List (κ×Value)}(r:KV kvs vs)(k:κ):mK (rA kvs k) (valueAt vs k):=by
 unfold KV at r;induction r with
 |nil=>exact True.intro
 | @cons p q ps qs h t ih=>
  obtain⟨h1,h2⟩:=h;by_cases e:p.1=k
  ·have e':q.1=k:=h1.symm.trans e;have b:valueAt (q::qs) k=some q.2:=by simp[valueAt,List.find?_cons,e']
   rw[mQ e,b];exact h2
  ·have e':¬q.1=k:=fun z=>e (h1.trans z)
   have b:valueAt (q::qs) k=valueAt qs k:=by simp[valueAt,List.find?_cons,e']
   rw[mR e,b];exact ih
theorem KV.any{kvs:List (κ×V)}{vs:List (κ×Value)}(r:KV kvs vs)(k:κ):(kvs.any fun kv=>decide (kv.1=k))=vs.any fun kv=>decide (kv.1=k):=by
 unfold KV at r;induction r with
 |nil=>rfl
 |cons h t ih=>rw[List.any_cons,List.any_cons,ih,h.1]
theorem KV.KH{kvs:List (κ×V)}{vs:List (κ×Value)}(r:KV kvs vs)(k:κ){y:V}{u:Value}(ry:RelV y u):
  KV (kvs.map fun kv=>if kv.1=k then(kv.1,y)else kv) (vs.map fun kv=>if kv.1=k then(kv.1,u)else kv):=by
 unfold KV at r ⊢;induction r with
 |nil=>exact .nil
 | @cons p q ps qs h t ih=>
  rw[List.map_cons,List.map_cons];refine .cons ?_ ih;obtain⟨h1,h2⟩:=h;by_cases e:p.1=k
  ·rw[if_pos e,if_pos (h1.symm.trans e)];exact⟨h1,ry⟩
  ·rw[if_neg e,if_neg (fun z=>e (h1.trans z))];exact⟨h1,h2⟩
theorem KV.put{kvs:List (κ×V)}{vs:List (κ×Value)}(r:KV kvs vs)(k:κ){y:V}{u:Value}(ry:RelV y u):KV (putK kvs k y) (stored vs k u):=by
 unfold putK stored;rw[r.any k];by_cases e:(vs.any fun kv=>decide (kv.1=k))=true
 ·rw[if_pos e,if_pos e];exact r.KH k ry
 ·rw[if_neg e,if_neg e];exact Paired.snoc r ⟨rfl,ry⟩
theorem KV.length{kvs:List (κ×V)}{vs:List (κ×Value)}(r:KV kvs vs):kvs.length=vs.length:=Paired.length r
end
theorem sI{P:Program}{w:World}{k:Key}{u:Value}(r:RelV (kV k) u):(bW P w).is k u=true:=by
 cases k with
 |inl i=>obtain⟨t,e⟩:=(show∃t,u=Value.int i t from r);subst e;exact xS P w i t
 |inr x=>obtain⟨t,e⟩:=(show∃t,u=Value.str x t from r);subst e;exact xR P w x t
theorem uT{P:Program}{w:World}:∀{ks:List Key}{us:List Value},Vals (ks.map kV) us->ItemsAre (bW P w) ks us
 |[],_,r=>by rw[List.map_nil]at r;cases r;exact .nil
 |k::ks,_,r=>by
  rw[List.map_cons]at r;cases r with
  |cons h t=>exact .cons (sI h) (uT t)
noncomputable abbrev KT(H:Hp):List (List Key×V)->List (List Key×Addr×Value)->Prop:=Paired fun p q=>p.1=q.1/\H q.2.1=some (.tup (p.1.map kV))/\RelV p.2 q.2.2
theorem KT.val{H:Hp}{kvs:List (List Key×V)}{xs:List (List Key×Addr×Value)}(r:KT H kvs xs)(k:List Key):mK (rA kvs k) ((atKey xs k).map (·.2)):=by
 induction r with
 |nil=>exact True.intro
 | @cons p q ps qs h t ih=>
  obtain⟨h1,_,h2⟩:=h;by_cases e:p.1=k
  ·have e':q.1=k:=h1.symm.trans e;have b:atKey (q::qs) k=some q.2:=by simp[atKey,List.find?_cons,e']
   rw[mQ e,b];exact h2
  ·have e':¬q.1=k:=fun z=>e (h1.trans z)
   have b:atKey (q::qs) k=atKey qs k:=by simp[atKey,List.find?_cons,e']
   rw[mR e,b];exact ih
theorem KT.KH{H:Hp}{kvs:List (List Key×V)}{xs:List (List Key×Addr×Value)}(r:KT H kvs xs)(k:List Key){y:V}{u:Value}(ry:RelV y u):
  KT H (kvs.map fun kv=>if kv.1=k then(kv.1,y)else kv) (xs.map (putAt k u)):=by
 induction r with
 |nil=>exact .nil
 | @cons p q ps qs h t ih=>
  rw[List.map_cons,List.map_cons];refine .cons ?_ ih;obtain⟨h1,h2,h3⟩:=h;unfold putAt;by_cases e:p.1=k
  ·rw[if_pos e,if_pos (h1.symm.trans e)];exact⟨h1,h2,ry⟩
  ·rw[if_neg e,if_neg (fun z=>e (h1.trans z))];exact⟨h1,h2,h3⟩
theorem KT.put{H:Hp}{kvs:List (List Key×V)}{xs:List (List Key×Addr×Value)}(r:KT H kvs xs)(k:List Key){b:Addr}{y:V}{u:Value}(hb:H b=some (.tup (k.map kV)))(ry:RelV y u):
  KT H (putK kvs k y) (storedH xs k b u):=by
 have e:(kvs.any fun kv=>decide (kv.1=k))=(atKey xs k).isSome:=by rw[wQ,(r.val k).iQ,Option.isSome_map]
 unfold putK storedH;rw[e];by_cases q:(atKey xs k).isSome=true
 ·rw[if_pos q,if_pos q];exact r.KH k ry
 ·rw[if_neg q,if_neg q];exact Paired.snoc r ⟨rfl,hb,ry⟩
theorem KT.keeps{H H':Hp}{kvs:List (List Key×V)}{xs:List (List Key×Addr×Value)}(r:KT H kvs xs)(ht:∀b ys,H b=some (.tup ys)->H' b=some (.tup ys)):KT H' kvs xs:=
 Paired.KR r fun _ _ z=>⟨z.1,ht _ _ z.2.1,z.2.2⟩
section
variable {P:Program}{w:World}{H:Hp}{h:Heap}{a:Addr}
theorem JS{u:HO}(ok:HOk P w H h)(e:Rd H a u):cW P w H h a u:=e.ok ok
theorem qK{kvs:List (Key×V)}(ok:HOk P w H h)(e:Rd H a (.dK kvs)):kvs.length<=sizeLine/\(a==sysModules)=false/\∃vs,KV kvs vs/\h.DictOf (bW P w) a vs:=
 show cW P w H h a (.dK kvs)from JS ok e
theorem QE{kvs:List (Key×V)}(ok:HOk P w H h)(e:H a=some (.dK kvs)):kvs.length<=sizeLine/\(a==sysModules)=false/\∃vs,KV kvs vs/\h.DictOf (bW P w) a vs:=qK ok (.inl e)
theorem k9{ks:List Key}(ok:HOk P w H h)(e:H a=some (.tup (ks.map kV))):(tupleKind (bW P w)).is h ks a:=by obtain⟨_,its,r,o,h1,h2,n,h3⟩:=(show cW P w H h a (.tup (ks.map kV))from ok a _ e);exact⟨o,its.toArray,n,h1,h2,h3,by simpa using uT r⟩
theorem kG{kvs:List (List Key×V)}(ok:HOk P w H h)(e:Rd H a (.dT kvs)):kvs.length<=sizeLine/\(a==sysModules)=false/\
  ∃xs,KT H kvs xs/\h.DictOfH (tupleKind (bW P w)) a xs:=by
 obtain⟨z,y,xs,r,o,es,ep,h1,h2,h3,h4,h5⟩:=(show cW P w H h a (.dT kvs)from JS ok e);refine⟨z,y,xs,r,o,es,ep,h1,h2,h3,h4,fun x hx=>?_,h5⟩;have all:∀{l:List (List Key×V)}{m:List (List Key×Addr×Value)},KT H l m->∀x∈m,(tupleKind (bW P w)).is h x.1 x.2.1:=by
  intro l m q;induction q with
  |nil=>intro x hx;exact nomatch hx
  | @cons p q ps qs hq t ih=>
   intro x hx;rcases List.mem_cons.mp hx with e|hx
   ·subst e;exact k9 ok (by rw[<- hq.1];exact hq.2.1)
   ·exact ih x hx
 exact all r x hx
theorem JY{kvs:List (List Key×V)}(ok:HOk P w H h)(e:H a=some (.dT kvs)):kvs.length<=sizeLine/\(a==sysModules)=false/\
  ∃xs,KT H kvs xs/\h.DictOfH (tupleKind (bW P w)) a xs:=kG ok (.inl e)
end
noncomputable def kY(H:Hp)(a:Addr)(y:V)(r:Option V):Prop:=
 (∃kvs k,Rd H a (.dK kvs)/\y=kV k/\r=rA kvs k)\/∃kvs k b,Rd H a (.dT kvs)/\y=.ref b/\H b=some (.tup (k.map kV))/\r=rA kvs k
noncomputable def JR(H:Hp)(a:Addr)(y v:V)(H':Hp):Prop:=
 (∃kvs k,H a=some (.dK kvs)/\y=kV k/\kvs.length<sizeLine/\H'=upd H a (.dK (putK kvs k v)))\/
 ∃kvs k b,H a=some (.dT kvs)/\y=.ref b/\H b=some (.tup (k.map kV))/\kvs.length<sizeLine/\H'=upd H a (.dT (putK kvs k v))
section
variable {X:Cx}{pins:List (Addr×Obj)}{σ:St}{H:Hp}{s:Shared}{a:Addr}{y v:V}{u r:Value}{o:Option V}{A:Around}{E:Value->Shared->Prop}
theorem Inv.big(I:Inv X pins σ H s):sysModules<s.heap.objs.size:=by have h:mainGlobals<s.heap.objs.size:=(I.mod.glob.keeps I.bk).lt;exact Nat.lt_trans (by decide) h
theorem E6{Q:Value->Shared->Prop}(hu:A.units+1<cLine)(I:Inv X pins σ H s)(g:kY H a y (some v))(ry:RelV y u)(h:∀w' s',Inv X pins σ H s'->RelV v w'->Q w' s'):
  wpAny (model X.prog X.w) A (getItem (.ref a) u) Q E s:=by
 rcases g with⟨kvs,k,e,ey,l⟩|⟨kvs,k,b,e,ey,eb,l⟩
 ·subst ey;obtain⟨z,hd,vs,rel,dd⟩:=qK I.hok e;obtain⟨w',hw,rw'⟩:=mK.some_of (v:=v) (o:=valueAt vs k) (by rw[l];exact rel.val k);exact wpAny_getItem_of (sI ry) dd.mapOf hw (h w' _ (I.tok _) rw')
 ·subst ey;cases (show u=Value.ref b from ry);obtain⟨z,hd,xs,rel,dd⟩:=kG I.hok e;obtain⟨w',hw,rw'⟩:=mK.some_of (v:=v) (o:=(atKey xs k).map (·.2)) (by rw[l];exact rel.val k);obtain⟨p,hp,hp2⟩:=Option.map_eq_some_iff.mp hw;refine wpAny_getItem_heap (tupleKind_room_in1 hu) (k9 I.hok eb) dd hp ?_;rw[hp2];exact h w' _ (I.tok _) rw'
theorem UU{Q:Value->Shared->Prop}(hu:A.units+1<cLine)(I:Inv X pins σ H s)(g:kY H a y o)(ry:RelV y u)(h:∀s',Inv X pins σ H s'->Q (.bool o.isSome) s'):
  wpAny (model X.prog X.w) A (compareOp .In u (.ref a)) Q E s:=by
 rcases g with⟨kvs,k,e,ey,l⟩|⟨kvs,k,b,e,ey,eb,l⟩
 ·subst ey;obtain⟨z,hd,vs,rel,dd⟩:=qK I.hok e;refine wpAny_in_of (sI ry) hd dd.mapOf ?_;rw[<- (rel.val k).iQ,<- l];exact h _ (I.tok _)
 ·subst ey;cases (show u=Value.ref b from ry);obtain⟨z,hd,xs,rel,dd⟩:=kG I.hok e;refine wpAny_in_heap (tupleKind_room_in1 hu) (k9 I.hok eb) hd dd ?_;have q:=(rel.val k).iQ;rw[Option.isSome_map]at q;rw[<- q,<- l];exact h _ (I.tok _)
theorem JG{Q:Value->Shared->Prop}(hu:A.units+1<cLine)(I:Inv X pins σ H s)(g:kY H a y o)(ry:RelV y u)(h:∀s',Inv X pins σ H s'->Q (.bool (!o.isSome)) s'):
  wpAny (model X.prog X.w) A (compareOp .NotIn u (.ref a)) Q E s:=by
 rcases g with⟨kvs,k,e,ey,l⟩|⟨kvs,k,b,e,ey,eb,l⟩
 ·subst ey;obtain⟨z,hd,vs,rel,dd⟩:=qK I.hok e;refine wpAny_notIn_of (sI ry) hd dd.mapOf ?_;rw[<- (rel.val k).iQ,<- l];exact h _ (I.tok _)
 ·subst ey;cases (show u=Value.ref b from ry);obtain⟨z,hd,xs,rel,dd⟩:=kG I.hok e;refine wpAny_notIn_heap (tupleKind_room_in1 hu) (k9 I.hok eb) hd dd ?_;have q:=(rel.val k).iQ;rw[Option.isSome_map]at q;rw[<- q,<- l];exact h _ (I.tok _)
theorem wJ{h':Heap}{t':Nat}{ob:HO}(I:Inv X pins σ H s)(mu:Mut (H a))(hs:Heap.SameBut a s.heap h')(he:∃q,h'.get? a=some q)(new:cW X.prog X.w (upd H a ob) h' a ob):
  Inv X pins σ (upd H a ob) {s with heap:=h',toks:=t'}:=
 I.write (x:=a) (e:=a) mu (.inl rfl) (fun b q hb z=>(hs.2 b hb).trans z) he new
theorem LH{P:Program}{w:World}{H':Hp}{h':Heap}{kvs:List (Key×V)}{vs:List (Key×Value)}(z:kvs.length<=sizeLine)(hd:(a==sysModules)=false)(rel:KV kvs vs)(dd:h'.DictOf (bW P w) a vs):
  cW P w H' h' a (.dK kvs):=⟨z,hd,vs,rel,dd⟩
theorem E5{H':Hp}{Q:Unit->Shared->Prop}(hu:A.units+1<cLine)(I:Inv X pins σ H s)(g:JR H a y v H')(ry:RelV y u)(rv:RelV v r)(h:∀s',Inv X pins σ H' s'->Q () s'):
  wpAny (model X.prog X.w) A (setItem (.ref a) u r) Q E s:=by
 rcases g with⟨kvs,k,e,ey,l,eH⟩|⟨kvs,k,b,e,ey,eb,l,eH⟩
 ·subst ey eH;obtain⟨z,hd,vs,rel,dd⟩:=QE I.hok e;have hz:vs.length<=sizeLine:=by rw[<- rel.length];exact z
  have hl:(putK kvs k v).length<=sizeLine:=by have:=k7 kvs k v;omega
  refine wpAny_setItem_pairs (hsz:=hz) (sI ry) dd fun h' dd' hs=>h _ ?_
  have he:∃q,h'.get? a=some q:=let⟨q,_,_,hq,_⟩:=dd';⟨q,hq⟩
  exact wJ I (by rw[e];exact True.intro) hs he (LH hl hd (rel.put k rv) dd')
 ·subst ey eH;cases (show u=Value.ref b from ry);obtain⟨z,hd,xs,rel,dd⟩:=JY I.hok e;have hz:xs.length<=sizeLine:=by rw[<- Paired.length rel];exact z
  have hl:(putK kvs k v).length<=sizeLine:=by have:=k7 kvs k v;omega
  refine wpAny_setItem_heap (hsz:=hz) (tupleKind_room_in1 hu) (k9 I.hok eb) dd fun h' dd' hs=>h _ ?_
  obtain⟨q,es,ep,hq,h2,h3,h4,_,h5⟩:=dd';refine wJ I (by rw[e];exact True.intro) hs ⟨q,hq⟩ ⟨hl,hd,_,(rel.put k eb rv).keeps fun c ys ec=>?_,q,es,ep,hq,h2,h3,h4,h5⟩;rw[aA (eT ec e (fun z=>nomatch z))];exact ec
end
noncomputable def QK(i:Expr):Prop:=∀ov iv,subscripted i false ov iv=operate [ov,iv] (getItem ov iv)
theorem HS{prog:Program}{w:World}{A:Around}{E:Value->Shared->Prop}{s:Shared}{env:Env}{value slice:Expr}{pos:Pos}{T id:String}{Q:Value->Shared->Prop}
  (hl:typeLookup (.type T) "__getitem__" =pure (some (.builtin id))) (hs:QK slice)
  (h:wpAny (model prog w) A (eval value env) (fun o s₁=>wpAny (model prog w) A (eval slice env) (fun i s₂=>s₂.TypeIs o T/\wpAny (model prog w) A (getItem o i) Q E s₂) E s₁) E s):
  wpAny (model prog w) A (eval (.Subscript value slice pos) env) Q E s:=by
 refine Subscript_ (wpAny_mono h (fun o s₁ h₁=>wpAny_mono h₁ (fun i s₂ h₂=>?_) fun _ _ x=>x) fun _ _ x=>x);obtain⟨hT,h₂⟩:=h₂;unfold subscriptTail;refine wpAny_bind ?_;rw[getitemInPython_of_ne hT.not_modules];refine wpAny_bind (wpAny_specialOf hT hl ?_);have fin:wpAny (model prog w) A (subscripted slice false o i) (fun r s₃=>wpAny (model prog w) A (letTemporaryGo value o r>>=fun _=>pure r) Q E s₃) E s₂:=by rw[hs o i];exact wpAny_operating (wpAny_mono h₂ (fun r s₃ h₃=>wpAny_bind (wpAny_letTemporaryGo (wpAny_pure h₃))) fun _ _ x=>x)
 first
  |exact wpAny_pure (wpAny_bind fin)
  |exact wpAny_bind (wpAny_pure (wpAny_bind fin))
  |exact wpAny_bind fin
theorem yZ{X:Cx}{pins:List (Addr×Obj)}{σ:St}{H:Hp}{s:Shared}{a:Addr}{y:V}{o:Option V}(I:Inv X pins σ H s)(g:kY H a y o):s.TypeIs (.ref a) "dict" :=by
 rcases g with⟨kvs,k,e,_,_⟩|⟨kvs,k,b,e,_,_,_⟩
 ·obtain⟨_,_,vs,_,dd⟩:=qK I.hok e;exact dd.typeIs
 ·obtain⟨_,_,xs,_,dd⟩:=kG I.hok e;exact dd.typeIs
noncomputable def MB(td ty:TE):TE:=fun σ H Q=>td σ H fun x H1=>ty σ H1 fun y H2=>∃a v,x=.ref a/\kY H2 a y (some v)/\Q v H2
noncomputable def QT(ty td:TE):TE:=fun σ H Q=>ty σ H fun y H1=>td σ H1 fun x H2=>∃a o,x=.ref a/\kY H2 a y o/\Q (.bl o.isSome) H2
noncomputable def HR(ty td:TE):TE:=fun σ H Q=>ty σ H fun y H1=>td σ H1 fun x H2=>∃a o,x=.ref a/\kY H2 a y o/\Q (.bl (!o.isSome)) H2
noncomputable def MG(td ty tv:TE):TS:=fun D σ H=>tv σ H fun v H1=>td σ H1 fun x H2=>ty σ H2 fun y H3=>∃a H4,x=.ref a/\JR H3 a y v H4/\D.nx σ H4
section
variable {X:Cx}{o i e value:Expr}{pos pos' tpos:Pos}{td ty tv:TE}
theorem gU(hu:X.A.units+1<cLine)(ho:PE X o td)(hi:PE X i ty)(hs:QK i):PE X (.Subscript o i pos) (MB td ty):=by intro pins s σ H Q I h;refine HS PySem.F.slot_dict_getitem.lookup hs (thn (ho pins s σ H _ I h) fun u s1 ⟨x,H1,I1,rx,q1⟩=>thn (hi pins s1 σ H1 _ I1 q1) fun iv s2 ⟨y,H2,I2,ry,a,v,ex,g,q2⟩=>?_);subst ex;obtain rfl:u=Value.ref a:=rx;exact⟨yZ I2 g,E6 hu I2 g ry fun w' s3 I3 rw'=>⟨v,H2,I3,rw',q2⟩⟩
theorem zY(hu:X.A.units+1<cLine)(hi:PE X i ty)(ho:PE X o td):PC X .In i o (QT ty td):=by
 intro pins s σ H Q I h;refine thn (hi pins s σ H _ I h) fun iv s1 ⟨y,H1,I1,ry,q1⟩=>thn (ho pins s1 σ H1 _ I1 q1) fun u s2 ⟨x,H2,I2,rx,a,ov,ex,g,q2⟩=>?_
 subst ex;obtain rfl:u=Value.ref a:=rx;exact UU hu I2 g ry fun s3 I3=>⟨.bl ov.isSome,H2,I3,rfl,q2⟩
theorem cH(hu:X.A.units+1<cLine)(hi:PE X i ty)(ho:PE X o td):PC X .NotIn i o (HR ty td):=by
 intro pins s σ H Q I h;refine thn (hi pins s σ H _ I h) fun iv s1 ⟨y,H1,I1,ry,q1⟩=>thn (ho pins s1 σ H1 _ I1 q1) fun u s2 ⟨x,H2,I2,rx,a,ov,ex,g,q2⟩=>?_
 subst ex;obtain rfl:u=Value.ref a:=rx;exact JG hu I2 g ry fun s3 I3=>⟨.bl (!ov.isSome),H2,I3,rfl,q2⟩
theorem g8(hu:X.A.units+1<cLine)(ho:PE X o td)(hi:PE X i ty)(hv:PE X value tv)(hs:swapsWith value (some (.Subscript o i pos')) pos.line X.env=pure false):
  PS X (.Assign [.Subscript o i pos'] value pos) (MG td ty tv):=by
 intro pins s σ H D I h;refine wpAny_Assign_Subscript (thn (hv pins s σ H _ I h) fun r s1 ⟨v,H1,I1,rv,q1⟩=>thn (ho pins s1 σ H1 _ I1 q1) fun u s2 ⟨x,H2,I2,rx,q2⟩=>thn (hi pins s2 σ H2 _ I2 q2) fun iv s3 ⟨y,H3,I3,ry,a,H4,ex,g,q3⟩=>?_) hs;subst ex;obtain rfl:u=Value.ref a:=rx;exact E5 hu I3 g ry rv fun s4 I4=>⟨σ,H4,I4,q3⟩
end
theorem GQ{P:Program}{w:World}{H:Hp}(h:Heap)(hb:sysModules<h.objs.size):cW P w H (h.push {cls:=.type "dict",data:=.dict #[]}) h.objs.size (.dT []):=
 ⟨Nat.zero_le _,beq_eq_false_iff_ne.mpr (Ne.symm (Nat.ne_of_lt hb)),[],.nil,_,#[],0,Heap.get?_push_size _ rfl,⟨rfl,rfl,rfl⟩,rfl,rfl,List.nodup_nil⟩
def K8:TE:=fun _ H Q=>∀p,H p=none->Q (.ref p) (upd H p (.dT []))
section
variable {X:Cx}{pos:Pos}
theorem eQ:PE X (.Dict [] [] pos) K8:=fun pins s σ H Q I h=>
 wpAny_Dict_empty ⟨.ref s.heap.objs.size,_,I.laid (a:=s.heap.objs.size) (o:=.dT []) (t':=s.toks) (fun _ _ q=>Heap.get?_push_of_some _ q) (Nat.le_refl _) (GQ s.heap I.big),rfl,h _ (I.hok.fresh (Nat.le_refl _))⟩
end
structure M1(X:Cx)(o:Expr)(m:Str)(apos:Pos)(e:Expr)(cpos:Pos):Prop where
 base:attributeBase o m X.env (eval o X.env)=eval o X.env
 few:((backTo cpos (starEach [e] X.env)).all (fun x=>!x.1)&& (backToKw cpos (keywordEach [] X.env)).all (fun x=>x.1.isSome)
  && decide (([e]:List Expr).length+([]:List Keyword).length+(if([]:List Keyword).isEmpty then 0 else 1)<30))=true
 line:(apos.endLine==cpos.line)=true
 trees:backTo cpos (starEach [e] X.env)=[(false,eval e X.env)]
structure M2(X:Cx)(o:Expr)(m:Str)(apos:Pos)(e f:Expr)(cpos:Pos):Prop where
 base:attributeBase o m X.env (eval o X.env)=eval o X.env
 few:((backTo cpos (starEach [e,f] X.env)).all (fun x=>!x.1)&& (backToKw cpos (keywordEach [] X.env)).all (fun x=>x.1.isSome)
  && decide (([e,f]:List Expr).length+([]:List Keyword).length+(if([]:List Keyword).isEmpty then 0 else 1)<30))=true
 line:(apos.endLine==cpos.line)=true
 trees:backTo cpos (starEach [e,f] X.env)=[(false,eval e X.env),(false,eval f X.env)]
def IsD(H:Hp)(a:Addr):Prop:=(∃kvs,Rd H a (.dK kvs))\/∃kvs,Rd H a (.dT kvs)
theorem G8{X:Cx}{pins:List (Addr×Obj)}{σ:St}{H:Hp}{s:Shared}{a:Addr}(I:Inv X pins σ H s)(d:IsD H a):
  s.TypeIs (.ref a) "dict" /\(∀b,Value.ref a=.ref b->∃ob,s.heap.get? b=some ob/\ob.dict=none)/\(a==sysModules)=false:=by
 rcases d with⟨kvs,e⟩|⟨kvs,e⟩
 ·obtain⟨_,hd,vs,_,dd⟩:=qK I.hok e;refine⟨dd.typeIs,fun b q=>?_,hd⟩;cases q;obtain⟨ob,_,_,h1,h2,_⟩:=dd;exact⟨ob,h1,h2.2.1⟩
 ·obtain⟨_,hd,xs,_,dd⟩:=kG I.hok e;refine⟨dd.typeIs,fun b q=>?_,hd⟩;cases q;obtain⟨ob,_,_,h1,h2,_⟩:=dd;exact⟨ob,h1,h2.2.1⟩
section
variable {X:Cx}{pins:List (Addr×Obj)}{σ:St}{H:Hp}{s:Shared}{a:Addr}{y d:V}{u r:Value}{o:Option V}{A:Around}{E:Value->Shared->Prop}
theorem LK{Q:Value->Shared->Prop}(hu:A.units+1<cLine)(I:Inv X pins σ H s)(g:kY H a y o)(ry:RelV y u)(h:∀w' s',Inv X pins σ H s'->RelV (o.getD .non) w'->Q w' s'):
  wpAny (model X.prog X.w) A (call (.builtin "dict.get") [.ref a,u]) Q E s:=by
 rcases g with⟨kvs,k,e,ey,l⟩|⟨kvs,k,b,e,ey,eb,l⟩
 ·subst ey;obtain⟨z,hd,vs,rel,dd⟩:=qK I.hok e;refine call_meetsIn PySem.F.slot_dict_get dd.typeIs PySem.F.entry_dict_get (PySem.F.args_dict_get_2 _ _) (meets_dict_get (bW X.prog X.w) a (sI ry) hd) ⟨_,dd.mapOf,h _ _ (I.tok _) ?_⟩;rw[l];exact(rel.val k).getD rfl
 ·subst ey;cases (show u=Value.ref b from ry);obtain⟨z,hd,xs,rel,dd⟩:=kG I.hok e;refine call_meetsIn PySem.F.slot_dict_get dd.typeIs PySem.F.entry_dict_get (PySem.F.args_dict_get_2 _ _) (meetsH_dict_get (tupleKind (bW X.prog X.w)) a b hd) ⟨tupleKind_room_in1 hu,k,xs,k9 I.hok eb,dd,h _ _ (I.tok _) ?_⟩;rw[l];exact(rel.val k).getD rfl
theorem LJ{Q:Value->Shared->Prop}(hu:A.units+1<cLine)(I:Inv X pins σ H s)(g:kY H a y o)(ry:RelV y u)(rd:RelV d r)(h:∀w' s',Inv X pins σ H s'->RelV (o.getD d) w'->Q w' s'):
  wpAny (model X.prog X.w) A (call (.builtin "dict.get") [.ref a,u,r]) Q E s:=by
 rcases g with⟨kvs,k,e,ey,l⟩|⟨kvs,k,b,e,ey,eb,l⟩
 ·subst ey;obtain⟨z,hd,vs,rel,dd⟩:=qK I.hok e;refine call_meetsIn PySem.F.slot_dict_get dd.typeIs PySem.F.entry_dict_get (PySem.F.args_dict_get_3 _ _ _) (meets_dict_get_default (bW X.prog X.w) a (sI ry) hd r) ⟨_,dd.mapOf,h _ _ (I.tok _) ?_⟩;rw[l];exact(rel.val k).getD rd
 ·subst ey;cases (show u=Value.ref b from ry);obtain⟨z,hd,xs,rel,dd⟩:=kG I.hok e;refine call_meetsIn PySem.F.slot_dict_get dd.typeIs PySem.F.entry_dict_get (PySem.F.args_dict_get_3 _ _ _) (meetsH_dict_get_default (tupleKind (bW X.prog X.w)) a b hd r) ⟨tupleKind_room_in1 hu,k,xs,k9 I.hok eb,dd,h _ _ (I.tok _) ?_⟩;rw[l];exact(rel.val k).getD rd
end
noncomputable def KA(td ty:TE):TE:=fun σ H Q=>td σ H fun x H1=>∃a,x=.ref a/\IsD H1 a/\ty σ H1 fun y H2=>∃o,kY H2 a y o/\Q (o.getD .non) H2
noncomputable def K9(td ty tx:TE):TE:=fun σ H Q=>td σ H fun x H1=>∃a,x=.ref a/\IsD H1 a/\ty σ H1 fun y H2=>tx σ H2 fun z H3=>∃o,kY H3 a y o/\Q (o.getD z) H3
section
variable {X:Cx}{o e f:Expr}{apos cpos:Pos}{td ty tx:TE}
theorem FL(hu:X.A.units+1<cLine)(ho:PE X o td)(he:PE X e ty)(m:M1 X o "get" apos e cpos):PE X (.Call (.Attribute o "get" apos) [e] [] cpos) (KA td ty):=by intro pins s σ H Q I h;refine wpAny_Call_method m.base m.few m.line PySem.F.plainAttrs_dict PySem.F.slot_dict_get PySem.F.type_dict_get (thn (ho pins s σ H _ I h) fun u s1 ⟨x,H1,I1,rx,a,ex,d,q1⟩=>?_);subst ex;obtain rfl:u=Value.ref a:=rx;obtain⟨t1,t2,_⟩:=G8 I1 d;refine⟨t1,t2,?_⟩;rw[m.trees];refine Calls.callWith_builtin rfl (Calls.evalArgs_plain (Calls.spliced_cons (thn (he pins s1 σ H1 _ I1 q1) fun iv s2 ⟨y,H2,I2,ry,ov,g,q2⟩=>Calls.spliced_nil ?_)));exact LK hu I2 g ry fun w' s3 I3 rw'=>⟨_,H2,I3,rw',q2⟩
theorem FK(hu:X.A.units+1<cLine)(ho:PE X o td)(he:PE X e ty)(hf:PE X f tx)(m:M2 X o "get" apos e f cpos):PE X (.Call (.Attribute o "get" apos) [e,f] [] cpos) (K9 td ty tx):=by
 intro pins s σ H Q I h;refine wpAny_Call_method m.base m.few m.line PySem.F.plainAttrs_dict PySem.F.slot_dict_get PySem.F.type_dict_get (thn (ho pins s σ H _ I h) fun u s1 ⟨x,H1,I1,rx,a,ex,d,q1⟩=>?_);subst ex;obtain rfl:u=Value.ref a:=rx;obtain⟨t1,t2,_⟩:=G8 I1 d;refine⟨t1,t2,?_⟩;rw[m.trees];refine Calls.callWith_builtin rfl (Calls.evalArgs_plain (Calls.spliced_cons (thn (he pins s1 σ H1 _ I1 q1) fun iv s2 ⟨y,H2,I2,ry,q2⟩=>
  Calls.spliced_cons (thn (hf pins s2 σ H2 _ I2 q2) fun fv s3 ⟨z,H3,I3,rz,ov,g,q3⟩=>Calls.spliced_nil ?_))))
 exact LJ hu I3 g ry rz fun w' s4 I4 rw'=>⟨_,H3,I4,rw',q3⟩
end
end L2
namespace L2
open PySem PySem.Spec PyProof.Rows
theorem sF:typeLookup (.type "list") "keys" =pure none:=am_miss_of_fast (by first|decide+kernel|rfl)
theorem wR:entryFor table "dict.update.loop" =some Builtin.«dict.update.loop» :=entryFor_of_tree (by kernel_rfl)
theorem jS:plainId "dict.update.loop" =true:=by decide+kernel
section
variable {prog:Program}{w:World}{A:Around}{E:Value->Shared->Prop}
theorem DA{s:Shared}{a:Addr}{o:Obj}{xs:Array Value}{k:Nat}{Q:Option Value->Shared->Prop}(hx:s.heap.get? a=some o)(hc:o.cls=.type "list")(hdat:o.data=.seq xs k)(hd:o.dict=none)(hA:A.handled=none)
  (h:∀h' tk,(∀b ob,s.heap.get? b=some ob->h'.get? b=some ob)->Q none {s with heap:=h',toks:=tk}):wpAny (model prog w) A (getAttr? (.ref a) "keys") Q E s:=by
 obtain⟨c,dct,dat,sl⟩:=o;simp only at hc hdat hd;subst hc hdat hd;obtain⟨hp,g,d,tk,os⟩:=s;have hT:∀tk',(⟨hp,g,d,tk',os⟩:Shared).TypeIs (.ref a) "list" :=fun _=>⟨_,hx,rfl⟩
 have hmiss:=sF;have hname:(["__module__","__name__","__qualname__","__doc__","__annotations__"]:List Str).contains "keys" =false:=by decide+kernel
 have hsz:("keys" : Str).length+100<=sizeLine:=by first|size_fits|decide+kernel
 have f1:=sub_AttributeError;have f3:=PySem.F.slot_list_getattribute.lookup;have f4:=PySem.F.slot_list_getattribute.bind (.ref a);have f5:=am_list_getattr_none;unfold getAttr? getAttrBy? getAttrBy
 repeat (any_goals (first|assumption|exact hT _|((with_reducible show wpAny _ _ (call (Value.builtin "list.__getattribute__") _ _) _ _ _);refine call_meets PySem.F.slot_list_getattribute (hT _) am_entry_list_getattribute (PySem.F.args_list_getattribute_2 _ _) (meets_getattribute_miss_list a xs k sl "keys" _ hmiss hname hsz) ⟨hx,hA,fun h' tk' e hx'=>?_⟩)|wp_step))
 obtain⟨t',u',he⟩:=hx'.there;show wpAny _ _ (getattributeRaised _ _ _ _ _ _ _) _ _ _
 unfold getattributeRaised
 repeat (any_goals (first|assumption|wp_step))
 all_goals first|exact h _ _ hx'.keeps|(dsimp only;repeat (any_goals (first|assumption|exact h _ _ hx'.keeps|wp_step)))
end
section
variable {X:Cx}
theorem iZ:∀{ps:List Addr}{us:List Value},Vals (ps.map V.ref) us->us=ps.map Value.ref
 |[],us,r=>by rw[List.map_nil]at r;cases r;rfl
 |p::ps,us,r=>by
  rw[List.map_cons]at r;cases r with
  |cons h t=>cases h;rw[List.map_cons,<- iZ t]
end
end L2
namespace L2
open PySem PySem.Spec PyProof.Rows
section
variable {X:Cx}{pins:List (Addr×Obj)}{σ:St}{H:Hp}{s:Shared}{h':Heap}
theorem Inv.u7{t':Nat}{ch:List Addr}{T:Addr}{ob:HO}(I:Inv X pins σ H s)(k:∀b o,b∉ch->s.heap.get? b=some o->h'.get? b=some o)(hf:∀b∈ch,mM X pins H b)(hT:s.heap.objs.size<=T)
  (new:cW X.prog X.w (upd H T ob) h' T ob):Inv X pins σ (upd H T ob) {s with heap:=h',toks:=t'}:=by
 have hn:H T=none:=I.hok.fresh hT;have nit:∀b u,H b=some u->b∉ch:=fun b u e z=>by have q:=(hf b z).1;rw[q]at e;cases e
 refine I.step (g':=s.gens) (d':=s.drawn) (ch:=ch) (fun b hb=>⟨(hf b hb).2.2.2.1,(hf b hb).2.1,(hf b hb).2.2.2.2.1,(hf b hb).2.2.2.2.2⟩) (fun b o _ _ hc e _=>k b o hc e) (fun b o _ _ hc e _=>⟨o.slots,k b o hc e⟩)
  (fun b o _ e n=>?_) (fun b o hc e=>⟨o,k b o hc e⟩) (fun b xs e=>?_) (fun b o u e=>?_) (fun b ps e=>⟨#[],?_⟩) (fun m hm=>?_) (fun b u e=>?_) I.bare
 ·rw[aA (Nat.ne_of_lt (Nat.lt_of_lt_of_le (Heap.lt_size e) hT))];exact n
 ·rw[aA (aG e hn)];exact e
 ·rw[aA (aG e hn)];exact e
 ·rw[aA (aG e hn),e];simp
 ·obtain⟨o,es,ep,ho,r⟩:=hm;exact⟨o,es,ep,k _ o (fun z=>(hf _ z).2.1 rfl) ho,r⟩
 ·by_cases hb:b=T
  ·subst hb;rw[a7]at e;cases e;exact new
  ·rw[aA hb]at e;refine(I.hok b u e).mT (fun c v hc q=>k c v ?_ q) (fun c q=>by rw[aA (aG q hn)];exact q) fun c xs q=>by rw[aA (aG q hn)];exact q
   rcases hc with z|z
   ·rw[z];exact nit b u e
   ·exact nit c _ z
theorem Inv.lock{d:Addr}{u:HO}(I:Inv X pins σ H s)(h:H d=some u)(mu:Mut (some u)):∃od,Inv X pins σ (upd H d (.frz od u)) s:=by
 have x:=I.hok d u h;have ex:∃od,s.heap.get? d=some od:=by
  cases u with
  |lst xs=>obtain⟨_,_,_,_,e⟩:=x;exact⟨_,e⟩
  |dK kvs=>obtain⟨_,_,_,_,o,_,_,e,_⟩:=x;exact⟨o,e⟩
  |dT kvs=>obtain⟨_,_,_,_,o,_,_,e,_⟩:=x;exact⟨o,e⟩
  |set S n=>obtain⟨o,_,_,_,e,_⟩:=x;exact⟨o,e⟩
  |ins C dx fs=>obtain⟨_,_,_,e,_⟩:=x;exact⟨_,e⟩
  |ext φ=>obtain⟨_,⟨_,e⟩,_⟩:=x;exact⟨_,e⟩
  |_=>exact False.elim mu
 obtain⟨od,e⟩:=ex;have new:cW X.prog X.w (upd H d (.frz od u)) s.heap d (.frz od u):=by
  refine⟨e,x.mT (fun b v _ q=>q) (fun b q=>?_) fun b xs q=>?_⟩
  ·rw[aA (fun z=>by rw[z,h]at q;cases q;exact mu)];exact q
  ·rw[aA (fun z=>by rw[z,h]at q;cases q;exact mu)];exact q
 exact⟨od,I.write (x:=d) (e:=d) (t':=s.toks) (h':=s.heap) (by rw[h];exact mu) (.inl rfl) (fun b v _ q=>q) ⟨od,e⟩ new⟩
theorem Inv.uQ{d:Addr}{u:HO}(I:Inv X pins σ H s)(h:H d=some u)(mu:Mut (some u)):∀o' u',X.H_0 d≠some (.frz o' u'):=fun o' u' e=>by have q:=I.base.nO d o' u' e;rw[h]at q;cases q;exact mu
theorem Inv.unlock{d:Addr}{od:Obj}{u:HO}(I:Inv X pins σ H s)(h:H d=some (.frz od u))(hn:∀o' u',X.H_0 d≠some (.frz o' u')):Inv X pins σ (upd H d u) s:=by
 have neH:∀b o,H b=some o->(∀o' u',o≠ .frz o' u')->b≠d:=fun b o e hne z=>by rw[z,h]at e;cases e;exact hne _ _ rfl
 have neN:∀b,H b=none->b≠d:=fun b e z=>by rw[z,h]at e;cases e
 refine⟨I.ok,I.os,I.bare,⟨I.base.keep,I.base.slot,fun b o e n hx=>?_,I.base.there,fun b xs e=>?_,fun b o x e=>?_,fun b ps e=>?_⟩,I.loc,I.cell,?_,fun x c e=>?_,fun p hp=>?_,fun b o e=>?_,I.len⟩
 ·rw[aA (neN b (I.base.free b o e n hx))];exact I.base.free b o e n hx
 ·have q:=I.base.tH b xs e;rw[aA (neH b _ q (fun _ _ z=>nomatch z))];exact q
 ·have q:=I.base.nO b o x e;rw[aA (fun z=>by rw[z]at e;exact hn _ _ e)];exact q
 ·obtain⟨m,q⟩:=I.base.rC b ps e;exact⟨m,by rw[aA (neH b _ q (fun _ _ z=>nomatch z))];exact q⟩
 ·rw[aA (neN _ I.free)];exact I.free
 ·rw[aA (neN c (I.gW x c e))];exact I.gW x c e
 ·obtain⟨e,n,r⟩:=I.pin p hp;exact⟨e,by rw[aA (neN _ n)];exact n,r⟩
 ·by_cases hb:b=d
  ·rw[hb,a7]at e;cases e;rw[hb];obtain⟨_,x⟩:=I.hok d _ h;exact x.mT (fun c v _ q=>q) (fun c q=>by rw[aA (neH c _ q (fun _ _ z=>nomatch z))];exact q) fun c xs q=>by rw[aA (neH c _ q (fun _ _ z=>nomatch z))];exact q
  ·rw[aA hb]at e;exact(I.hok b o e).mT (fun c v _ q=>q) (fun c q=>by rw[aA (neH c _ q (fun _ _ z=>nomatch z))];exact q) fun c xs q=>by rw[aA (neH c _ q (fun _ _ z=>nomatch z))];exact q
end
noncomputable def M8(t:TS):TS:=fun D σ H=>∃d u,H d=some u/\Mut (some u)/\∀od,t ⟨fun σ' H'=>H' d=some (.frz od u)/\D.nx σ' (upd H' d u),fun v H'=>H' d=some (.frz od u)/\D.rt v (upd H' d u),fun σ' H'=>H' d=some (.frz od u)/\D.bk σ' (upd H' d u),fun σ' H'=>H' d=some (.frz od u)/\D.ct σ' (upd H' d u)⟩ σ (upd H d (.frz od u))
noncomputable def K7(t:TE):TE:=fun σ H Q=>∃d u,H d=some u/\Mut (some u)/\∀od,t σ (upd H d (.frz od u)) fun v H'=>H' d=some (.frz od u)/\Q v (upd H' d u)
section
variable {X:Cx}
theorem j1{st:Stmt}{t:TS}(h:PS X st t):PS X st (M8 t):=by
 intro pins s σ H D I hw;obtain⟨d,u,hd,mu,hw⟩:=hw;obtain⟨od,I1⟩:=I.lock hd mu;refine thn (h pins s σ _ _ I1 (hw od)) fun f s1 q=>?_
 cases f with
 |next=>obtain⟨σ',H',I2,e,q⟩:=q;exact⟨σ',_,I2.unlock e (I.uQ hd mu),q⟩
 |brk=>obtain⟨σ',H',I2,e,q⟩:=q;exact⟨σ',_,I2.unlock e (I.uQ hd mu),q⟩
 |cont=>obtain⟨σ',H',I2,e,q⟩:=q;exact⟨σ',_,I2.unlock e (I.uQ hd mu),q⟩
 |ret v=>obtain⟨x,σ',H',I2,r,e,q⟩:=q;exact⟨x,σ',_,I2.unlock e (I.uQ hd mu),r,q⟩
theorem ID{e:Expr}{t:TE}(h:PE X e t):PE X e (K7 t):=by
 intro pins s σ H Q I hw;obtain⟨d,u,hd,mu,hw⟩:=hw;obtain⟨od,I1⟩:=I.lock hd mu;refine thn (h pins s σ _ _ I1 (hw od)) fun v s1 ⟨x,H1,I2,r,e2,q⟩=>?_
 exact⟨x,_,I2.unlock e2 (I.uQ hd mu),r,q⟩
theorem zW{tg:Expr}{pins:List (Addr×Obj)}{σ:St}{H:Hp}{s:Shared}{R:It->Hp->Prop}{J:It}{tn:Nat->Heap->Prop}{tk:Nat}(I:Inv X pins σ H s)(o:Obj)
  (T:Turn X.prog X.w X.K tg J [s.heap.objs.size] s.heap.objs.size tn) (st:tn 0 (s.heap.push o)) (q:R J H):PIE X pins σ tg R (.ref s.heap.objs.size) {s with heap:=s.heap.push o,toks:=tk}:=by
 refine⟨s.heap.objs.size,[s.heap.objs.size],tn,J,H,rfl,I.kept fun b ob e=>Heap.get?_push_of_some _ e,T,st,fun b hb=>?_,q⟩;have e:b=s.heap.objs.size:=by simpa using hb
 subst e;exact I.AZ (Nat.le_refl _) (I.hok.fresh (Nat.le_refl _))
end
section
variable {prog:Program}{w:World}{A:Around}{E:Value->Shared->Prop}{s:Shared}
theorem pA{d:Addr}{o:Obj}{es:Array DictEntry}{ep:Nat}{Q:Value->Shared->Prop}(hd:(d==sysModules)=false)(ho:s.heap.get? d=some o)(hc:o.ExactDict)(hdat:o.data=.dict es ep)
  (hQ:Q (.ref s.heap.objs.size) {s with heap:=s.heap.push {cls:=.type "dict_keyiterator",data:=.fields #[.ref d,.int 0 0,.int es.size 0,.int ep 0]}}):
  wpAny (model prog w) A (pyIter (.ref d)) Q E s:=by
 have hT:s.TypeIs (.ref d) "dict" :=⟨o,ho,hc.1⟩;refine wpAny_pyIter_slot hT F.slot_dict_iter (wpAny_call_entry F.slot_dict_iter hT F.entry_dict_iter ?_ (F.args_dict_iter_1 _));unfold Builtin.«dict.__iter__»;refine wpAny_bind ?_;unfold Builtin.Dict.dictSlotNone;refine wpAny_bind (wpAny_notOrdered_dict hT ?_);show wpAny _ _ (pure (Value.ref d)) _ _ s
 refine wpAny_pure ?_;show wpAny _ _ (Builtin.Dict.showsAll d>>= _) _ _ s
 unfold Builtin.Dict.showsAll;rw[if_neg (by rw[hd];exact Bool.false_ne_true)];refine wpAny_bind (wpAny_pure ?_);refine wpAny_bind (wpAny_dictEntries ho hdat ?_);refine wpAny_bind (wpAny_dictEpoch ho hdat ?_);refine wpAny_bind (wpAny_newObj_type (wpAny_pure ⟨_,rfl,"dict_keyiterator",_,⟨_,Heap.get?_push_size _ rfl,rfl⟩,F.slot_dict_keyiterator_next.lookup,?_⟩));simpa[rawInt]using hQ
theorem lS{it d:Addr}{i n ep:Nat}{od:Obj}{es:Array DictEntry}{en:DictEntry}{Q:Option Value->Shared->Prop}(hit:s.heap.IsKeyIter it d i n ep)(hod:s.heap.get? d=some od)(hdd:od.data=.dict es ep)
  (hsz:es.size=n) (hx:es[i]? =some en) (hQ:∀h',h'.IsKeyIter it d (i+1) n ep->Heap.SameBut it s.heap h'->Q (some en.key) {s with heap:=h'}):wpAny (model prog w) A (pyNext (.ref it)) Q E s:=by
 obtain⟨o,ho,hc,hd⟩:=id hit;unfold pyNext;refine wpAny_bind (wpAny_attempt (wpAny_callSpecial?_slot (name:=Str.ofString "__next__") hit.typeIs F.slot_dict_keyiterator_next
  (wpAny_call_entry F.slot_dict_keyiterator_next hit.typeIs F.entry_dict_keyiterator_next ?_ (F.args_dict_keyiterator_next_1 _))))
 refine wpAny_bind (wpAny_pure ?_);refine wpAny_bind ?_;refine wpAny_bind ?_;first|refine wpAny_bind (wpAny_typeNameOfWhole_keyiter hit.typeIs (wpAny_pure ?_))|refine wpAny_bind (wpAny_typeNameOf_keyiter hit.typeIs (wpAny_pure ?_))
 refine wpAny_bind (wpAny_fieldsOf ho hd ?_);have hown:Builtin.Dict_items.ownsTuple "dict_keyiterator" =false:=by decide
 simp only[hown,Bool.false_eq_true,if_false];show wpAny _ _ (if(Value.ref d==Value.none)=true then _ else _) _ _ s
 rw[if_neg (show¬((Value.ref d==Value.none)=true)from Bool.false_ne_true)];refine wpAny_bind (wpAny_pure ?_);refine wpAny_bind (wpAny_dictEntries hod hdd ?_);rw[if_neg (by rw[hsz];simp)];refine wpAny_bind (wpAny_pure ?_);refine wpAny_bind (wpAny_dictEpoch hod hdd ?_);rw[if_neg (by simp)];refine wpAny_pure ?_;obtain⟨hlt',hen⟩:=Array.getElem?_eq_some_iff.mp hx;simp only[show¬((i:Int)<0)from by omega,if_false,Int.toNat_natCast,Array.getElem?_eq_getElem hlt'];refine wpAny_bind ?_;first|refine wpAny_bind (wpAny_typeNameOfWhole_keyiter hit.typeIs (wpAny_pure ?_))|refine wpAny_bind (wpAny_typeNameOf_keyiter hit.typeIs (wpAny_pure ?_))
 refine wpAny_bind (wpAny_isOneOf_keyiter hit.typeIs ?_);show wpAny _ _ (setField (.ref it) 1 (rawInt ((i:Int)+1))>>= _) _ _ s
 refine wpAny_bind (wpAny_setField ho hd (by simp) ?_);have hit':(s.heap.update it (Obj.mapFields (·.setIfInBounds 1 (rawInt ((i:Int)+1))))).IsKeyIter it d (i+1) n ep:=
  ⟨_,Heap.get?_update_self _ ho (Obj.isFreed_of_fields (Obj.data_mapFields hd _)),(Obj.cls_mapFields ..).trans hc,by rw[Obj.data_mapFields hd];simp[rawInt]⟩
 refine wpAny_bind (wpAny_holding ?_);refine wpAny_bind (wpAny_isOneOf_keyiter (s:={s with heap:=s.heap.update it (Obj.mapFields (·.setIfInBounds 1 (rawInt ((i:Int)+1))))}) hit'.typeIs ?_);show wpAny _ _ (pure es[i].key) _ _ _
 rw[hen];exact wpAny_pure (wpAny_pure ⟨_,rfl,wpAny_pure (hQ _ hit' (Heap.SameBut.update ..))⟩)
theorem j5{it d:Addr}{i n ep:Nat}{od:Obj}{es:Array DictEntry}{Q:Option Value->Shared->Prop}(hh:A.handled=none)(hit:s.heap.IsKeyIter it d i n ep)(hod:s.heap.get? d=some od)(hdd:od.data=.dict es ep)
  (hsz:es.size=n) (hge:n<=i) (hQ:∀h',Heap.ExtBut it s.heap h'->Q none {s with heap:=h'}):wpAny (model prog w) A (pyNext (.ref it)) Q E s:=by
 obtain⟨o,ho,hc,hd⟩:=id hit;unfold pyNext;refine wpAny_bind (wpAny_attempt (wpAny_callSpecial?_slot (name:=Str.ofString "__next__") hit.typeIs F.slot_dict_keyiterator_next
  (wpAny_call_entry F.slot_dict_keyiterator_next hit.typeIs F.entry_dict_keyiterator_next ?_ (F.args_dict_keyiterator_next_1 _))))
 refine wpAny_bind (wpAny_pure ?_);refine wpAny_bind ?_;refine wpAny_bind ?_;first|refine wpAny_bind (wpAny_typeNameOfWhole_keyiter hit.typeIs (wpAny_pure ?_))|refine wpAny_bind (wpAny_typeNameOf_keyiter hit.typeIs (wpAny_pure ?_))
 refine wpAny_bind (wpAny_fieldsOf ho hd ?_);have hown:Builtin.Dict_items.ownsTuple "dict_keyiterator" =false:=by decide
 simp only[hown,Bool.false_eq_true,if_false];show wpAny _ _ (if(Value.ref d==Value.none)=true then _ else _) _ _ s
 rw[if_neg (show¬((Value.ref d==Value.none)=true)from Bool.false_ne_true)];refine wpAny_bind (wpAny_pure ?_);refine wpAny_bind (wpAny_dictEntries hod hdd ?_);rw[if_neg (by rw[hsz];simp)];refine wpAny_bind (wpAny_pure ?_);refine wpAny_bind (wpAny_dictEpoch hod hdd ?_);rw[if_neg (by simp)];refine wpAny_pure ?_;have hge':es.size<=i:=by rw[hsz];exact hge
 simp only[show¬((i:Int)<0)from by omega,if_false,Int.toNat_natCast,Array.getElem?_eq_none hge'];refine wpAny_bind ?_;first|refine wpAny_bind (wpAny_typeNameOfWhole_keyiter hit.typeIs (wpAny_pure ?_))|refine wpAny_bind (wpAny_typeNameOf_keyiter hit.typeIs (wpAny_pure ?_))
 show wpAny _ _ (setField (.ref it) 0 .none>>= _) _ _ s
 refine wpAny_bind (wpAny_setField ho hd (by simp) ?_);show wpAny _ _ (newExc (.type "StopIteration") []>>= _) _ _ _
 refine wpAny_bind ?_;simp only[newExc,newTuple];refine wpAny_bind (wpAny_newObj_type ?_ (by size_fits));refine wpAny_bind (m:=firstArgMember _ _) (wpAny_of_eq (a:=Value.none) (by first|rfl|(simp only[firstArgMember];rfl)) ?_);refine wpAny_newObj_type ?_ (by size_fits);simp only[raiseNew];refine wpAny_bind (wpAny_handled ?_);rw[show A.in1.handled=none from hh];refine wpAny_bind (wpAny_pure (wpAny_throw ?_));refine wpAny_bind (wpAny_isInstance (T:= "StopIteration") (b:=true) ⟨_,Heap.get?_push_size _ rfl,rfl⟩ isSubtype_stop ?_);exact wpAny_pure (hQ _ (((Heap.SameBut.update ..).extBut.push _).push _))
end
theorem KY{κ:Type}{kvs:List (κ×V)}{vs:List (κ×Value)}(h:KV kvs vs):∀{i:Nat}{k:κ}{v:V},kvs[i]? =some (k,v)->∃u,vs[i]? =some (k,u)/\RelV v u:=by
 unfold KV at h;induction h with
 |nil=>intro i k v e;simp at e
 | @cons a b l₁ l₂ r t ih=>
  intro i k v e;cases i with
  |zero=>simp only[List.getElem?_cons_zero,Option.some.injEq]at e;subst e;refine⟨b.2,?_,r.2⟩;simp only[List.getElem?_cons_zero];exact congrArg some (Prod.ext r.1.symm rfl)
  |succ j=>simp only[List.getElem?_cons_succ]at e ⊢;exact ih e
theorem zZ{α β:Type}{G:α->β->Prop}{l₁:List α}{l₂:List β}(h:Paired G l₁ l₂):∀{i:Nat}{a:α},l₁[i]? =some a->∃b,l₂[i]? =some b/\G a b:=by
 induction h with
 |nil=>intro i a e;simp at e
 | @cons a b l₁ l₂ r t ih=>
  intro i a' e;cases i with
  |zero=>simp only[List.getElem?_cons_zero,Option.some.injEq]at e;subst e;exact⟨b,rfl,r⟩
  |succ j=>simp only[List.getElem?_cons_succ]at e ⊢;exact ih e
theorem F8{k:Key}{u:Value}(h:qE k u=true):RelV (kV k) u:=by
 rcases c9 h with⟨i,t,rfl,rfl⟩|⟨x,t,rfl,rfl⟩
 ·exact⟨t,rfl⟩
 ·exact⟨t,rfl⟩
section
variable {X:Cx}{pins:List (Addr×Obj)}{σ:St}{H:Hp}{s:Shared}{d:Addr}{o:Obj}
theorem Inv.LF{kvs:List (Key×V)}(I:Inv X pins σ H s)(h:H d=some (.frz o (.dK kvs))):
  (d==sysModules)=false/\s.heap.get? d=some o/\o.ExactDict/\∃(es:Array DictEntry)(ep:Nat)(vs:List (Key×Value)),o.data=.dict es ep/\es.size=kvs.length/\KV kvs vs/\s.heap.DictAt (bW X.prog X.w) d vs ep:=by
 obtain⟨hd,z,hs,vs,kv,o',es,ep,ho,hx,hdt,r⟩:=I.hok d _ h;rw[hd]at ho;cases ho;refine⟨hs,hd,hx,es,ep,vs,hdt,?_,kv,o,es,hd,hx,hdt,r⟩;have l1:=r.2.1.length;have l2:kvs.length=vs.length:=Paired.length kv;rw[Array.length_toList]at l1;omega
theorem Inv.LD{kvs:List (List Key×V)}(I:Inv X pins σ H s)(h:H d=some (.frz o (.dT kvs))):
  (d==sysModules)=false/\s.heap.get? d=some o/\o.ExactDict/\∃(es:Array DictEntry)(ep:Nat),o.data=.dict es ep/\es.size=kvs.length/\
   ∀(i:Nat)(k:List Key)(v:V),kvs[i]? =some (k,v)->∃(en:DictEntry)(q:Addr),es[i]? =some en/\en.key=.ref q/\H q=some (.tup (k.map kV)):=by
 obtain⟨hd,z,hs,xs,pr,o',es,ep,ho,hx,hdt,he,_⟩:=I.hok d _ h;rw[hd]at ho;cases ho;refine⟨hs,hd,hx,es,ep,hdt,?_,fun i k v e=>?_⟩
 ·have l1:es.size=xs.length:=size_of_entries he;have l2:kvs.length=xs.length:=Paired.length pr;omega
 ·obtain⟨b,hb,e1,e2,_⟩:=zZ pr e;have q:=entry_at he i;rw[hb]at q;exact⟨_,b.2.1,q,rfl,e2⟩
end
noncomputable def Itk(d:Addr)(o:Obj)(kvs:List (Key×V)):It:=
 ⟨fun i H=>H d=some (.frz o (.dK kvs))/\i<kvs.length,fun i H x H'=>H'=H/\∃k v,kvs[i]? =some (k,v)/\x=kV k,fun i H=>H d=some (.frz o (.dK kvs))/\kvs.length<=i⟩
noncomputable def zE(d:Addr)(o:Obj)(kvs:List (List Key×V)):It:=
 ⟨fun i H=>H d=some (.frz o (.dT kvs))/\i<kvs.length,fun i H x H'=>H'=H/\∃(k:List Key)(v:V)(q:Addr),kvs[i]? =some (k,v)/\x=.ref q/\H q=some (.tup (k.map kV)),fun i H=>H d=some (.frz o (.dT kvs))/\kvs.length<=i⟩
theorem nU{o:Obj}{es es':Array DictEntry}{ep ep':Nat}(h:o.data=.dict es ep)(h':o.data=.dict es' ep'):es'=es/\ep'=ep:=by rw[h]at h';cases h';exact⟨rfl,rfl⟩
section
variable {P:Program}{w:World}{K:W.Frag}{tg:Expr}{d:Addr}{o:Obj}{es:Array DictEntry}{ep:Nat}
theorem CM{kvs:List (Key×V)}(it:Addr)(hod:o.data=.dict es ep):Turn P w K tg (Itk d o kvs) [it] it (fun i h=>h.IsKeyIter it d i kvs.length ep) where
 mem:=by simp
 obj:=fun i h st b hb=>by
  have e:b=it:=by simpa using hb
  subst e;obtain⟨oi,e,c,dd⟩:=st;exact⟨oi,e,fun v z=>by rw[dd]at z;cases z⟩
 keep:=fun i h h' st k=>st.at fun oi e=>k it (by simp) oi e
 item:=by
  intro X hP hw hK hc i pins s σ H E I hf st hg;subst hP hw hK;obtain⟨hd,hi⟩:=hg;obtain⟨f0,f1,f2,f3,f4,f5⟩:=hf it (by simp);obtain⟨hs,hgd,hx,es',ep',vs,hdt,hsz,kv,hm⟩:=I.LF hd;obtain⟨rfl,rfl⟩:=nU hod hdt;obtain⟨⟨k,v⟩,hkv⟩:∃p,kvs[i]? =some p:=⟨kvs[i],List.getElem?_eq_getElem hi⟩
  obtain⟨u,hu,ru⟩:=KY kv hkv;have hl:kvs.length=vs.length:=Paired.length kv;rw[hl]at st;refine wpAny_pyNext_dict_item st hm hu fun key h' hkey st' sb=>?_
  have I1:Inv X pins σ H {s with heap:=h'}:=I.turned (t':=s.toks) (fun b ob hb e=>(sb.2 b hb).trans e) f0 f1 f3 f4 f5;obtain⟨oi,e,c,dd⟩:=id st';refine⟨key,rfl,yO (s:={s with heap:=h'}) e c dd (by decide) ⟨kV k,H,I1,F8 (show qE k key=true from hkey),⟨rfl,k,v,hkv,rfl⟩,?_,fun b hb=>(hf b hb).1⟩⟩;show h'.IsKeyIter it d (i+1) kvs.length _
  rw[hl];exact st'
 done:=by intro X hP hw hK hc i pins s σ H E I hf st hg;subst hP hw hK;obtain⟨hd,hi⟩:=hg;obtain⟨f0,f1,f2,f3,f4,f5⟩:=hf it (by simp);obtain⟨hs,hgd,hx,es',ep',vs,hdt,hsz,kv,hm⟩:=I.LF hd;obtain⟨rfl,rfl⟩:=nU hod hdt;exact j5 (I.ok.hd hc) st hgd hdt hsz hi fun h' eb=>⟨rfl,I.turned (t':=s.toks) (fun b ob hb e=>eb b ob hb e) f0 f1 f3 f4 f5⟩
 self:=fun A i s Q E st h=>wpAny_pyIter_keyiter st h
theorem zN{kvs:List (List Key×V)}(it:Addr)(hod:o.data=.dict es ep):Turn P w K tg (zE d o kvs) [it] it (fun i h=>h.IsKeyIter it d i kvs.length ep) where
 mem:=by simp
 obj:=fun i h st b hb=>by
  have e:b=it:=by simpa using hb
  subst e;obtain⟨oi,e,c,dd⟩:=st;exact⟨oi,e,fun v z=>by rw[dd]at z;cases z⟩
 keep:=fun i h h' st k=>st.at fun oi e=>k it (by simp) oi e
 item:=by
  intro X hP hw hK hc i pins s σ H E I hf st hg;subst hP hw hK;obtain⟨hd,hi⟩:=hg;obtain⟨f0,f1,f2,f3,f4,f5⟩:=hf it (by simp);obtain⟨hs,hgd,hx,es',ep',hdt,hsz,ent⟩:=I.LD hd;obtain⟨rfl,rfl⟩:=nU hod hdt;obtain⟨⟨k,v⟩,hkv⟩:∃p,kvs[i]? =some p:=⟨kvs[i],List.getElem?_eq_getElem hi⟩
  obtain⟨en,q,hen,hkey,hq⟩:=ent i k v hkv;refine lS st hgd hdt hsz hen fun h' st' sb=>?_
  have I1:Inv X pins σ H {s with heap:=h'}:=I.turned (t':=s.toks) (fun b ob hb e=>(sb.2 b hb).trans e) f0 f1 f3 f4 f5;obtain⟨oi,e,c,dd⟩:=id st';exact⟨en.key,rfl,yO (s:={s with heap:=h'}) e c dd (by decide) ⟨.ref q,H,I1,hkey,⟨rfl,k,v,q,hkv,rfl,hq⟩,st',fun b hb=>(hf b hb).1⟩⟩
 done:=by intro X hP hw hK hc i pins s σ H E I hf st hg;subst hP hw hK;obtain⟨hd,hi⟩:=hg;obtain⟨f0,f1,f2,f3,f4,f5⟩:=hf it (by simp);obtain⟨hs,hgd,hx,es',ep',hdt,hsz,ent⟩:=I.LD hd;obtain⟨rfl,rfl⟩:=nU hod hdt;exact j5 (I.ok.hd hc) st hgd hdt hsz hi fun h' eb=>⟨rfl,I.turned (t':=s.toks) (fun b ob hb e=>eb b ob hb e) f0 f1 f3 f4 f5⟩
 self:=fun A i s Q E st h=>by
  refine wpAny_pyIter_slot st.typeIs F.slot_dict_keyiterator_iter (wpAny_call_entry F.slot_dict_keyiterator_iter st.typeIs F.entry_dict_keyiterator_iter ?_ (F.args_dict_keyiterator_iter_1 _));show wpAny _ _ (ret (.ref it)) _ _ s
  exact wpAny_pure ⟨_,rfl,"dict_keyiterator",_,st.typeIs,F.slot_dict_keyiterator_next.lookup,h⟩
end
noncomputable def Q6(td:TE):TI:=fun σ H R=>td σ H fun x H1=>∃d o,x=.ref d/\((∃kvs,H1 d=some (.frz o (.dK kvs))/\R (Itk d o kvs) H1)\/∃kvs,H1 d=some (.frz o (.dT kvs))/\R (zE d o kvs) H1)
section
variable {X:Cx}{tg e:Expr}{td:TE}{apos cpos:Pos}
theorem l9(he:PE X e td):PI X tg e (Q6 td):=by
 intro pins s σ H R I h;refine thn (he pins s σ H _ I h) fun u s1 ⟨x,H1,I1,rx,d,o,ex,q⟩=>?_
 subst ex;obtain rfl:u=Value.ref d:=rx;rcases q with⟨kvs,hd,q⟩|⟨kvs,hd,q⟩
 ·obtain⟨hs,hgd,hx,es,ep,vs,hdt,hsz,kv,hm⟩:=I1.LF hd;refine pA hs hgd hx hdt (zW (tk:=s1.toks) I1 _ (CM _ hdt) ⟨_,Heap.get?_push_size _ rfl,rfl,?_⟩ q);rw[hsz]<;>rfl
 ·obtain⟨hs,hgd,hx,es,ep,hdt,hsz,ent⟩:=I1.LD hd;refine pA hs hgd hx hdt (zW (tk:=s1.toks) I1 _ (zN _ hdt) ⟨_,Heap.get?_push_size _ rfl,rfl,?_⟩ q);rw[hsz]<;>rfl
end
noncomputable def Ite(K:W.Frag)(a:Addr):It:=
 ⟨fun i H=>∃(xs:List V)(x:V),SqL K H a xs/\xs[i]? =some x,fun i H v H'=>∃T x,v=.ref T/\H T=none/\H'=upd H T (.tup [.int (i:Nat),x])/\∀xs,SqL K H a xs->xs[i]? =some x,fun i H=>∃xs:List V,SqL K H a xs/\xs.length<=i⟩
theorem CN{P:Program}{w:World}{K:W.Frag}{elts:List Expr}{kk:Nat}{tpos:Pos}(a e it:Addr):
  Turn P w K (.Tuple elts kk tpos) (Ite K a) [e,it] e (fun i h=>(∃old,IsEnum h e it ((i:Nat):Int) old)/\h.IsListIter it a i/\e≠it) where
 mem:=by simp
 obj:=fun i h st b hb=>by
  obtain⟨⟨old,he⟩,⟨o,ho,hc,hd⟩,_⟩:=st;have e':b=e\/b=it:=by simpa using hb
  rcases e' with z|z
  ·rw[z];exact⟨_,he,fun v q=>nomatch q⟩
  ·rw[z];exact⟨o,ho,fun v q=>by rw[hd]at q;cases q⟩
 keep:=fun i h h' st k=>let⟨⟨old,he⟩,hi,hne⟩:=st;⟨⟨old,k e (by simp) _ he⟩,hi.at fun o q=>k it (by simp) o q,hne⟩
 item:=by
  intro X hP hw hK hc i pins s σ H E I hf st hg;subst hP hw hK;obtain⟨⟨old,he⟩,hit,hne⟩:=st;obtain⟨xs,x,hq,hx⟩:=hg;obtain⟨its,rv,p,hz⟩:=I.list hq;obtain⟨u,hu,ru⟩:=rv.get hx;have hel:e<s.heap.objs.size:=Heap.lt_size he;have hil:it<s.heap.objs.size:=by obtain⟨_,q,_⟩:=hit;exact Heap.lt_size q
  refine wpAny_pyNext_enum_item he hit p.isList (x:=u) (by simpa using hu) hne fun h' ho hit' hT hsz hk=>?_
  refine⟨_,rfl,wpAny_letOwnedTupleGo_enum (s:={s with heap:=h',toks:=s.toks+1}) ho fun h'' he' sb=>?_⟩;have hT2:h''.get? s.heap.objs.size=some {cls:=.type "tuple",data:=.seq #[.int i s.toks,u]}:=(sb.2 _ (Nat.ne_of_gt hel)).trans hT;have new:cW X.prog X.w (upd H s.heap.objs.size (.tup [.int (i:Nat),x])) h'' s.heap.objs.size (.tup [.int (i:Nat),x]):=
   ⟨by show 2<=sizeLine;decide,[.int i s.toks,u],.cons ⟨_,rfl⟩ (.cons ru .nil),⟨_,hT2,rfl,_,rfl⟩⟩
  have I1:Inv X pins σ (upd H s.heap.objs.size (.tup [.int (i:Nat),x])) {s with heap:=h'',toks:=s.toks+1}:=
   I.u7 (ch:=[e,it]) (fun b ob hb q=>(sb.2 b (fun z=>hb (by simp[z]))).trans (hk b ob (fun z=>hb (by simp[z])) (fun z=>hb (by simp[z])) q)) hf (Nat.le_refl _) new
  refine⟨.ref s.heap.objs.size,_,I1,rfl,⟨_,x,rfl,I.hok.fresh (Nat.le_refl _),rfl,fun ys hy=>by rw[I.xU hy hq];exact hx⟩,⟨⟨u,?_⟩,hit'.at fun o q=>(sb.2 it (Ne.symm hne)).trans q,hne⟩,fun b hb=>?_⟩
  ·have e1:((i+1:Nat):Int)=(i:Int)+1:=by omega
   rw[e1];exact he'
  ·have hb':b<s.heap.objs.size:=by
    have e':b=e\/b=it:=by simpa using hb
    rcases e' with z|z
    ·rw[z];exact hel
    ·rw[z];exact hil
   rw[aA (Nat.ne_of_lt hb')];exact(hf b hb).1
 done:=by intro X hP hw hK hc i pins s σ H E I hf st hg;subst hP hw hK;obtain⟨⟨old,he⟩,hit,hne⟩:=st;obtain⟨xs,hq,hx⟩:=hg;obtain⟨its,rv,p,hz⟩:=I.list hq;obtain⟨f0,f1,f2,f3,f4,f5⟩:=hf it (by simp);have hl:=rv.length;exact wpAny_pyNext_enum_end (I.ok.hd hc) he hit p.isList (by simp;omega) fun h' eb=>⟨rfl,I.turned (t':=s.toks) (fun b o hb q=>eb b o hb q) f0 f1 f3 f4 f5⟩
 self:=fun A i s Q E st h=>let⟨⟨_,he⟩,_⟩:=st;wpAny_pyIter_enum he h
noncomputable def Q7(K:W.Frag)(ta:TA):TI:=fun σ H R=>ta σ H fun vs H1=>∃a xs,vs=[.ref a]/\SqL K H1 a xs/\R (Ite K a) H1
theorem IB{X:Cx}{e:Expr}{ta:TA}{p pos tpos:Pos}{elts:List Expr}{kk:Nat}(hg:Gl X "enumerate")(hm:X.mg "enumerate" =none)(ha:PA X [e] ta)(hs:starEach [e] X.env=[(false,eval e X.env)]:=by rfl):
  PI X (.Tuple elts kk tpos) (.Call (.Name "enumerate" p) [e] [] pos) (Q7 X.K ta):=by
 intro pins s σ H R I h;refine Call_ (p8 I hg hm boot_enumerate (PyProof.Rows.callWith_type1 (thn (ha pos pins s σ H _ I h) fun us s1 ⟨vs,H1,I1,r1,q1⟩=>?_) hs rfl));obtain⟨a,xs,ex,hq,q⟩:=q1;subst ex;cases r1 with
 |cons r rr=>
  cases rr;cases r;obtain⟨its,rv,p',hz⟩:=I1.list hq;refine call_enumerate_list p'.isList fun h' he hit hsz hk=>wpAny_pyIter_enum he ?_
  have I2:Inv X pins σ H1 {s1 with heap:=h'}:=I1.kept (t':=s1.toks) hk;refine⟨s1.heap.objs.size+1,[s1.heap.objs.size+1,s1.heap.objs.size],_,_,H1,rfl,I2,CN a (s1.heap.objs.size+1) s1.heap.objs.size,⟨⟨.none,he⟩,hit,Nat.succ_ne_self _⟩,fun b hb=>?_,q⟩;have e':b=s1.heap.objs.size+1\/b=s1.heap.objs.size:=by simpa using hb
  have hle:s1.heap.objs.size<=b:=by
   rcases e' with z|z
   ·rw[z];exact Nat.le_add_right _ _
   ·rw[z];exact Nat.le_refl _
  exact I1.AZ hle (I1.hok.fresh hle)
end L2
namespace L2
open PySem PySem.Spec PyProof.Rows
theorem oH:∀{vs:List Value}{ns:List Int},IntsAre vs ns->Vals (ns.map V.int) vs
 |_,_,.nil=>.nil
 |_,_,.cons n t h=>.cons ⟨t,rfl⟩ (oH h)
end L2
namespace L2
open PySem PySem.Spec PyProof.Rows
abbrev KOf{K:W.Frag}{h:Heap}(_:K.In h):W.Frag:=K
end L2
namespace L2
open PySem PySem.Spec PyProof.Rows
noncomputable def inClass(s:Stmt)(j:Nat):Stmt:=match s with
 | .ClassDef _ _ _ body _ _ _ _ _ _ _=>body.getD j (.Pass ⟨0,0,0,0⟩)
 |_=>.Pass ⟨0,0,0,0⟩
noncomputable def gX(s:Stmt):Arguments:=match s with
 | .FunctionDef _ a _ _ _ _ _ _ _ _=>a
 |_=>{posonlyargs:=[],args:=[],vararg:=none,kwonlyargs:=[],kw_defaults:=[],kwarg:=none,defaults:=[]}
noncomputable def eV(s:Stmt):List Stmt:=match s with
 | .FunctionDef _ _ b _ _ _ _ _ _ _=>b
 |_=>[]
noncomputable def aI(s:Stmt):Scope:=match s with
 | .FunctionDef _ _ _ _ _ _ sc _ _ _=>sc
 |_=>{kind:=.function,names:=[],isGenerator:=false,isCoroutine:=false}
abbrev CX0:CXT:=fun _ _ _ _ _ _=>False
abbrev E0:XK:=fun _ _ _=>False
theorem aY{X:Cx}:Passes CX0 X E0:=fun _ _ _ _ _ _ _ h=>h.elim
structure Fun(K:W.Frag)(x qual:Str)(st:Stmt)(f:Addr)(fd:FuncData):Prop where
 ex:∃(oc:Value)(od:Option Addr)(kV doc pm:Value)(an:Option Addr)(cdv ct:Value)(osl:Array (Option Value)),
  fd=W.fnOf x qual (gX st) (eV st) (aI st) .none kV doc pm an cdv ct/\K.lookup f=some ⟨oc,od,.func fd,osl⟩/\W.codeIn K cdv qual=true
 kp:W.keepIn K (.ref f)=true
section
variable {P:Program}{w:World}{K:W.Frag}{mg:Str->Option Value}{base:Heap}
theorem Fun.ok{x qual:Str}{st:Stmt}{f:Addr}{fd:FuncData}{N ps:List Str}{k:Nat}{sp:Sp}(F:Fun K x qual st f fd)(S:aL N ps (aI st))(len:∀vs H Q E,sp vs H Q E->vs.length=ps.length)
  (hbody:∀(cdv:Value)(A:Around)(outer:List Env)(s:Shared)(H:Hp)(vs:List V)(Q:VK)(E:XK),cQ k (A.deeper (envOfC qual (aI st) s.heap.objs.size f cdv))->sp vs H Q E ->
   ∃t,PSs (tV CX0 P w K mg base N qual (aI st) f cdv A outer s H E).nox (eV st) t/\t {nx:=fun _ H'=>Q .non H',rt:=Q} (start N vs) H):bM P w K mg base CX0 (k+1) f fd ps sp:=by
 obtain⟨oc,od,kV,doc,pm,an,cdv,ct,osl,rfl,lk,hcd⟩:=F.ex;refine QB lk hcd S len fun A outer s H vs Q E hr hsp=>?_
 obtain⟨t,h,q⟩:=hbody cdv A outer s H vs Q E hr hsp;exact⟨t,h.nox,q⟩
theorem Fun.binds{x qual:Str}{st:Stmt}{f:Addr}{fd:FuncData}{ps:List Str}(F:Fun K x qual st f fd)
  (h:∀(kV doc pm:Value)(an:Option Addr)(cdv ct:Value)(us:List Value),us.length=ps.length->bindArgs (W.fnOf x qual (gX st) (eV st) (aI st) .none kV doc pm an cdv ct) ⟨us,[]⟩=pure (ps.zip us)):Binds K fd ps []:=by
 obtain⟨oc,od,kV,doc,pm,an,cdv,ct,osl,rfl,lk,hcd⟩:=F.ex;exact .all (h kV doc pm an cdv ct)
theorem AX{x qual:Str}{st:Stmt}{f:Addr}{oc:Value}{od an:Option Addr}{osl:Array (Option Value)}{kV doc pm cdv ct:Value}(l:K.lookup f=some ⟨oc,od,.func (W.fnOf x qual (gX st) (eV st) (aI st) .none kV doc pm an cdv ct),osl⟩)
  (c:W.codeIn K cdv qual=true) (k:W.keepIn K (.ref f)=true):Fun K x qual st f (W.fnOf x qual (gX st) (eV st) (aI st) .none kV doc pm an cdv ct):=⟨⟨oc,od,kV,doc,pm,an,cdv,ct,osl,rfl,l,c⟩,k⟩
end
theorem bJ{A:Around}{k:Nat}(hr:cQ k A):A.units+1<cLine:=Nat.lt_of_le_of_lt (Nat.add_le_add_left (by decide:1<=64) _) hr.units
section
variable {X:Cx}
theorem pv(i:Nat){x:Str}{pos:Pos}(hN:X.N[i]? =some x:=by rfl)(hv:Vis X.env.scope x:=by first|exact Or.inl rfl|exact Or.inr (Or.inl rfl)|exact Or.inr (Or.inr rfl))(hd:(x==("__debug__" : Str))=false:=by decide)
  (hcd:(x==("__classdict__" : Str))=false:=by decide):PE X (.Name x pos) (HM i):=FG hN hv hd hcd
end
theorem G5{A B:Prop}(h:B):if false=true then A else B:=by rw[if_neg Bool.false_ne_true];exact h
theorem DO{A B:Prop}(h:A):if true=true then A else B:=by rw[if_pos rfl];exact h
theorem cG{c A B:Prop}[Decidable c](h1:c->A)(h2:¬c->B):if c then A else B:=by
 by_cases h:c
 ·rw[if_pos h];exact h1 h
 ·rw[if_neg h];exact h2 h
def a9(H H':Hp):Prop:=∀b o,H b=some o->H' b=some o
theorem a9.refl(H:Hp):a9 H H:=fun _ _ h=>h
theorem a9.trans{H H1 H2:Hp}(a:a9 H H1)(b:a9 H1 H2):a9 H H2:=fun c o h=>b c o (a c o h)
theorem a9.free{H H':Hp}(e:a9 H H'){l:Addr}(h:H' l=Option.none):H l=Option.none:=by
 cases q:H l with
 |none=>rfl
 |some o=>rw[e l o q]at h;cases h
theorem a9.seq{K:W.Frag}{H H':Hp}{a:Addr}{xs:List V}(e:a9 H H')(h:SqL K H a xs):SqL K H' a xs:=by
 rcases h with(h|⟨o,h⟩)|h
 ·exact .inl (.inl (e _ _ h))
 ·exact .inl (.inr ⟨o,e _ _ h⟩)
 ·exact .inr h
theorem at_of{xs:List V}{z:Int}{j:Nat}{v:V}(e:z=(j:Int))(h:xs[j]? =some v):atI xs z=some v:=by rw[e];exact JL h
theorem a9.made{H H1:Hp}{x dx C:Addr}(nx:H x=Option.none)(nd:H dx=Option.none)(k:∀b o,(upd (upd H dx (.own x)) x (.ins C dx [])) b=some o->b≠x->H1 b=some o):a9 H H1:=fun b o e=>
 k b o (by rw[aA (aG e nx),aA (aG e nd)];exact e) (aG e nx)
end L2
namespace RM
open Roof
abbrev Pl:=Int×Int
noncomputable def parts(m:Int):List Int->List (List Int)
 |[]=>[[]]
 |v::r=>if v=m then[]::parts m r else
  match parts m r with
  |[]=>[[v]]
  |p::ps=>(v::p)::ps
def kI(v:Int):Option Int:=if v<48\/57<v then none else some (v - 48)
def gV(n v:Int):Option Int:=(kI v).map fun d=>n*10+d
noncomputable def d7(row:List Int):Option Int:=
 if row.length=0\/2<row.length then none
 else if 1<row.length/\row.head?=some 48 then none
 else(row.foldlM gV 0).bind fun n=>if 64<n then none else some n
noncomputable def d9(row:List Int):Option Pl:=((parts 44 row).mapM d7).bind fun ns=>match ns with
 |[a,b]=>some (a,b)
 |_=>none
noncomputable def iH(row:List Int):Option (List Pl):=((parts 32 row).mapM d9).bind fun cs=>if cs.length<4 then none else some cs
noncomputable def e7(t:List Int):Option (List (List Pl)):=
 if(parts 10 t).getLast?≠some []\/(parts 10 t).dropLast=[]then none else(parts 10 t).dropLast.mapM iH
theorem xI(m:Int):∀t,parts m t≠[]
 |[]=>by simp[parts]
 |v::r=>by
  unfold parts;split
  ·simp
  ·split<;>simp
theorem parts_free{m:Int}:∀{a:List Int},m∉a->parts m a=[a]
 |[],_=>rfl
 |v::r,h=>by
  have h1:¬v=m:=fun e=>h (by simp[e])
  have h2:m∉r:=fun e=>h (by simp[e])
  unfold parts;rw[if_neg h1,parts_free h2]
theorem uL{m:Int}:∀{a b:List Int},m∉a->parts m (a++m::b)=a::parts m b
 |[],b,_=>by
  show parts m (m::b)=_
  rw[parts,if_pos rfl]
 |v::r,b,h=>by
  have h1:¬v=m:=fun e=>h (by simp[e])
  have h2:m∉r:=fun e=>h (by simp[e])
  show parts m (v::(r++m::b))=_
  rw[parts,if_neg h1,uL h2]
noncomputable def glue(m:Int):List (List Int)->List Int
 |[]=>[]
 |[p]=>p
 |p::q::ps=>p++m::glue m (q::ps)
theorem DT{m v:Int}{p:List Int}{ps:List (List Int)}:glue m ((v::p)::ps)=v::glue m (p::ps):=by cases ps<;>simp[glue]
theorem jB(m:Int):∀t,glue m (parts m t)=t
 |[]=>rfl
 |v::r=>by
  have ih:=jB m r;have hn:=xI m r;unfold parts;split
  ·rename_i e;cases q:parts m r with
   |nil=>exact absurd q hn
   |cons p ps=>
    rw[q]at ih;show glue m ([]::p::ps)=_
    simp only[glue,List.nil_append];rw[ih,e]
  ·cases q:parts m r with
   |nil=>exact absurd q hn
   |cons p ps=>
    rw[q]at ih;show glue m ((v::p)::ps)=_
    rw[DT,ih]
theorem f6{m:Int}:∀{ps:List (List Int)},ps≠[]->(∀p∈ps,m∉p)->parts m (glue m ps)=ps
 |[],h,_=>absurd rfl h
 |[p],_,h=>by
  show parts m p=[p]
  exact parts_free (h p (by simp))
 |p::q::ps,_,h=>by
  show parts m (p++m::glue m (q::ps))=_
  rw[uL (h p (by simp)),f6 (by simp) fun x hx=>h x (by simp only[List.mem_cons]at hx ⊢;exact .inr hx)]
noncomputable def pNum(n:Nat):List Int:=if n<10 then[48+(n:Int)]else[48+((n/10:Nat):Int),48+((n%10:Nat):Int)]
def bY(p:Point):List Int:=glue 44 [pNum p.1,pNum p.2]
def fS(w:Walk):List Int:=glue 32 (w.map bY)
def cV(ws:List Walk):List Int:=ws.flatMap fun w=>fS w++[10]
def iP(p:Point):Pl:=((p.1:Int),(p.2:Int))
def iW(w:Walk):List Pl:=w.map iP
def iWs(ws:List Walk):List (List Pl):=ws.map iW
def okP(p:Point):Prop:=p.1<=64/\p.2<=64
def okW(w:Walk):Prop:=4<=w.length/\∀p∈w,okP p
def A7(ws:List Walk):Prop:=ws≠[]/\∀w∈ws,okW w
theorem n6{n:Nat}(h:n<=64){x:Int}(hx:x∈pNum n):48<=x/\x<=57:=by
 unfold pNum at hx;split at hx
 ·simp at hx;omega
 ·simp at hx;omega
theorem jX{p:Point}(h:okP p){x:Int}(hx:x∈bY p):(48<=x/\x<=57)\/x=44:=by
 unfold bY glue glue at hx;simp only[List.mem_append,List.mem_cons]at hx;rcases hx with hx|rfl|hx
 ·exact .inl (n6 h.1 hx)
 ·exact .inr rfl
 ·exact .inl (n6 h.2 hx)
theorem yP{m:Int}:∀{ps:List (List Int)}{x:Int},x∈glue m ps->x=m\/∃p∈ps,x∈p
 |[],x,h=>by simp[glue]at h
 |[p],x,h=>.inr ⟨p,by simp,h⟩
 |p::q::ps,x,h=>by
  simp only[glue,List.mem_append,List.mem_cons]at h;rcases h with h|rfl|h
  ·exact .inr ⟨p,by simp,h⟩
  ·exact .inl rfl
  ·rcases yP h with h|⟨y,hy,hx⟩
   ·exact .inl h
   ·exact .inr ⟨y,by simp only[List.mem_cons]at hy ⊢;exact .inr hy,hx⟩
theorem n4{w:Walk}(h:∀p∈w,okP p){x:Int}(hx:x∈fS w):(48<=x/\x<=57)\/x=44\/x=32:=by
 rcases yP hx with h1|⟨q,hq,hx⟩
 ·exact .inr (.inr h1)
 ·obtain⟨p,hp,rfl⟩:=List.mem_map.mp hq;rcases jX (h p hp) hx with h1|h1
  ·exact .inl h1
  ·exact .inr (.inl h1)
theorem nB{n:Nat}(h:n<=64):d7 (pNum n)=some (n:Int):=by
 have key:∀k:Fin 65,d7 (pNum k.val)=some (k.val:Int):=by decide+kernel
 exact key ⟨n,by omega⟩
theorem n9{row:List Int}{z:Int}(h:d7 row=some z):∃n:Nat,n<=64/\z=n/\row=pNum n:=by
 unfold d7 at h;split at h
 ·cases h
 ·rename_i h1;split at h
  ·cases h
  ·rename_i h2;match row,h1,h2,h with
   |[],h1,_,_=>simp at h1
   |[a],h1,h2,h=>
    simp only[List.foldlM,gV,kI]at h;split at h
    ·simp at h
    ·rename_i ha;simp at h;obtain⟨h3,h4⟩:=h;refine⟨(a - 48).toNat,by omega,by omega,?_⟩;unfold pNum;rw[if_pos (by omega)];congr 1;omega
   |[a,b],h1,h2,h=>
    simp only[List.foldlM,gV,kI]at h;have h48:¬a=48:=by intro e;exact h2 ⟨by simp,by simp[e]⟩
    split at h
    ·simp at h
    ·rename_i ha;split at h
     ·simp at h
     ·rename_i hb;simp at h;obtain⟨h3,h4⟩:=h;refine⟨((a - 48)*10+(b - 48)).toNat,by omega,by omega,?_⟩;unfold pNum;rw[if_neg (by omega)];congr 1
      ·omega
      ·congr 1;omega
   |_::_::_::_,h1,_,_=>simp at h1
inductive lQ {α β:Type} (R:α->β->Prop):List α->List β->Prop where
 |nil:lQ R [] []
 |cons {a:α}{b:β}{l:List α}{r:List β}:R a b->lQ R l r->lQ R (a::l) (b::r)
theorem lQ.inv2{α β:Type}{R:α->β->Prop}{l:List α}{a b:β}(h:lQ R l [a,b]):∃x y,l=[x,y]/\R x a/\R y b:=by
 cases h with
 |cons h1 h=>
  cases h with
  |cons h2 h=>cases h;exact⟨_,_,rfl,h1,h2⟩
theorem mapM_some{α β:Type}{f:α->Option β}:∀{l:List α}{r:List β},l.mapM f=some r->lQ (fun a b=>f a=some b) l r
 |[],r,h=>by simp at h;subst h;exact .nil
 |a::l,r,h=>by
  rw[List.mapM_cons]at h;cases e1:f a with
  |none=>rw[e1]at h;simp at h
  |some b=>
   rw[e1]at h;cases e2:l.mapM f with
   |none=>rw[e2]at h;simp at h
   |some bs=>rw[e2]at h;simp at h;subst h;exact .cons e1 (mapM_some e2)
theorem lE{α β:Type}{f:α->Option β}:∀{l:List α}{r:List β},lQ (fun a b=>f a=some b) l r->l.mapM f=some r
 |_,_,.nil=>rfl
 |_,_,.cons h t=>by rw[List.mapM_cons,h,lE t];rfl
theorem wK{row:List Int}{z:Pl}(h:d9 row=some z):∃p:Point,okP p/\z=iP p/\row=bY p:=by
 unfold d9 at h;cases e:(parts 44 row).mapM d7 with
 |none=>rw[e]at h;simp at h
 |some ns=>
  rw[e]at h;simp only[Option.bind_some]at h;have f:=mapM_some e;have g:=jB 44 row;match ns,f,h with
  |[],_,h=>simp at h
  |[_],_,h=>simp at h
  |_::_::_::_,_,h=>simp at h
  |[a,b],f,h=>simp at h;subst h;obtain⟨x,y,ex,f1,f2⟩:=f.inv2;obtain⟨n1,l1,r1,e1⟩:=n9 f1;obtain⟨n2,l2,r2,e2⟩:=n9 f2;refine⟨(n1,n2),⟨l1,l2⟩,by rw[r1,r2];rfl,?_⟩;rw[<- g,ex,e1,e2];rfl
theorem fU{p:Point}(h:okP p):d9 (bY p)=some (iP p):=by
 unfold d9 bY;rw[f6 (by simp) fun q hq=>?_]
 ·rw[lE (r:=[(p.1:Int),(p.2:Int)]) (.cons (nB h.1) (.cons (nB h.2) .nil))];rfl
 ·simp at hq;rcases hq with rfl|rfl
  ·intro e;have:=n6 h.1 e;omega
  ·intro e;have:=n6 h.2 e;omega
theorem zJ{row:List Int}{z:List Pl}(h:iH row=some z):∃w:Walk,okW w/\z=iW w/\row=fS w:=by
 unfold iH at h;cases e:(parts 32 row).mapM d9 with
 |none=>rw[e]at h;simp at h
 |some cs=>
  rw[e]at h;simp only[Option.bind_some]at h;split at h
  ·cases h
  ·rename_i hl;have h:cs=z:=by simpa using h
   subst h;have f:=mapM_some e;have g:=jB 32 row;have key:∀{l:List (List Int)}{r:List Pl},lQ (fun a b=>d9 a=some b) l r->∃w:Walk,(∀p∈w,okP p)/\r=iW w/\l=w.map bY:=by
    intro l r f;induction f with
    |nil=>exact⟨[],by simp,rfl,rfl⟩
    |cons h1 _ ih=>
     obtain⟨w,a1,a2,a3⟩:=ih;obtain⟨p,b1,b2,b3⟩:=wK h1;refine⟨p::w,?_,?_,?_⟩
     ·intro q hq;rcases List.mem_cons.mp hq with rfl|hq
      ·exact b1
      ·exact a1 q hq
     ·rw[a2,b2];rfl
     ·rw[a3,b3];rfl
   obtain⟨w,a1,a2,a3⟩:=key f;refine⟨w,⟨?_,a1⟩,a2,?_⟩
   ·rw[a2,iW,List.length_map]at hl;omega
   ·rw[<- g,a3];rfl
theorem zK{w:Walk}(h:okW w):iH (fS w)=some (iW w):=by
 unfold iH fS;have hne:w.map bY≠[]:=by intro e;have h1:=h.1;rw[List.map_eq_nil_iff.mp e]at h1;simp at h1
 rw[f6 hne fun q hq=>?_]
 ·have f:lQ (fun a b=>d9 a=some b) (w.map bY) (iW w):=by
   have h2:=h.2;clear h hne;induction w with
   |nil=>exact .nil
   |cons p w ih=>exact .cons (fU (h2 p (by simp))) (ih fun q hq=>h2 q (by simp[hq]))
  rw[lE f];have:¬(iW w).length<4:=by have:=h.1;rw[iW,List.length_map];omega
  simp[this]
 ·obtain⟨p,hp,rfl⟩:=List.mem_map.mp hq;intro e;rcases jX (h.2 p hp) e with h1|h1
  ·omega
  ·omega
theorem lH{m:Int}:∀{ps:List (List Int)},glue m (ps++[[]])=ps.flatMap fun p=>p++[m]
 |[]=>rfl
 |[p]=>by simp[glue]
 |p::q::ps=>by
  have ih:=lH (m:=m) (ps:=q::ps);show p++m::glue m (q::ps++[[]])=_
  rw[ih];simp
theorem pR{t:List Int}{z:List (List Pl)}(h:e7 t=some z):∃ws:List Walk,A7 ws/\z=iWs ws/\t=cV ws:=by
 unfold e7 at h;split at h
 ·cases h
 ·rename_i hc;have hc1:(parts 10 t).getLast?=some []:=by apply Classical.byContradiction;intro e;exact hc (.inl e)
  have hc2:(parts 10 t).dropLast≠[]:=fun e=>hc (.inr e)
  have f:=mapM_some h;have key:∀{l:List (List Int)}{r:List (List Pl)},lQ (fun a b=>iH a=some b) l r->∃w:List Walk,(∀p∈w,okW p)/\r=iWs w/\l=w.map fS:=by
   intro l r f;induction f with
   |nil=>exact⟨[],by simp,rfl,rfl⟩
   |cons h1 _ ih=>
    obtain⟨w,a1,a2,a3⟩:=ih;obtain⟨p,b1,b2,b3⟩:=zJ h1;refine⟨p::w,?_,?_,?_⟩
    ·intro q hq;rcases List.mem_cons.mp hq with rfl|hq
     ·exact b1
     ·exact a1 q hq
    ·rw[a2,b2];rfl
    ·rw[a3,b3];rfl
  obtain⟨ws,a1,a2,a3⟩:=key f;refine⟨ws,⟨?_,a1⟩,a2,?_⟩
  ·intro e;rw[e]at a3;exact hc2 a3
  ·have e:parts 10 t=(parts 10 t).dropLast++[[]]:=by obtain⟨ys,hys⟩:=List.getLast?_eq_some_iff.mp hc1;rw[hys];simp
   rw[<- jB 10 t,e,a3,lH,cV,List.flatMap_map]
theorem tG{ws:List Walk}(h:A7 ws):e7 (cV ws)=some (iWs ws):=by
 have e:parts 10 (cV ws)=ws.map fS++[[]]:=by
  have:cV ws=glue 10 (ws.map fS++[[]]):=by rw[lH,cV,List.flatMap_map]
  rw[this];refine f6 (by simp) fun q hq=>?_
  rcases List.mem_append.mp hq with hq|hq
  ·obtain⟨w,hw,rfl⟩:=List.mem_map.mp hq;intro e;rcases n4 (h.2 w hw).2 e with h1|h1|h1
   ·omega
   ·omega
   ·omega
  ·simp at hq;subst hq;simp
 unfold e7;rw[e];have h1:¬((ws.map fS++[[]]).getLast?≠some []\/(ws.map fS++[[]]).dropLast=[]):=by simp;exact h.1
 rw[if_neg h1];have e2:(ws.map fS++[[]]).dropLast=ws.map fS:=by simp
 rw[e2];refine lE ?_;have h2:=h.2;clear h e h1 e2;induction ws with
 |nil=>exact .nil
 |cons w ws ih=>exact .cons (zK (h2 w (by simp))) (ih fun q hq=>h2 q (by simp[hq]))
end RM
namespace RM
open Roof
noncomputable def EF(n:Nat):Bytes:=if n<10 then[UInt8.ofNat (48+n)]else[UInt8.ofNat (48+n/10),UInt8.ofNat (48+n%10)]
theorem iN{n:Nat}(h:n<=64):number n=EF n:=by
 have key:∀k:Fin 65,number k.val=EF k.val:=by decide+kernel
 exact key ⟨n,by omega⟩
theorem qB{v d:Nat}(h1:v≠0)(h2:10*v+d<=64)(h3:d<=9):number (10*v+d)=number v++[UInt8.ofNat (48+d)]:=by
 rw[iN h2,iN (by omega)];unfold EF;rw[if_neg (by omega),if_pos (by omega)];have e1:(10*v+d)/10=v:=by omega
 have e2:(10*v+d)%10=d:=by omega
 rw[e1,e2];rfl
theorem sC{d:Nat}(h:d<=9):number d=[UInt8.ofNat (48+d)]:=by rw[iN (by omega),EF,if_pos (by omega)]
theorem B5{c:UInt8}{d:Nat}(h:digit c=some d):d<=9/\c=UInt8.ofNat (48+d):=by
 unfold digit at h;split at h
 ·rename_i hc;have h:c.toNat - 48=d:=by simpa using h
  refine⟨by omega,?_⟩;have e:48+d=c.toNat:=by omega
  rw[e];simp
 ·cases h
theorem kH{d:Nat}(h:d<=9):digit (UInt8.ofNat (48+d))=some d:=by
 have key:∀k:Fin 10,digit (UInt8.ofNat (48+k.val))=some k.val:=by decide+kernel
 exact key ⟨d,by omega⟩
def g9(w:Walk):Bytes:=w.flatMap fun p=>cornerText p++[32]
noncomputable def dX(r:Reading):Bytes:=if r.part=0 then[]else if r.part=1 then number r.val else if r.part=2 then number r.east++[44]else number r.east++(44::number r.val)
noncomputable def e6(r:Reading):Bytes:=walksText r.done.reverse++(g9 r.now.reverse++dX r)
structure OkR(r:Reading):Prop where
 done:∀w∈r.done,okW w
 now:∀p∈r.now,okP p
 val:r.val<=64
 east:r.east<=64
 part:r.part<=3
theorem pS:∀{w:Walk}{p:Point},walkText (w++[p])=g9 w++(cornerText p++[10])
 |[],p=>by simp[walkText,g9]
 |[q],p=>by simp[walkText,g9]
 |q::q2::w,p=>by
  have ih:=pS (w:=q2::w) (p:=p);show cornerText q++(32::walkText (q2::w++[p]))=_
  rw[ih];simp[g9]
theorem G0{r s:Reading}{c:UInt8}(h:r.more c=some s)(o:OkR r):OkR s/\e6 s=e6 r++[c]:=by
 obtain⟨o1,o2,o3,o4,o5⟩:=o;unfold Reading.more at h;cases e:digit c with
 |some d=>
  rw[e]at h;obtain⟨hd,hc⟩:=B5 e;dsimp only at h;by_cases hp:r.part=0\/r.part=2
  ·rw[if_pos hp]at h;have h:=Option.some.inj h;subst h;refine⟨⟨o1,o2,by dsimp only;omega,o4,by dsimp only;omega⟩,?_⟩;rcases hp with hp|hp
   ·simp[e6,dX,hp,sC hd,hc]
   ·simp[e6,dX,hp,sC hd,hc]
  ·rw[if_neg hp]at h;by_cases hv:r.val=0\/SIDE<10*r.val+d
   ·rw[if_pos hv]at h;cases h
   ·rw[if_neg hv]at h;have h:=Option.some.inj h;subst h;have hv1:r.val≠0:=fun q=>hv (.inl q)
    have hv2:10*r.val+d<=64:=by
     have:¬SIDE<10*r.val+d:=fun q=>hv (.inr q)
     unfold SIDE at this;omega
    refine⟨⟨o1,o2,by dsimp only;omega,o4,o5⟩,?_⟩;have hp2:r.part=1\/r.part=3:=by omega
    rcases hp2 with hp2|hp2
    ·simp[e6,dX,hp2,qB hv1 hv2 hd,hc]
    ·simp[e6,dX,hp2,qB hv1 hv2 hd,hc]
 |none=>
  rw[e]at h;dsimp only at h;by_cases h1:r.part=1/\c=44
  ·rw[if_pos h1]at h;have h:=Option.some.inj h;subst h;refine⟨⟨o1,o2,o3,o3,by dsimp only;omega⟩,?_⟩;simp[e6,dX,h1.1,h1.2]
  ·rw[if_neg h1]at h;by_cases h2:r.part=3/\c=32
   ·rw[if_pos h2]at h;have h:=Option.some.inj h;subst h;refine⟨⟨o1,?_,o3,o4,by dsimp only;omega⟩,?_⟩
    ·intro p hp;rcases List.mem_cons.mp hp with rfl|hp
     ·exact⟨o4,o3⟩
     ·exact o2 p hp
    ·simp[e6,dX,h2.1,h2.2,g9,cornerText]
   ·rw[if_neg h2]at h;by_cases h3:r.part=3/\c=10/\3<=r.now.length
    ·rw[if_pos h3]at h;have h:=Option.some.inj h;subst h;refine⟨⟨?_,by simp,o3,o4,by dsimp only;omega⟩,?_⟩
     ·intro w hw;rcases List.mem_cons.mp hw with rfl|hw
      ·refine⟨by simp;omega,?_⟩;intro p hp;rcases List.mem_cons.mp (List.mem_reverse.mp hp)with rfl|hp
       ·exact⟨o4,o3⟩
       ·exact o2 p hp
      ·exact o1 w hw
     ·simp only[e6,dX,h3.1,h3.2.1,walksText,List.reverse_cons,List.flatMap_append,List.flatMap_cons,List.flatMap_nil,List.append_nil,pS];simp[g9,cornerText]
    ·rw[if_neg h3]at h;cases h
theorem pX:∀{b:Bytes}{p:Nat}{r:Reading}{ws:List Walk},OkR r->readFrom p r b=.ok ws->A7 ws/\e6 r++b=walksText ws
 |[],p,r,ws,o,h=>by
  unfold readFrom at h;split at h
  ·rename_i hc;obtain⟨h1,h2,h3⟩:=hc;have h:r.done.reverse=ws:=by simpa using h
   subst h;refine⟨⟨by simpa using h3,fun w hw=>o.done w (by simpa using hw)⟩,?_⟩;simp[e6,dX,h1,h2,g9]
  ·cases h
 |c::t,p,r,ws,o,h=>by
  unfold readFrom at h;cases e:r.more c with
  |none=>rw[e]at h;cases h
  |some s=>rw[e]at h;obtain⟨os,es⟩:=G0 e o;have h:readFrom (p+1) s t=.ok ws:=h;obtain⟨h1,h2⟩:=pX os h;refine⟨h1,?_⟩;rw[<- h2,es];simp
theorem mV{b:Bytes}{ws:List Walk}(h:readWalks b=.ok ws):A7 ws/\b=walksText ws:=by have o:OkR ⟨[],[],0,0,0⟩:=⟨by simp,by simp,by simp,by simp,by simp⟩;obtain⟨h1,h2⟩:=pX o h;refine⟨h1,?_⟩;rw[<- h2];simp[e6,dX,g9,walksText]
theorem gE{r s:Reading}{c:UInt8}{t:Bytes}{p:Nat}(h:r.more c=some s):readFrom p r (c::t)=readFrom (p+1) s t:=by
 show(match r.more c with|some s=>readFrom (p+1) s t|none=>.error p)=_
 rw[h]
theorem pV{n:Nat}(hn:n<=64){r:Reading}(hp:r.part=0\/r.part=2)(p:Nat)(t:Bytes):∃p',readFrom p r (number n++t)=readFrom p' {r with part:=r.part+1,val:=n} t:=by
 rw[iN hn];unfold EF;by_cases h:n<10
 ·rw[if_pos h];refine⟨p+1,gE ?_⟩;unfold Reading.more;rw[kH (by omega)];dsimp only;rw[if_pos hp]
 ·rw[if_neg h];refine⟨p+1+1,?_⟩;refine(gE (s:={r with part:=r.part+1,val:=n/10}) ?_).trans (gE ?_)
  ·unfold Reading.more;rw[kH (by omega)];dsimp only;rw[if_pos hp]
  ·unfold Reading.more;rw[kH (by omega)];dsimp only;rw[if_neg (by omega),if_neg]
   ·have:10*(n/10)+n%10=n:=by omega
    rw[this]
   ·unfold SIDE;omega
theorem pW{q:Point}(hq:okP q){r:Reading}(hp:r.part=0)(p:Nat)(t:Bytes):∃p',readFrom p r (cornerText q++t)=readFrom p' {r with part:=3,val:=q.2,east:=q.1} t:=by
 unfold cornerText;rw[List.append_assoc];obtain⟨p1,e1⟩:=pV hq.1 (r:=r) (.inl hp) p (44::number q.2++t);rw[e1];have e2:readFrom p1 {r with part:=r.part+1,val:=q.1} (44::number q.2++t)=readFrom (p1+1) {r with part:=2,val:=q.1,east:=q.1} (number q.2++t):=by refine gE ?_;unfold Reading.more;rw[show digit 44=none from by decide];dsimp only;rw[hp];simp
 rw[e2];obtain⟨p3,e3⟩:=pV hq.2 (r:={r with part:=2,val:=q.1,east:=q.1}) (.inr rfl) (p1+1) t;exact⟨p3,e3⟩
theorem uD:∀{w:Walk}{r:Reading}(p:Nat)(t:Bytes),(∀q∈w,okP q)->w≠[]->r.part=0->4<=r.now.length+w.length ->
  ∃p' v e,readFrom p r (walkText w++t)=readFrom p' ⟨(r.now.reverse++w)::r.done,[],0,v,e⟩ t
 |[],r,p,t,_,h,_,_=>absurd rfl h
 |[q],r,p,t,hq,_,hp,hl=>by
  have e0:walkText [q]++t=cornerText q++(10::t):=by simp[walkText]
  rw[e0];obtain⟨p1,e1⟩:=pW (hq q (by simp)) hp p (10::t);rw[e1];refine⟨p1+1,q.2,q.1,?_⟩;rw[gE (s:=⟨(q::r.now).reverse::r.done,[],0,q.2,q.1⟩)]
  ·simp
  ·unfold Reading.more;rw[show digit 10=none from by decide];dsimp only;rw[if_neg (by simp),if_neg (by simp),if_pos ⟨rfl,rfl,by simp at hl;omega⟩]
 |q::q2::w,r,p,t,hq,_,hp,hl=>by
  have e0:walkText (q::q2::w)++t=cornerText q++(32::(walkText (q2::w)++t)):=by simp[walkText]
  rw[e0];obtain⟨p1,e1⟩:=pW (hq q (by simp)) hp p (32::(walkText (q2::w)++t));rw[e1];have e2:readFrom p1 {r with part:=3,val:=q.2,east:=q.1} (32::(walkText (q2::w)++t))=readFrom (p1+1) ⟨r.done,q::r.now,0,q.2,q.1⟩ (walkText (q2::w)++t):=by refine gE ?_;unfold Reading.more;rw[show digit 32=none from by decide];dsimp only;rw[if_neg (by simp),if_pos ⟨rfl,rfl⟩]
  rw[e2];obtain⟨p3,v,e,e3⟩:=uD (w:=q2::w) (r:=⟨r.done,q::r.now,0,q.2,q.1⟩) (p1+1) t (fun x hx=>hq x (List.mem_cons_of_mem _ hx)) (by simp) rfl (by simp at hl ⊢;omega);refine⟨p3,v,e,?_⟩;rw[e3];simp
theorem rQ:∀{ws:List Walk}{r:Reading}(p:Nat),(∀w∈ws,okW w)->r.part=0->r.now=[]->r.done.reverse++ws≠[]->readFrom p r (walksText ws)=.ok (r.done.reverse++ws)
 |[],r,p,_,hp,hn,hne=>by
  show readFrom p r []=_
  unfold readFrom;rw[if_pos ⟨hp,hn,by simpa using hne⟩];simp
 |w::ws,r,p,hw,hp,hn,_=>by
  have e0:walksText (w::ws)=walkText w++walksText ws:=by simp[walksText]
  rw[e0];have h1:=hw w (by simp);obtain⟨p1,v,e,e1⟩:=uD (w:=w) (r:=r) p (walksText ws) h1.2 (by intro q;have:=h1.1;rw[q]at this;simp at this) hp (by have:=h1.1;omega);rw[e1,rQ p1 (fun x hx=>hw x (List.mem_cons_of_mem _ hx)) rfl rfl (by simp)];simp[hn]
theorem rR{ws:List Walk}(h:A7 ws):readWalks (walksText ws)=.ok ws:=by unfold readWalks;rw[rQ (r:=⟨[],[],0,0,0⟩) 0 h.2 rfl rfl (by simpa using h.1)];simp
def inB(t:List Int):Prop:=∀x∈t,0<=x/\x<=255
theorem fG(a b:List Int):RoofBNeutral.text (a++b)=RoofBNeutral.text a++RoofBNeutral.text b:=by simp[RoofBNeutral.text,RoofBNeutral.nats]
theorem dN(a:Int)(b:List Int):RoofBNeutral.text (a::b)=UInt8.ofNat a.toNat::RoofBNeutral.text b:=by simp[RoofBNeutral.text,RoofBNeutral.nats]
theorem rB:∀{a b:List Int},inB a->inB b->RoofBNeutral.text a=RoofBNeutral.text b->a=b
 |[],[],_,_,_=>rfl
 |[],y::b,_,_,h=>by rw[dN]at h;simp[RoofBNeutral.text,RoofBNeutral.nats]at h
 |x::a,[],_,_,h=>by rw[dN]at h;simp[RoofBNeutral.text,RoofBNeutral.nats]at h
 |x::a,y::b,ha,hb,h=>by
  rw[dN,dN]at h;injection h with h1 h2
  have hx:=ha x (by simp);have hy:=hb y (by simp);have e:x.toNat=y.toNat:=by have:=congrArg UInt8.toNat h1;rw[UInt8.toNat_ofNat_of_lt' (by show x.toNat<256;omega),UInt8.toNat_ofNat_of_lt' (by show y.toNat<256;omega)]at this;exact this
  have e2:x=y:=by omega
  rw[e2,rB (fun z hz=>ha z (by simp[hz])) (fun z hz=>hb z (by simp[hz])) h2]
theorem u9{n:Nat}(h:n<=64):RoofBNeutral.text (pNum n)=number n:=by
 rw[iN h];unfold pNum EF;split
 ·rw[dN];have:(48+(n:Int)).toNat=48+n:=by omega
  rw[this];rfl
 ·rw[dN,dN];have e1:(48+((n/10:Nat):Int)).toNat=48+n/10:=by omega
  have e2:(48+((n%10:Nat):Int)).toNat=48+n%10:=by omega
  rw[e1,e2];rfl
theorem mS{p:Point}(h:okP p):RoofBNeutral.text (bY p)=cornerText p:=by unfold bY glue glue cornerText;rw[fG,dN,u9 h.1,u9 h.2];rfl
theorem oJ:∀{w:Walk},(∀p∈w,okP p)->RoofBNeutral.text (fS w++[10])=walkText w
 |[],_=>rfl
 |[p],h=>by
  show RoofBNeutral.text (bY p++[10])=_
  rw[fG,mS (h p (by simp))];rfl
 |p::q::w,h=>by
  have ih:=oJ (w:=q::w) fun x hx=>h x (List.mem_cons_of_mem _ hx)
  show RoofBNeutral.text ((bY p++32::fS (q::w))++[10])=cornerText p++(32::walkText (q::w))
  rw[List.append_assoc,fG,mS (h p (by simp)),List.cons_append,dN,ih];rfl
theorem jU:∀{ws:List Walk},(∀w∈ws,okW w)->RoofBNeutral.text (cV ws)=walksText ws
 |[],_=>rfl
 |w::ws,h=>by
  have e:cV (w::ws)=(fS w++[10])++cV ws:=by simp[cV]
  rw[e,fG,oJ (h w (by simp)).2,jU fun x hx=>h x (List.mem_cons_of_mem _ hx)];simp[walksText]
theorem A3{ws:List Walk}(h:∀w∈ws,okW w):inB (cV ws):=by
 intro x hx;obtain⟨w,hw,hx⟩:=List.mem_flatMap.mp hx;rcases List.mem_append.mp hx with hx|hx
 ·rcases n4 (h w hw).2 hx with h1|h1|h1<;>omega
 ·simp at hx;omega
theorem reads{t:List Int}(ht:inB t){ws:List Walk}(h:readWalks (RoofBNeutral.text t)=.ok ws):e7 t=some (iWs ws)/\A7 ws:=by obtain⟨o,e⟩:=mV h;rw[<- jU o.2]at e;have:=rB ht (A3 o.2) e;rw[this];exact⟨tG o,o⟩
theorem CZ{t:List Int}{p:Nat}(h:readWalks (RoofBNeutral.text t)=.error p):e7 t=none:=by
 cases e:e7 t with
 |none=>rfl
 |some z=>obtain⟨ws,o,_,e2⟩:=pR e;rw[e2,jU o.2,rR o]at h;cases h
end RM
namespace RM
open Roof
noncomputable def inI(l:Cells)(x y:Int):Bool:=decide (0<=x)&& (decide (0<=y)&& l.contains (x.toNat,y.toNat))
theorem c6(l:Cells)(x y:Nat):inI l x y=l.contains (x,y):=by simp[inI]
theorem yH(l:Cells){x y:Int}(h:x<0):inI l x y=false:=by
 have:decide (0<=x)=false:=by simp;omega
 simp[inI,this]
theorem yG(l:Cells){x y:Int}(h:y<0):inI l x y=false:=by
 have:decide (0<=y)=false:=by simp;omega
 simp[inI,this]
theorem bL{l:Cells}{x y:Int}(h:inI l x y=true):0<=x/\0<=y/\(x.toNat,y.toNat)∈l:=by simp[inI]at h;exact h
def ne(l:Cells)(X Y:Int):Bool:=inI l X Y
def nw(l:Cells)(X Y:Int):Bool:=inI l (X - 1) Y
def sw(l:Cells)(X Y:Int):Bool:=inI l (X - 1) (Y - 1)
def se(l:Cells)(X Y:Int):Bool:=inI l X (Y - 1)
theorem G6{l:Cells}{a b:Nat}:isIn l (if 0<a then some (a - 1,b)else none)=inI l ((a:Int) - 1) b:=by
 by_cases h:0<a
 ·have e:(a:Int) - 1=((a - 1:Nat):Int):=by omega
  rw[if_pos h,e,c6];rfl
 ·rw[if_neg h,yH l (by omega)];rfl
theorem G7{l:Cells}{a b:Nat}:isIn l (if 0<b then some (a,b - 1)else none)=inI l a ((b:Int) - 1):=by
 by_cases h:0<b
 ·have e:(b:Int) - 1=((b - 1:Nat):Int):=by omega
  rw[if_pos h,e,c6];rfl
 ·rw[if_neg h,yG l (by omega)];rfl
theorem BY{l:Cells}{a b:Nat}:isIn l (if 0<a/\0<b then some (a - 1,b - 1)else none)=inI l ((a:Int) - 1) ((b:Int) - 1):=by
 by_cases h:0<a/\0<b
 ·have e1:(a:Int) - 1=((a - 1:Nat):Int):=by omega
  have e2:(b:Int) - 1=((b - 1:Nat):Int):=by omega
  rw[if_pos h,e1,e2,c6];rfl
 ·rw[if_neg h];by_cases ha:0<a
  ·rw[yG l (by omega)];rfl
  ·rw[yH l (by omega)];rfl
noncomputable def aW(l:Cells)(X Y:Int)(d:Nat):Bool:=
 if d=0 then ne l X Y&& !se l X Y else if d=1 then nw l X Y&& !ne l X Y else if d=2 then sw l X Y&& !nw l X Y else se l X Y&& !sw l X Y
theorem eJ(l:Cells)(p:Point)(d:Nat):wallFoot l p d=aW l p.1 p.2 d:=by
 unfold wallFoot leftOf rightOf aW;by_cases h0:d=0
 ·subst h0;simp only[if_pos];rw[G7];show(isIn l (some p)&& _)=_
  have:isIn l (some p)=ne l p.1 p.2:=by rw[ne,c6];rfl
  rw[this];rfl
 ·by_cases h1:d=1
  ·subst h1;simp only[if_pos,if_neg h0];rw[G6];have:isIn l (some p)=ne l p.1 p.2:=by rw[ne,c6];rfl
   rw[this];rfl
  ·by_cases h2:d=2
   ·subst h2;simp only[if_pos,if_neg h0,if_neg h1];rw[G6,BY];rfl
   ·simp only[if_neg h0,if_neg h1,if_neg h2];rw[G7,BY];rfl
theorem gD{l:Cells}(h:pinched l=false)(X Y:Int):¬(sw l X Y=true/\ne l X Y=true/\se l X Y=false/\nw l X Y=false)/\¬(nw l X Y=true/\se l X Y=true/\ne l X Y=false/\sw l X Y=false):=by
 have key:∀c∈l,¬((l.contains (c.1+1,c.2+1)&& !(l.contains (c.1+1,c.2)||l.contains (c.1,c.2+1)))||(decide (0<c.1)&& (l.contains (c.1 - 1,c.2+1)&& !(l.contains (c.1 - 1,c.2)||l.contains (c.1,c.2+1)))))=true:=by intro c hc q;have:pinched l=true:=List.any_eq_true.mpr ⟨c,hc,q⟩;rw[h]at this;cases this
 refine⟨fun⟨h1,h2,h3,h4⟩=>?_,fun⟨h1,h2,h3,h4⟩=>?_⟩
 ·obtain⟨x0,y0,m⟩:=bL h1;have e1:X=((X - 1).toNat+1:Nat):=by omega
  have e2:Y=((Y - 1).toNat+1:Nat):=by omega
  refine key _ m ?_;have a1:l.contains ((X - 1).toNat+1,(Y - 1).toNat+1)=true:=by rw[<- c6,<- e1,<- e2];exact h2
  have a2:l.contains ((X - 1).toNat+1,(Y - 1).toNat)=false:=by rw[<- c6,<- e1,show(((Y - 1).toNat:Nat):Int)=Y - 1 by omega];exact h3
  have a3:l.contains ((X - 1).toNat,(Y - 1).toNat+1)=false:=by rw[<- c6,<- e2,show(((X - 1).toNat:Nat):Int)=X - 1 by omega];exact h4
  simp only[a1,a2,a3];rfl
 ·obtain⟨x0,y0,m⟩:=bL h2;obtain⟨x1,y1,_⟩:=bL h1;have e1:X=(X.toNat:Int):=by omega
  have e2:Y=((Y - 1).toNat+1:Nat):=by omega
  refine key _ m ?_;have a1:l.contains (X.toNat - 1,(Y - 1).toNat+1)=true:=by rw[<- c6,<- e2,show((X.toNat - 1:Nat):Int)=X - 1 by omega];exact h1
  have a2:l.contains (X.toNat - 1,(Y - 1).toNat)=false:=by rw[<- c6,show((X.toNat - 1:Nat):Int)=X - 1 by omega,show(((Y - 1).toNat:Nat):Int)=Y - 1 by omega];exact h4
  have a3:l.contains (X.toNat,(Y - 1).toNat+1)=false:=by rw[<- c6,<- e2,<- e1];exact h3
  have a4:decide (0<X.toNat)=true:=by simp;omega
  simp only[a1,a2,a3,a4];simp
noncomputable def stI(X Y:Int)(d:Nat):Int×Int:=if d=0 then(X+1,Y)else if d=1 then(X,Y+1)else if d=2 then(X - 1,Y)else(X,Y - 1)
theorem CJ{l:Cells}(h:pinched l=false){X Y:Int}{d e:Nat}(hd:d<4)(he:e<4)(h1:aW l X Y d=true)(h2:aW l X Y e=true):d=e:=by
 obtain⟨u1,u2⟩:=gD h X Y;have cd:d=0\/d=1\/d=2\/d=3:=by omega
 have ce:e=0\/e=1\/e=2\/e=3:=by omega
 generalize a1:ne l X Y=A at*;generalize a2:nw l X Y=B at*;generalize a3:sw l X Y=C at*;generalize a4:se l X Y=D at*;rcases cd with rfl|rfl|rfl|rfl<;>rcases ce with rfl|rfl|rfl|rfl<;>simp[aW,a1,a2,a3,a4]at h1 h2 u1 u2 ⊢ <;>simp_all
theorem EK{l:Cells}{X Y:Int}{d:Nat}(hd:d<4)(h1:aW l X Y d=true):∃e,e<4/\aW l (stI X Y d).1 (stI X Y d).2 e=true:=by
 have cd:d=0\/d=1\/d=2\/d=3:=by omega
 rcases cd with rfl|rfl|rfl|rfl
 ·simp[aW]at h1;have b1:nw l (X+1) Y=true:=by rw[nw,show X+1 - 1=X by omega];exact h1.1
  have b2:sw l (X+1) Y=false:=by rw[sw,show X+1 - 1=X by omega];exact h1.2
  show∃e,e<4/\aW l (X+1) Y e=true
  cases c1:se l (X+1) Y with
  |true=>exact⟨3,by omega,by simp[aW,c1,b2]⟩
  |false=>
   cases c2:ne l (X+1) Y with
   |true=>exact⟨0,by omega,by simp[aW,c1,c2]⟩
   |false=>exact⟨1,by omega,by simp[aW,c2,b1]⟩
 ·simp[aW]at h1;have b1:sw l X (Y+1)=true:=by rw[sw,show Y+1 - 1=Y by omega];exact h1.1
  have b2:se l X (Y+1)=false:=by rw[se,show Y+1 - 1=Y by omega];exact h1.2
  show∃e,e<4/\aW l X (Y+1) e=true
  cases c1:ne l X (Y+1)with
  |true=>exact⟨0,by omega,by simp[aW,c1,b2]⟩
  |false=>
   cases c2:nw l X (Y+1)with
   |true=>exact⟨1,by omega,by simp[aW,c1,c2]⟩
   |false=>exact⟨2,by omega,by simp[aW,c2,b1]⟩
 ·simp[aW]at h1;have b1:se l (X - 1) Y=true:=h1.1;have b2:ne l (X - 1) Y=false:=h1.2;show∃e,e<4/\aW l (X - 1) Y e=true
  cases c1:nw l (X - 1) Y with
  |true=>exact⟨1,by omega,by simp[aW,c1,b2]⟩
  |false=>
   cases c2:sw l (X - 1) Y with
   |true=>exact⟨2,by omega,by simp[aW,c1,c2]⟩
   |false=>exact⟨3,by omega,by simp[aW,c2,b1]⟩
 ·simp[aW]at h1;have b1:ne l X (Y - 1)=true:=h1.1;have b2:nw l X (Y - 1)=false:=h1.2;show∃e,e<4/\aW l X (Y - 1) e=true
  cases c1:sw l X (Y - 1)with
  |true=>exact⟨2,by omega,by simp[aW,c1,b2]⟩
  |false=>
   cases c2:se l X (Y - 1)with
   |true=>exact⟨3,by omega,by simp[aW,c1,c2]⟩
   |false=>exact⟨0,by omega,by simp[aW,c2,b1]⟩
noncomputable def u5(l:Cells)(X Y:Int)(d:Nat):Bool:=
 if d=0 then nw l X Y&& !sw l X Y else if d=1 then sw l X Y&& !se l X Y else if d=2 then se l X Y&& !ne l X Y else ne l X Y&& !nw l X Y
theorem wO{l:Cells}{X Y:Int}{d:Nat}(hd:d<4):u5 l (stI X Y d).1 (stI X Y d).2 d=aW l X Y d:=by
 have cd:d=0\/d=1\/d=2\/d=3:=by omega
 rcases cd with rfl|rfl|rfl|rfl
 ·simp only[u5,aW,stI,if_pos,nw,sw,ne,se,show X+1 - 1=X by omega]
 ·simp[u5,aW,stI,nw,sw,ne,se,show Y+1 - 1=Y by omega]
 ·simp[u5,aW,stI,nw,sw,ne,se]
 ·simp[u5,aW,stI,nw,sw,ne,se]
theorem EM{l:Cells}(h:pinched l=false){X Y X' Y':Int}{d e:Nat}(hd:d<4)(he:e<4)(h1:aW l X Y d=true)(h2:aW l X' Y' e=true)(hq:stI X Y d=stI X' Y' e):d=e/\X=X'/\Y=Y':=by
 rw[<- wO hd]at h1;rw[<- wO he,<- hq]at h2;have hde:d=e:=by
  generalize (stI X Y d).1=U at*;generalize (stI X Y d).2=V at*;obtain⟨u1,u2⟩:=gD h U V;have cd:d=0\/d=1\/d=2\/d=3:=by omega
  have ce:e=0\/e=1\/e=2\/e=3:=by omega
  generalize a1:ne l U V=A at*;generalize a2:nw l U V=B at*;generalize a3:sw l U V=C at*;generalize a4:se l U V=D at*;rcases cd with rfl|rfl|rfl|rfl<;>rcases ce with rfl|rfl|rfl|rfl<;>simp[u5,a1,a2,a3,a4]at h1 h2 u1 u2 ⊢ <;>simp_all
 subst hde;refine⟨rfl,?_⟩;have cd:d=0\/d=1\/d=2\/d=3:=by omega
 rcases cd with rfl|rfl|rfl|rfl<;>simp[stI]at hq<;>omega
theorem mP{l:Cells}{X Y:Int}{d:Nat}(hd:d<4)(h:aW l X Y d=true):(d=2->1<=X)/\(d=3->1<=Y):=by
 refine⟨fun e=>?_,fun e=>?_⟩
 ·subst e;simp[aW,sw]at h;have:=bL h.1;omega
 ·subst e;simp[aW,se]at h;have:=bL h.1;omega
theorem oN{l:Cells}{p:Point}{d:Nat}(hd:d<4)(h:wallFoot l p d=true):(((stepped p d).1:Int),((stepped p d).2:Int))=stI p.1 p.2 d:=by
 rw[eJ]at h;obtain⟨g1,g2⟩:=mP hd h;have cd:d=0\/d=1\/d=2\/d=3:=by omega
 rcases cd with rfl|rfl|rfl|rfl
 ·simp[stepped,stI]
 ·simp[stepped,stI]
 ·have:=g1 rfl;simp[stepped,stI];omega
 ·have:=g2 rfl;simp[stepped,stI];omega
theorem bB{l:Cells}{p:Point}{d:Nat}(h:outOf l p=some d):d<4/\wallFoot l p d=true:=by unfold outOf at h;have h1:=List.find?_some h;have h2:=List.mem_of_find?_eq_some h;simp at h2;exact⟨by omega,h1⟩
theorem xN{l:Cells}(hp:pinched l=false){p:Point}{d:Nat}(hd:d<4)(h:wallFoot l p d=true):outOf l p=some d:=by
 cases e:outOf l p with
 |none=>unfold outOf at e;rw[List.find?_eq_none]at e;exact absurd h (e d (by simp;omega))
 |some x=>obtain⟨hx,h2⟩:=bB e;rw[eJ]at h h2;rw[CJ hp hd hx h h2]
theorem FQ{l:Cells}(hp:pinched l=false){p:Point}{d:Nat}(h:outOf l p=some d):∃e,outOf l (stepped p d)=some e:=by obtain⟨hd,h1⟩:=bB h;have e1:=oN hd h1;rw[eJ]at h1;obtain⟨e,he,h2⟩:=EK hd h1;rw[<- e1]at h2;exact⟨e,xN hp he (by rw[eJ];exact h2)⟩
theorem xO{l:Cells}(hp:pinched l=false){p q:Point}{d e:Nat}(h1:outOf l p=some d)(h2:outOf l q=some e)(hq:stepped p d=stepped q e):p=q:=by obtain⟨hd,w1⟩:=bB h1;obtain⟨he,w2⟩:=bB h2;have e1:=oN hd w1;have e2:=oN he w2;rw[eJ]at w1 w2;obtain⟨_,a,b⟩:=EM hp hd he w1 w2 (by rw[<- e1,<- e2,hq]);exact Prod.ext (by omega) (by omega)
end RM
namespace RM
open Roof
theorem cK{α:Type}[DecidableEq α]:∀{a b:List α},a.Nodup->(∀x∈a,x∈b)->a.length<=b.length
 |[],_,_,_=>by simp
 |x::a,b,h,hs=>by
  have hx:x∈b:=hs x (by simp);obtain⟨h1,h2⟩:=List.nodup_cons.mp h;have:=cK (a:=a) (b:=b.erase x) h2 fun y hy=>by
   have:y≠x:=fun e=>h1 (e▸hy)
   exact(List.mem_erase_of_ne this).mpr (hs y (by simp[hy]))
  rw[List.length_erase_of_mem hx]at this;have:0<b.length:=List.length_pos_of_mem hx;simp;omega
theorem cT{α β:Type}{f:α->β}:∀{l:List α},l.Nodup->(∀x∈l,∀y∈l,f x=f y->x=y)->(l.map f).Nodup
 |[],_,_=>by simp
 |x::l,h,hf=>by obtain⟨h1,h2⟩:=List.nodup_cons.mp h;rw[List.map_cons];refine List.nodup_cons.mpr ⟨fun hm=>?_,cT h2 fun a ha b hb=>hf a (by simp[ha]) b (by simp[hb])⟩;obtain⟨y,hy,e⟩:=List.mem_map.mp hm;exact h1 (hf y (by simp[hy]) x (by simp) e▸hy)
inductive Way (l:Cells):Point->List Foot->Point->Prop where
 |nil (p:Point):Way l p [] p
 |cons {p q:Point}{d:Nat}{r:List Foot}:outOf l p=some d->Way l (stepped p d) r q->Way l p ((p,d)::r) q
theorem Way.append{l:Cells}{p q:Point}{a:List Foot}(h:Way l p a q):∀{b:List Foot}{r:Point},Way l q b r->Way l p (a++b) r:=by
 induction h with
 |nil p=>exact fun h=>h
 |cons h1 _ ih=>exact fun h=>.cons h1 (ih h)
theorem Way.out{l:Cells}{p q:Point}{a:List Foot}(h:Way l p a q):∀x∈a,outOf l x.1=some x.2:=by
 induction h with
 |nil p=>simp
 |cons h1 _ ih=>
  intro x hx;rcases List.mem_cons.mp hx with rfl|hx
  ·exact h1
  ·exact ih x hx
theorem Way.prev{l:Cells}{p q:Point}{a:List Foot}(h:Way l p a q):∀y,(y∈a.map (·.1)\/y=q)->y=p\/∃x∈a,stepped x.1 x.2=y:=by
 induction h with
 |nil p=>intro y hy;simp at hy;exact .inl hy
 | @cons p q d r h1 hw ih=>
  intro y hy;by_cases hp:y=p
  ·exact .inl hp
  ·have hy':y∈r.map (·.1)\/y=q:=by
    rcases hy with hy|hy
    ·rw[List.map_cons]at hy;rcases List.mem_cons.mp hy with e|hy
     ·exact absurd e hp
     ·exact .inl hy
    ·exact .inr hy
   rcases ih y hy' with e|⟨x,hx,e⟩
   ·exact .inr ⟨(p,d),by simp,e.symm⟩
   ·exact .inr ⟨x,by simp[hx],e⟩
def kD(x:Foot):Cell×Nat:=((leftOf x.1 x.2).getD (0,0),x.2)
theorem wB{l:Cells}{x:Foot}(h:outOf l x.1=some x.2):kD x∈l.flatMap fun c=>[(c,0),(c,1),(c,2),(c,3)]:=by
 obtain⟨hd,w⟩:=bB h;unfold wallFoot at w;simp at w;have w:=w.1;cases e:leftOf x.1 x.2 with
 |none=>rw[e]at w;simp[isIn]at w
 |some c=>rw[e]at w;simp[isIn]at w;refine List.mem_flatMap.mpr ⟨c,w,?_⟩;unfold kD;rw[e];simp;omega
theorem wC{l:Cells}{x y:Foot}(h1:outOf l x.1=some x.2)(h2:outOf l y.1=some y.2)(e:kD x=kD y):x=y:=by
 obtain⟨hd1,w1⟩:=bB h1;obtain⟨hd2,w2⟩:=bB h2;obtain⟨⟨a,b⟩,d⟩:=x;obtain⟨⟨a',b'⟩,d'⟩:=y;have ed:d=d':=congrArg (fun z=>z.2) e;subst ed;rw[eJ]at w1 w2;obtain⟨g1,g2⟩:=mP hd1 w1;obtain⟨g3,g4⟩:=mP hd2 w2;have ec:(leftOf (a,b) d).getD (0,0)=(leftOf (a',b') d).getD (0,0):=congrArg (fun z=>z.1) e;have cd:d=0\/d=1\/d=2\/d=3:=by have:d<4:=hd1;omega
 rcases cd with rfl|rfl|rfl|rfl
 ·simp[leftOf]at ec;simp[ec]
 ·simp[aW,nw]at w1 w2;have i1:=bL w1.1;have i2:=bL w2.1;have p1:0<a:=by omega
  have p2:0<a':=by omega
  simp[leftOf,p1,p2]at ec;simp;omega
 ·simp[aW,sw]at w1 w2;have i1:=bL w1.1;have i2:=bL w2.1;have p1:0<a:=by omega
  have p2:0<a':=by omega
  have p3:0<b:=by omega
  have p4:0<b':=by omega
  simp[leftOf,p1,p2,p3,p4]at ec;simp;omega
 ·simp[aW,se]at w1 w2;have i1:=bL w1.1;have i2:=bL w2.1;have p3:0<b:=by omega
  have p4:0<b':=by omega
  simp[leftOf,p3,p4]at ec;simp;omega
theorem nE{f:List Foot}(h:(f.map (·.1)).Nodup):f.Nodup:=by
 induction f with
 |nil=>simp
 |cons x f ih=>rw[List.map_cons]at h;obtain⟨h1,h2⟩:=List.nodup_cons.mp h;exact List.nodup_cons.mpr ⟨fun hm=>h1 (List.mem_map.mpr ⟨x,hm,rfl⟩),ih h2⟩
theorem JA{l:Cells}{f:List Foot}(h:(f.map (·.1)).Nodup)(ho:∀x∈f,outOf l x.1=some x.2):f.length<=4*l.length:=by
 have h1:(f.map kD).Nodup:=cT (nE h) fun x hx y hy e=>wC (ho x hx) (ho y hy) e
 have h2:=cK h1 (b:=l.flatMap fun c=>[(c,0),(c,1),(c,2),(c,3)]) fun z hz=>by obtain⟨x,hx,rfl⟩:=List.mem_map.mp hz;exact wB (ho x hx)
 have h3:∀l:Cells,(l.flatMap fun c=>[(c,0),(c,1),(c,2),(c,3)]).length=4*l.length:=by
  intro l;induction l with
  |nil=>rfl
  |cons c l ih=>simp at ih ⊢;omega
 rw[h3]at h2;simpa using h2
structure Round(l:Cells)(p:Point)(f:List Foot):Prop where
 way:Way l p f p
 ne:f≠[]
 nd:(f.map (·.1)).Nodup
theorem nP{l:Cells}(hp:pinched l=false){p:Point}:∀(n:Nat)(done:List Foot)(q:Point)(d:Nat),outOf l q=some d->Way l p done q->((done++[(q,d)]).map (·.1)).Nodup->4*l.length<done.length+n+1 ->
  (done=[]->q=p)->Round l p (done++follow l p n q d)
 |0,done,q,d,hq,hw,hn,hl,h0=>by
  exfalso;have:=JA (l:=l) hn fun x hx=>by
   rcases List.mem_append.mp hx with hx|hx
   ·exact hw.out x hx
   ·simp at hx;subst hx;exact hq
  simp at this;omega
 |n+1,done,q,d,hq,hw,hn,hl,h0=>by
  have hw2:Way l p (done++[(q,d)]) (stepped q d):=hw.append (.cons hq (.nil _));have eF:follow l p (n+1) q d=(q,d)::(if stepped q d=p then[]else match outOf l (stepped q d)with|some e=>follow l p n (stepped q d) e|none=>[]):=rfl;rw[eF];by_cases hs:stepped q d=p
  ·rw[if_pos hs];rw[hs]at hw2;exact⟨hw2,by simp,hn⟩
  ·rw[if_neg hs];obtain⟨e,he⟩:=FQ hp hq;rw[he];have hnew:stepped q d∉ (done++[(q,d)]).map (·.1):=by
    intro hm;rcases hw2.prev _ (.inl hm)with e1|⟨x,hx,e1⟩
    ·exact hs e1
    ·
     obtain⟨i,hi,ei⟩:=List.getElem_of_mem hm;have key:∀{a:List Foot}{u v:Point},Way l u a v->∀y∈a.map (·.1),y≠u->∃x∈a.dropLast,stepped x.1 x.2=y:=by
      intro a u v hw;induction hw with
      |nil u=>intro y hy;simp at hy
      | @cons u v d' r h1 hw ih=>
       intro y hy hne;rw[List.map_cons]at hy;rcases List.mem_cons.mp hy with e|hy
       ·exact absurd e hne
       ·cases r with
        |nil=>simp at hy
        |cons z r=>
         by_cases hz:y=stepped u d'
         ·exact⟨(u,d'),by simp,hz.symm⟩
         ·obtain⟨x,hx,e⟩:=ih y hy hz;exact⟨x,by simp[hx],e⟩
     obtain⟨x,hx,e1⟩:=key hw2 _ hm hs;have hxd:x∈done:=by simpa using hx
     have hxo:=hw.out x hxd;have:=xO hp hxo hq e1;rw[List.map_append,List.nodup_append]at hn;exact hn.2.2 x.1 (List.mem_map.mpr ⟨x,hxd,rfl⟩) q (by simp) this
   have:=nP hp n (done++[(q,d)]) (stepped q d) e he hw2 (by
    rw[List.map_append,List.nodup_append];refine⟨hn,by simp,?_⟩;intro a ha b hb;simp at hb;subst hb;intro e2;exact hnew (e2▸ha)) (by simp;omega) (by simp)
   simpa using this
theorem DZ{l:Cells}(hp:pinched l=false){p:Point}{d:Nat}(h:outOf l p=some d):Round l p (follow l p (4*l.length+4) p d):=by have:=nP hp (4*l.length+4) [] p d h (.nil p) (by simp) (by simp;omega) (by simp);simpa using this
noncomputable def zD(l:Cells)(seen:List Point):Prop:=∀y∈seen,∃x∈seen,∃d,outOf l x=some d/\stepped x d=y
theorem zD.nil(l:Cells):zD l []:=fun _ h=>by simp at h
theorem Round.prev{l:Cells}{p:Point}{f:List Foot}(h:Round l p f):∀y∈f.map (·.1),∃x∈f,stepped x.1 x.2=y:=by
 intro y hy;rcases h.way.prev y (.inl hy)with e|e
 ·subst e;have key:∀{a:List Foot}{u v:Point},Way l u a v->a≠[]->∃x∈a,stepped x.1 x.2=v:=by
   intro a u v hw;induction hw with
   |nil u=>intro h;exact absurd rfl h
   | @cons u v d' r h1 hw ih=>
    intro _;cases r with
    |nil=>cases hw;exact⟨(u,d'),by simp,rfl⟩
    |cons z r=>obtain⟨x,hx,e⟩:=ih (by simp);exact⟨x,by simp only[List.mem_cons]at hx ⊢;exact .inr hx,e⟩
  exact key h.way h.ne
 ·exact e
theorem zD.add{l:Cells}{seen:List Point}{p:Point}{f:List Foot}(hs:zD l seen)(h:Round l p f):zD l (seen++f.map (·.1)):=by
 intro y hy;rcases List.mem_append.mp hy with hy|hy
 ·obtain⟨x,hx,e⟩:=hs y hy;exact⟨x,List.mem_append_left _ hx,e⟩
 ·obtain⟨x,hx,e⟩:=h.prev y hy;exact⟨x.1,List.mem_append_right _ (List.mem_map.mpr ⟨x,hx,rfl⟩),x.2,h.way.out x hx,e⟩
theorem Way.fresh{l:Cells}(hp:pinched l=false){seen:List Point}(hs:zD l seen){p q:Point}{f:List Foot}(h:Way l p f q):p∉seen->∀y∈f.map (·.1),y∉seen:=by
 induction h with
 |nil p=>intro _ y hy;simp at hy
 | @cons p q d r h1 hw ih=>
  intro hn y hy;rw[List.map_cons]at hy;rcases List.mem_cons.mp hy with e|hy
  ·rw[e];exact hn
  ·refine ih (fun hm=>?_) y hy;obtain⟨x,hx,e,he,es⟩:=hs _ hm;have:=xO hp he h1 es;exact hn (this▸hx)
end RM
namespace RM
open Roof
theorem cP{a b:Point}:before a b=true↔a.2<b.2\/(a.2=b.2/\a.1<b.1):=by simp[before]
theorem tY{a:Point}(h:before a a=true):False:=by rw[cP]at h;omega
theorem jG{a b c:Point}(h1:before a b=true)(h2:before b c=true):before a c=true:=by rw[cP]at*;omega
theorem BC(a b:Point):a=b\/before a b=true\/before b a=true:=by
 by_cases h:a=b
 ·exact .inl h
 ·right;rw[cP,cP];have:¬(a.1=b.1/\a.2=b.2):=fun⟨x,y⟩=>h (Prod.ext x y)
  omega
def leR(a b:Cell):Bool:=a==b||before a b
theorem vU{a b:Cell}:leR a b=true↔a=b\/before a b=true:=by simp[leR]
theorem DI(a b c:Cell)(h1:leR a b=true)(h2:leR b c=true):leR a c=true:=by
 rw[vU]at*;rcases h1 with rfl|h1
 ·exact h2
 ·rcases h2 with rfl|h2
  ·exact .inr h1
  ·exact .inr (jG h1 h2)
theorem DJ(a b:Cell):(leR a b||leR b a)=true:=by
 rcases BC a b with rfl|h|h
 ·simp[leR]
 ·simp[leR,h]
 ·simp[leR,h]
theorem j4:∀{l:Cells}{x:Cell},x∈onceEach l↔x∈l
 |[],x=>by simp[onceEach]
 |[a],x=>by simp[onceEach]
 |a::b::r,x=>by
  have ih:=j4 (l:=b::r) (x:=x);unfold onceEach;split
  ·rename_i e;rw[ih,e];simp
  ·rw[List.mem_cons,ih,List.mem_cons (a:=x) (b:=a)]
theorem jI:∀{l:Cells},l.Pairwise (fun a b=>leR a b=true)->(onceEach l).Pairwise (fun a b=>before a b=true)
 |[],_=>by simp[onceEach]
 |[a],_=>by simp[onceEach]
 |a::b::r,h=>by
  obtain⟨h1,h2⟩:=List.pairwise_cons.mp h;have ih:=jI h2;unfold onceEach;split
  ·exact ih
  ·rename_i e;refine List.pairwise_cons.mpr ⟨fun x hx=>?_,ih⟩;have hx:=j4.mp hx;have hab:before a b=true:=by
    rcases vU.mp (h1 b (by simp))with q|q
    ·exact absurd q e
    ·exact q
   rcases List.mem_cons.mp hx with rfl|hx
   ·exact hab
   ·obtain⟨h3,_⟩:=List.pairwise_cons.mp h2;rcases vU.mp (h3 x hx)with rfl|q
    ·exact hab
    ·exact jG hab q
theorem sM{l:Cells}{x:Cell}:x∈inRows l↔x∈l:=by unfold inRows;rw[j4,List.mem_mergeSort]
theorem tR(l:Cells):(inRows l).Pairwise (fun a b=>before a b=true):=jI (List.pairwise_mergeSort DI DJ l)
theorem vM{l:List Point}(h:l.Pairwise (fun a b=>before a b=true)):l.Nodup:=by refine List.Pairwise.imp (fun{a b} q=>?_) h;intro e;subst e;exact tY q
noncomputable def eU(p:Point)(d k:Nat):Point:=if d=0 then(p.1+k,p.2)else if d=1 then(p.1,p.2+k)else if d=2 then(p.1 - k,p.2)else(p.1,p.2 - k)
def cS(p:Point)(d k:Nat):List Foot:=(List.range k).map fun i=>(eU p d i,d)
theorem lV{p:Point}{d k:Nat}(hd:d<4)(h2:d=2->k<=p.1)(h3:d=3->k<=p.2):feet p (eU p d k)=cS p d k:=by
 have cd:d=0\/d=1\/d=2\/d=3:=by omega
 rcases cd with rfl|rfl|rfl|rfl
 ·simp only[feet,eU,cS,if_pos];by_cases hk:k=0
  ·subst hk;simp
  ·rw[if_pos (by omega)];rw[show p.1+k - p.1=k by omega]
 ·simp only[feet,eU,cS];by_cases hk:k=0
  ·subst hk;simp
  ·simp only[if_neg (show¬(1:Nat)=0 by omega),if_pos];rw[if_neg (by omega),if_pos (by omega),show p.2+k - p.2=k by omega]
 ·have:=h2 rfl;simp only[feet,eU,cS];simp only[if_neg (show¬(2:Nat)=0 by omega),if_neg (show¬(2:Nat)=1 by omega),if_pos];rw[if_neg (by omega),show p.1 - (p.1 - k)=k by omega]
 ·have:=h3 rfl;simp only[feet,eU,cS];simp only[if_neg (show¬(3:Nat)=0 by omega),if_neg (show¬(3:Nat)=1 by omega),if_neg (show¬(3:Nat)=2 by omega),if_pos];by_cases hk:k=0
  ·subst hk;simp
  ·rw[if_neg (by omega),if_neg (by omega),show p.2 - (p.2 - k)=k by omega]
theorem tI{p:Point}{d k:Nat}:cS p d (k+1)=cS p d k++[(eU p d k,d)]:=by simp[cS,List.range_succ]
theorem gZ{p:Point}{d k:Nat}(hd:d<4):stepped (eU p d k) d=eU p d (k+1):=by
 have cd:d=0\/d=1\/d=2\/d=3:=by omega
 rcases cd with rfl|rfl|rfl|rfl<;>simp[stepped,eU]<;>omega
noncomputable def zI(cs:Walk)(q:Point):List Foot:=(cs.zip (cs.drop 1++[q])).flatMap fun x=>feet x.1 x.2
theorem CI{p a:Point}{cs:Walk}{q:Point}:zI (p::a::cs) q=feet p a++zI (a::cs) q:=by simp[zI]
theorem j3{l:Cells}{p:Point}{d:Nat}(h:outOf l p=some d):(d=2->1<=p.1)/\(d=3->1<=p.2):=by obtain⟨hd,w⟩:=bB h;rw[eJ]at w;obtain⟨g1,g2⟩:=mP hd w;exact⟨fun e=>by have:=g1 e;omega,fun e=>by have:=g2 e;omega⟩
theorem expand{l:Cells}:∀{r:List Foot}{p p' q:Point}{d k:Nat},Way l p' r q->d<4->(d=2->k<=p.1)->(d=3->k<=p.2)->p'=eU p d k->zI (p::turns d r) q=cS p d k++r
 |[],p,p',q,d,k,hw,hd,h2,h3,e=>by
  cases hw;show zI [p] p'=_
  rw[e];simp[zI,lV hd h2 h3]
 |(x,d2)::r,p,PP,q,d,k,hw,hd,h2,h3,e=>by
  cases hw with
  |cons h1 hw=>
   obtain⟨b2,b3⟩:=j3 h1;obtain⟨hd2,_⟩:=bB h1;by_cases hdd:d2=d
   ·subst hdd;have et:turns d2 ((x,d2)::r)=turns d2 r:=by
     show(if d2=d2 then _ else _)=_
     rw[if_pos rfl]
    rw[et,expand (r:=r) (p:=p) (p':=stepped x d2) (k:=k+1) hw hd ?_ ?_ (by rw[e,gZ hd]),tI,<- e]
    ·simp
    ·intro e2;have:=b2 e2;rw[e]at this;subst e2;simp[eU]at this;omega
    ·intro e3;have:=b3 e3;rw[e]at this;subst e3;simp[eU]at this;omega
   ·have et:turns d ((x,d2)::r)=x::turns d2 r:=by
     show(if d2=d then _ else _)=_
     rw[if_neg hdd]
    rw[et,CI,e,lV hd h2 h3,<- e];have:=expand (r:=r) (p:=x) (p':=stepped x d2) (q:=q) (d:=d2) (k:=1) hw hd2 (fun z=>b2 z) (fun z=>b3 z) (by
     have:=gZ (p:=x) (d:=d2) (k:=0) hd2;have e0:eU x d2 0=x:=by unfold eU;split<;>(try split)<;>(try split)<;>simp
     rw[e0]at this;exact this)
    rw[this];have es:cS x d2 1=[(x,d2)]:=by
     have e0:eU x d2 0=x:=by unfold eU;split<;>(try split)<;>(try split)<;>simp
     simp[cS,e0]
    rw[es];simp
theorem tW{l:Cells}{p:Point}{d:Nat}{r:List Foot}{x:Foot}(h:Round l p ((p,d)::r))(hx:((p,d)::r).getLast?=some x)(hne:d≠x.2):
  cornersOf ((p,d)::r)=p::turns d r/\walkFeet (cornersOf ((p,d)::r))=(p,d)::r:=by
 have e1:cornersOf ((p,d)::r)=p::turns d r:=by
  unfold cornersOf;rw[hx];show(if d=x.2 then _ else _)=_
  rw[if_neg hne]
 refine⟨e1,?_⟩;rw[e1];have hw:=h.way;cases hw with
 |cons h1 hw=>
  obtain⟨b2,b3⟩:=j3 h1;obtain⟨hd,_⟩:=bB h1;have e0:eU p d 0=p:=by unfold eU;split<;>(try split)<;>(try split)<;>simp
  have:=expand (r:=r) (p:=p) (p':=stepped p d) (q:=p) (d:=d) (k:=1) hw hd b2 b3 (by
   have:=gZ (p:=p) (d:=d) (k:=0) hd;rw[e0]at this;exact this)
  have es:cS p d 1=[(p,d)]:=by simp[cS,e0]
  rw[es]at this;simp only[List.singleton_append]at this;rw[<- this];show((p::turns d r).zip ((p::turns d r).drop 1++(p::turns d r).take 1)).flatMap _=_
  simp[zI]
theorem Way.nil_inv{l:Cells}{a b:Point}(h:Way l a [] b):a=b:=by cases h;rfl
structure eZ(l:Cells)(seen pts:List Point):Prop where
 oO:zD l seen
 all:∀q d,outOf l q=some d->q∈seen\/q∈pts
 row:pts.Pairwise fun a b=>before a b=true
theorem gI{l:Cells}{q:Point}{d:Nat}(h:outOf l q=some d):q∈pointsOf l:=by
 obtain⟨hd,w⟩:=bB h;unfold pointsOf;rw[sM];rw[eJ]at w;obtain⟨a,b⟩:=q;have cd:d=0\/d=1\/d=2\/d=3:=by omega
 rcases cd with rfl|rfl|rfl|rfl
 ·simp[aW,ne,c6]at w;exact List.mem_flatMap.mpr ⟨(a,b),w.1,by simp⟩
 ·simp[aW,nw]at w;obtain⟨x0,y0,m⟩:=bL w.1;refine List.mem_flatMap.mpr ⟨_,m,?_⟩;simp;omega
 ·simp[aW,sw]at w;obtain⟨x0,y0,m⟩:=bL w.1;refine List.mem_flatMap.mpr ⟨_,m,?_⟩;simp;omega
 ·simp[aW,se]at w;obtain⟨x0,y0,m⟩:=bL w.1;refine List.mem_flatMap.mpr ⟨_,m,?_⟩;simp;omega
theorem eZ.start(l:Cells):eZ l [] (pointsOf l):=⟨zD.nil l,fun q d h=>.inr (gI h),tR _⟩
theorem eZ.skip{l:Cells}{seen r:List Point}{p:Point}(g:eZ l seen (p::r))(h:p∈seen\/outOf l p=none):eZ l seen r:=by
 refine⟨g.oO,fun q d hq=>?_,(List.pairwise_cons.mp g.row).2⟩;rcases g.all q d hq with h1|h1
 ·exact .inl h1
 ·rcases List.mem_cons.mp h1 with rfl|h1
  ·rcases h with h|h
   ·exact .inl h
   ·rw[h]at hq;cases hq
  ·exact .inr h1
theorem eZ.step{l:Cells}(hp:pinched l=false){seen r:List Point}{p:Point}{d:Nat}(g:eZ l seen (p::r))(hs:p∉seen)(ho:outOf l p=some d){f:List Foot}(hf:f=follow l p (4*l.length+4) p d):
  Round l p f/\(∀y∈f.map (·.1),y∉seen)/\(∃r',f=(p,d)::r'/\cornersOf f=p::turns d r')/\walkFeet (cornersOf f)=f/\eZ l (seen++f.map (·.1)) r:=by
 have R:=DZ hp ho;rw[<- hf]at R;have fr:=R.way.fresh hp g.oO hs;have least:∀y∈f.map (·.1),y=p\/before p y=true:=by
  intro y hy;obtain⟨x,hx,rfl⟩:=List.mem_map.mp hy;rcases g.all x.1 x.2 (R.way.out x hx)with h1|h1
  ·exact absurd h1 (fr _ hy)
  ·rcases List.mem_cons.mp h1 with h1|h1
   ·exact .inl h1
   ·exact .inr ((List.pairwise_cons.mp g.row).1 _ h1)
 obtain⟨r',er⟩:∃r',f=(p,d)::r':=by rw[hf];exact⟨_,rfl⟩
 refine⟨R,fr,?_⟩;rw[er]at R least fr ⊢;obtain⟨x,hx⟩:∃x,((p,d)::r').getLast?=some x:=by
  cases e:((p,d)::r').getLast? with
  |none=>simp at e
  |some x=>exact⟨x,rfl⟩
 have lastTo:stepped x.1 x.2=p:=by
  have key:∀{a:List Foot}{u v:Point}{x:Foot},Way l u a v->a.getLast?=some x->stepped x.1 x.2=v:=by
   intro a u v x hw;induction hw with
   |nil u=>intro h;simp at h
   | @cons u v d' r h1 hw ih=>
    intro h;cases r with
    |nil=>cases hw;simp at h;rw[<- h]
    |cons z r=>exact ih (by simpa using h)
  exact key R.way hx
 have xm:x∈(p,d)::r':=List.mem_of_getLast? hx;have xo:=R.way.out x xm;obtain⟨hxd,_⟩:=bB xo;obtain⟨hd,_⟩:=bB ho;have hx23:x.2=2\/x.2=3:=by
  have cx:x.2=0\/x.2=1\/x.2=2\/x.2=3:=by omega
  have hl:=least x.1 (List.mem_map.mpr ⟨x,xm,rfl⟩);rw[cP]at hl;rcases cx with c|c|c|c
  ·exfalso;rw[c]at lastTo;simp[stepped]at lastTo;have a1:=congrArg Prod.fst lastTo;have a2:=congrArg Prod.snd lastTo;simp at a1 a2;rcases hl with h|h|h
   ·rw[h]at a1;omega
   ·omega
   ·omega
  ·exfalso;rw[c]at lastTo;simp[stepped]at lastTo;have a1:=congrArg Prod.fst lastTo;have a2:=congrArg Prod.snd lastTo;simp at a1 a2;rcases hl with h|h|h
   ·rw[h]at a2;omega
   ·omega
   ·omega
  ·exact .inl c
  ·exact .inr c
 have hd01:d=0\/d=1:=by
  have hw:=R.way;cases hw with
  |cons h1 hw=>
   have nxt:stepped p d=p\/stepped p d∈((p,d)::r').map (·.1):=by
    cases r' with
    |nil=>exact .inl hw.nil_inv
    |cons z r2=>cases hw;right;simp
   have hl:stepped p d=p\/before p (stepped p d)=true:=by
    rcases nxt with h|h
    ·exact .inl h
    ·exact least _ h
   rw[cP]at hl;obtain⟨b2,b3⟩:=j3 ho;have cx:d=0\/d=1\/d=2\/d=3:=by omega
   rcases cx with c|c|c|c
   ·exact .inl c
   ·exact .inr c
   ·exfalso;have:=b2 c;subst c;simp[stepped]at hl;rcases hl with h|h
    ·have a1:=congrArg Prod.fst h;simp at a1;omega
    ·omega
   ·exfalso;have:=b3 c;subst c;simp[stepped]at hl;rcases hl with h|h
    ·have a1:=congrArg Prod.snd h;simp at a1;omega
    ·omega
 have hne:d≠x.2:=by omega
 obtain⟨c1,c2⟩:=tW R hx hne;refine⟨⟨r',rfl,c1⟩,c2,g.oO.add R,fun q e hq=>?_,(List.pairwise_cons.mp g.row).2⟩;rcases g.all q e hq with h1|h1
 ·exact .inl (List.mem_append_left _ h1)
 ·rcases List.mem_cons.mp h1 with rfl|h1
  ·exact .inl (List.mem_append_right _ (by simp))
  ·exact .inr h1
theorem eM{l:Cells}(hp:pinched l=false):∀{pts seen:List Point},eZ l seen pts ->
  ∃F:List Foot,(walksFrom l seen pts).flatMap walkFeet=F/\(∀x∈F,outOf l x.1=some x.2)/\(F.map (·.1)).Nodup/\(∀x∈F,x.1∉seen)/\∀w∈walksFrom l seen pts,∀q∈w,∃d,outOf l q=some d
 |[],seen,g=>⟨[],by simp[walksFrom],by simp,by simp,by simp,by simp[walksFrom]⟩
 |p::r,seen,g=>by
  by_cases hs:seen.contains p=true
  ·have e:walksFrom l seen (p::r)=walksFrom l seen r:=by
    show(if seen.contains p=true then _ else _)=_
    rw[if_pos hs]
   rw[e];exact eM hp (g.skip (.inl (by simpa using hs)))
  ·cases ho:outOf l p with
   |none=>
    have e:walksFrom l seen (p::r)=walksFrom l seen r:=by
     show(if seen.contains p=true then _ else match outOf l p with|none=>_|some d=>_)=_
     rw[if_neg hs,ho]
    rw[e];exact eM hp (g.skip (.inr ho))
   |some d=>
    have e:walksFrom l seen (p::r)=cornersOf (follow l p (4*l.length+4) p d)::walksFrom l (seen++(follow l p (4*l.length+4) p d).map fun(x:Foot)=>x.1) r:=by
     show(if seen.contains p=true then _ else match outOf l p with|none=>_|some d=>_)=_
     rw[if_neg hs,ho]
    obtain⟨R,fr,⟨r',er,ec⟩,ew,g2⟩:=g.step hp (by simpa using hs) ho rfl;obtain⟨F,h1,h2,h3,h4,h5⟩:=eM hp g2;refine⟨follow l p (4*l.length+4) p d++F,?_,?_,?_,?_,?_⟩
    ·rw[e,List.flatMap_cons,ew,h1]
    ·intro x hx;rcases List.mem_append.mp hx with hx|hx
     ·exact R.way.out x hx
     ·exact h2 x hx
    ·rw[List.map_append,List.nodup_append];refine⟨R.nd,h3,?_⟩;intro a ha b hb e2;obtain⟨x,hx,rfl⟩:=List.mem_map.mp hb;exact h4 x hx (List.mem_append_right _ (e2▸ha))
    ·intro x hx;rcases List.mem_append.mp hx with hx|hx
     ·exact fr _ (List.mem_map.mpr ⟨x,hx,rfl⟩)
     ·exact fun hm=>h4 x hx (List.mem_append_left _ hm)
    ·intro w hw;rw[e]at hw;rcases List.mem_cons.mp hw with rfl|hw
     ·intro q hq;have key:∀{a:List Foot}{d:Nat}{q:Point},q∈turns d a->∃x∈a,x.1=q:=by
       intro a;induction a with
       |nil=>intro d q h;simp[turns]at h
       |cons x a ih=>
        intro d q h;unfold turns at h;split at h
        ·obtain⟨y,hy,e⟩:=ih h;exact⟨y,by simp[hy],e⟩
        ·rcases List.mem_cons.mp h with e|h
         ·exact⟨x,by simp,e.symm⟩
         ·obtain⟨y,hy,e⟩:=ih h;exact⟨y,by simp[hy],e⟩
      have:q∈turns ((follow l p (4*l.length+4) p d).getLast?.elim 0 (·.2)) (follow l p (4*l.length+4) p d):=by
       unfold cornersOf at hq;cases e3:(follow l p (4*l.length+4) p d).getLast? with
       |none=>rw[e3]at hq;simp at hq
       |some z=>rw[e3]at hq;exact hq
      obtain⟨x,hx,e4⟩:=key this;exact⟨x.2,e4▸R.way.out x hx⟩
     ·exact h5 w hw
end RM
namespace RM
open Roof
def rY(ws:List Walk):Prop:=∀w∈ws,∀p∈w,okP p
theorem iY:∀{ws:List Walk},rY ws->RoofBNeutral.text (cV ws)=walksText ws
 |[],_=>rfl
 |w::ws,h=>by
  have e:cV (w::ws)=(fS w++[10])++cV ws:=by simp[cV]
  rw[e,fG,oJ (h w (by simp)),iY fun x hx=>h x (List.mem_cons_of_mem _ hx)];simp[walksText]
theorem qA{ws:List Walk}(h:rY ws):inB (cV ws):=by
 intro x hx;obtain⟨w,hw,hx⟩:=List.mem_flatMap.mp hx;rcases List.mem_append.mp hx with hx|hx
 ·rcases n4 (h w hw) hx with h1|h1|h1<;>omega
 ·simp at hx;omega
theorem mZ{ws:List Walk}(h:rY ws):parts 10 (cV ws)=ws.map fS++[[]]:=by
 have:cV ws=glue 10 (ws.map fS++[[]]):=by rw[lH,cV,List.flatMap_map]
 rw[this];refine f6 (by simp) fun q hq=>?_
 rcases List.mem_append.mp hq with hq|hq
 ·obtain⟨w,hw,rfl⟩:=List.mem_map.mp hq;intro e;rcases n4 (h w hw) e with h1|h1|h1<;>omega
 ·simp at hq;subst hq;simp
theorem A4{p:Point}:bY p≠[]:=by unfold bY glue glue pNum;split<;>simp
theorem xM{p q:Point}(hp:okP p)(hq:okP q)(e:bY p=bY q):p=q:=by have h1:=fU hp;rw[e,fU hq]at h1;have h2:=Option.some.inj h1;have a:=congrArg Prod.fst h2;have b:=congrArg Prod.snd h2;simp[iP]at a b;exact Prod.ext (by omega) (by omega)
theorem map_inj{α β:Type}{f:α->β}:∀{a b:List α},(∀x∈a,∀y∈b,f x=f y->x=y)->a.map f=b.map f->a=b
 |[],[],_,_=>rfl
 |[],_::_,_,h=>by simp at h
 |_::_,[],_,h=>by simp at h
 |x::a,y::b,hf,h=>by simp at h;rw[hf x (by simp) y (by simp) h.1,map_inj (fun u hu v hv=>hf u (by simp[hu]) v (by simp[hv])) h.2]
theorem FP{w v:Walk}(hw:∀p∈w,okP p)(hv:∀p∈v,okP p)(e:fS w=fS v):w=v:=by
 have key:∀{w:Walk},(∀p∈w,okP p)->w≠[]->parts 32 (fS w)=w.map bY:=by
  intro w hw hne;unfold fS;refine f6 (by simpa using hne) fun q hq=>?_
  obtain⟨p,hp,rfl⟩:=List.mem_map.mp hq;intro e;rcases jX (hw p hp) e with h1|h1<;>omega
 have hnil:∀{w:Walk},(∀p∈w,okP p)->fS w=[]->w=[]:=by
  intro w hw e;by_cases h:w=[]
  ·exact h
  ·exfalso;have k:=key hw h;rw[e]at k;have:[([]:List Int)]=w.map bY:=k;cases w with
   |nil=>exact h rfl
   |cons p w=>simp at this;exact A4 this.1
 by_cases h1:w=[]
 ·subst h1;exact(hnil hv e.symm).symm
 ·by_cases h2:v=[]
  ·subst h2;exact absurd (hnil hw e) h1
  ·have k1:=key hw h1;rw[e,key hv h2]at k1;exact map_inj (fun x hx y hy=>xM (hw x hx) (hv y hy)) k1.symm
theorem tF{a b:List Walk}(ha:rY a)(hb:rY b)(h:walksText a=walksText b):a=b:=by
 rw[<- iY ha,<- iY hb]at h;have h:=rB (qA ha) (qA hb) h;have k:=mZ ha;rw[h,mZ hb]at k;have k:a.map fS=b.map fS:=by simpa using k.symm
 exact map_inj (fun x hx y hy=>FP (ha x hx) (hb y hy)) k
noncomputable def bE(x y:Nat)(f:Foot):Bool:=(f.2==1&& f.1==(x,y))||(f.2==3&& f.1==(x,y+1))
noncomputable def bU(F:Nat->Nat->Bool)(y:Nat):Nat->Bool
 |0=>F 0 y
 |x+1=>xor (bU F y x) (F (x+1) y)
noncomputable def aO(F:Nat->Nat->Bool):Cells:=(List.range SIDE).flatMap fun y=>((List.range SIDE).map fun x=>((x,y):Cell)).filter fun c=>bU F c.2 c.1
theorem r8(F:List Foot)(y:Nat):wallsWest F (0,y)=F.countP (bE 0 y):=by
 unfold wallsWest;refine List.countP_congr fun f _=>?_
 simp[bE,Prod.ext_iff];omega
theorem v8{α:Type}{p q r:α->Bool}:∀{l:List α},(∀x∈l,r x=(p x||q x))->(∀x∈l,¬(p x=true/\q x=true))->l.countP r=l.countP p+l.countP q
 |[],_,_=>by simp
 |x::l,h1,h2=>by have ih:=v8 (l:=l) (fun y hy=>h1 y (by simp[hy])) (fun y hy=>h2 y (by simp[hy]));have a:=h1 x (by simp);have b:=h2 x (by simp);rw[List.countP_cons,List.countP_cons,List.countP_cons,ih,a];cases hp:p x<;>cases hq:q x<;>simp_all<;>omega
theorem r9(F:List Foot)(x y:Nat):wallsWest F (x+1,y)=wallsWest F (x,y)+F.countP (bE (x+1) y):=by
 unfold wallsWest;refine v8 (fun f _=>?_) fun f _ h=>?_
 ·rw[Bool.eq_iff_iff];simp[bE,Prod.ext_iff];omega
 ·simp[bE,Prod.ext_iff]at h;omega
theorem yE{F:List Foot}(h:∀x y,F.countP (bE x y)<=1)(y:Nat):∀x,bU (fun x y=>F.any (bE x y)) y x=(wallsWest F (x,y)%2==1):=by
 have one:∀x,F.any (bE x y)=(F.countP (bE x y)==1):=by
  intro x;have:=h x y;cases e:F.any (bE x y)with
  |true=>
   have:0<F.countP (bE x y):=by rw[List.countP_pos_iff];exact List.any_eq_true.mp e
   have:F.countP (bE x y)=1:=by omega
   simp[this]
  |false=>
   have:F.countP (bE x y)=0:=by rw[List.countP_eq_zero];intro a ha q;have:F.any (bE x y)=true:=List.any_eq_true.mpr ⟨a,ha,q⟩;rw[e]at this;cases this
   simp[this]
 intro x;induction x with
 |zero=>
  show F.any (bE 0 y)=_
  rw[r8,one];have:=h 0 y;rw[Bool.eq_iff_iff];simp;omega
 |succ x ih=>
  show xor (bU _ y x) (F.any (bE (x+1) y))=_
  rw[r9,ih,one];have:=h (x+1) y;rw[Bool.eq_iff_iff];have hx:∀a b:Nat,b<=1->(((a%2==1)^^ (b==1))=true↔((a+b)%2==1)=true):=by
   intro a b hb;have:b=0\/b=1:=by omega
   rcases this with rfl|rfl
   ·simp
   ·have:a%2=0\/a%2=1:=by omega
    rcases this with q|q
    ·simp[q];omega
    ·simp[q];omega
  exact hx _ _ this
theorem B8(ws:List Walk):cellsIn ws=(List.range SIDE).flatMap fun y=>((List.range SIDE).map fun x=>((x,y):Cell)).filter fun c=>wallsWest (ws.flatMap walkFeet) c%2==1:=by
 unfold cellsIn;dsimp only;congr 1;funext y;have west:∀x,wallsWest (((ws.flatMap walkFeet).filter fun(x:Foot)=>x.2==1||x.2==3).filter fun(x:Foot)=>x.1.2==y||x.1.2==y+1) (x,y)=wallsWest (ws.flatMap walkFeet) (x,y):=by
  intro x;unfold wallsWest;rw[List.countP_filter,List.countP_filter];refine List.countP_congr fun f _=>?_
  simp;omega
 split
 ·rename_i e;symm;rw[List.filter_eq_nil_iff];intro c hc;obtain⟨x,_,rfl⟩:=List.mem_map.mp hc;have w:=west x;rw[List.isEmpty_iff.mp e]at w;rw[<- w];simp[wallsWest]
 ·refine List.filter_congr fun c hc=>?_
  obtain⟨x,_,rfl⟩:=List.mem_map.mp hc;rw[west x]
theorem v9{ws:List Walk}(h:∀x y,(ws.flatMap walkFeet).countP (bE x y)<=1):cellsIn ws=aO fun x y=>(ws.flatMap walkFeet).any (bE x y):=by
 rw[B8,aO];congr 1;funext y;refine List.filter_congr fun c hc=>?_
 obtain⟨x,_,rfl⟩:=List.mem_map.mp hc;rw[yE h]
noncomputable def qI(a b:Point)(x y:Nat):Bool:=a.1==b.1&& (a.1==x&& (decide (min a.2 b.2<=y)&& decide (y<max a.2 b.2)))
theorem GL(a b:Point)(x y:Nat):(feet a b).any (bE x y)=qI a b x y:=by
 rw[Bool.eq_iff_iff,List.any_eq_true];unfold feet;constructor
 ·rintro⟨f,hf,hv⟩;by_cases h1:a.2=b.2
  ·rw[if_pos h1]at hf;split at hf
   ·obtain⟨i,_,rfl⟩:=List.mem_map.mp hf;simp[bE]at hv
   ·obtain⟨i,_,rfl⟩:=List.mem_map.mp hf;simp[bE]at hv
  ·rw[if_neg h1]at hf;by_cases h2:a.1=b.1
   ·rw[if_pos h2]at hf;split at hf
    ·obtain⟨i,hi,rfl⟩:=List.mem_map.mp hf;simp[bE,Prod.ext_iff]at hv hi;simp[qI];omega
    ·obtain⟨i,hi,rfl⟩:=List.mem_map.mp hf;simp[bE,Prod.ext_iff]at hv hi;simp[qI];omega
   ·rw[if_neg h2]at hf;simp at hf
 ·intro h;simp[qI]at h;obtain⟨h1,h2,h3,h4⟩:=h;have hne:a.2≠b.2:=by omega
  rw[if_neg hne,if_pos h1];by_cases hlt:a.2<b.2
  ·rw[if_pos hlt];refine⟨((a.1,y),1),List.mem_map.mpr ⟨y - a.2,by simp;omega,?_⟩,by simp[bE,Prod.ext_iff];omega⟩;simp[Prod.ext_iff];omega
  ·rw[if_neg hlt];refine⟨((a.1,y+1),3),List.mem_map.mpr ⟨a.2 - (y+1),by simp;omega,?_⟩,by simp[bE,Prod.ext_iff];omega⟩;simp[Prod.ext_iff];omega
noncomputable def dI(ws:List Walk)(x y:Nat):Bool:=ws.any fun w=>(sides w).any fun s=>qI s.1 s.2 x y
theorem DY(ws:List Walk)(x y:Nat):(ws.flatMap walkFeet).any (bE x y)=dI ws x y:=by unfold dI walkFeet;rw[List.any_flatMap];congr 1;funext w;rw[List.any_flatMap];congr 1;funext s;exact GL s.1 s.2 x y
theorem yI{l:Cells}(h:isHouse l=true):l≠[]/\l.length<=256/\(∀c∈l,c.1<64/\c.2<64)/\rising l=true/\pinched l=false:=by
 unfold isHouse at h;cases l with
 |nil=>simp at h
 |cons c r=>
  simp[Roof.within,SIDE,CELLS]at h;obtain⟨h1,h2,h3,h4,h5⟩:=h;refine⟨by simp,by simpa using h1,?_,h3,h5⟩;intro x hx;rcases List.mem_cons.mp hx with rfl|hx
  ·exact⟨of_decide_eq_true h2.1.1,of_decide_eq_true h2.1.2⟩
  ·exact⟨of_decide_eq_true (h2.2 x.1 x.2 hx).1,of_decide_eq_true (h2.2 x.1 x.2 hx).2⟩
theorem HI{l:Cells}(h:∀c∈l,c.1<64/\c.2<64){q:Point}{d:Nat}(ho:outOf l q=some d):okP q:=by have:=gI ho;unfold pointsOf at this;rw[sM]at this;obtain⟨c,hc,hq⟩:=List.mem_flatMap.mp this;have:=h c hc;simp at hq;rcases hq with rfl|rfl|rfl|rfl<;>(constructor<;>(try simp only)<;>omega)
theorem qF{l:Cells}(h:isHouse l=true):rY (walksOf l)/\∀x y,((walksOf l).flatMap walkFeet).countP (bE x y)<=1:=by
 obtain⟨_,_,hb,_,hp⟩:=yI h;obtain⟨F,h1,h2,h3,_,h5⟩:=eM hp (eZ.start l);refine⟨fun w hw p hpw=>?_,fun x y=>?_⟩
 ·obtain⟨d,hd⟩:=h5 w hw p hpw;exact HI hb hd
 ·show((walksFrom l [] (pointsOf l)).flatMap walkFeet).countP _<=1
  rw[h1];have nd:=nE h3;have uniq:∀f∈F,∀g∈F,bE x y f=true->bE x y g=true->f=g:=by
   intro f hf g hg vf vg;have of:=h2 f hf;have og:=h2 g hg;obtain⟨⟨a,b⟩,d⟩:=f;obtain⟨⟨a',b'⟩,d'⟩:=g;simp[bE,Prod.ext_iff]at vf vg;obtain⟨_,w1⟩:=bB of;obtain⟨_,w2⟩:=bB og;rw[eJ]at w1 w2;rcases vf with⟨e1,e2,e3⟩|⟨e1,e2,e3⟩<;>rcases vg with⟨g1,g2,g3⟩|⟨g1,g2,g3⟩
   ·subst e1 e2 e3 g1 g2 g3;rfl
   ·exfalso;subst e1 e2 e3 g1 g2 g3;simp[aW,ne,se]at w1 w2;rw[w1.2]at w2;simp at w2
   ·exfalso;subst e1 e2 e3 g1 g2 g3;simp[aW,ne,se]at w1 w2;rw[w2.2]at w1;simp at w1
   ·subst e1 e2 e3 g1 g2 g3;rfl
  have key:∀{F:List Foot},F.Nodup->(∀f∈F,∀g∈F,bE x y f=true->bE x y g=true->f=g)->F.countP (bE x y)<=1:=by
   intro F;induction F with
   |nil=>intro _ _;simp
   |cons f F ih=>
    intro nd u;obtain⟨n1,n2⟩:=List.nodup_cons.mp nd;rw[List.countP_cons];by_cases hv:bE x y f=true
    ·have:F.countP (bE x y)=0:=by rw[List.countP_eq_zero];intro g hg vg;have:=u f (by simp) g (by simp[hg]) hv vg;exact n1 (this▸hg)
     simp[this,hv]
    ·have:=ih n2 fun a ha b hb=>u a (by simp[ha]) b (by simp[hb])
     simp[hv];omega
  exact key nd uniq
noncomputable def G9(ws:List Walk):Option Cells:=if isHouse (aO (dI ws))=true/\walksOf (aO (dI ws))=ws then some (aO (dI ws))else none
theorem sQ(ws:List Walk):(fun x y=>(ws.flatMap walkFeet).any (bE x y))=dI ws:=by funext x y;exact DY ws x y
theorem AS{t:List Int}(ht:inB t){ws:List Walk}(o:A7 ws)(e:e7 t=some (iWs ws)):houseOf (RoofBNeutral.text t)=G9 ws:=by
 have inj:∀{a b:List Walk},iWs a=iWs b->a=b:=by intro a b h;refine map_inj (fun x _ y _ q=>map_inj (fun p _ p' _ r=>?_) q) h;have a1:=congrArg Prod.fst r;have a2:=congrArg Prod.snd r;simp[iP]at a1 a2;exact Prod.ext (by omega) (by omega)
 have hr:readWalks (RoofBNeutral.text t)=.ok ws:=by
  cases q:readWalks (RoofBNeutral.text t)with
  |error p=>rw[CZ q]at e;cases e
  |ok v=>have:=(reads ht q).1;rw[e]at this;rw[inj (Option.some.inj this)]
 have hx:=(mV hr).2;have okp:rY ws:=fun w hw=>(o.2 w hw).2
 unfold houseOf;rw[hr];dsimp only;unfold G9;by_cases h1:isHouse (cellsIn ws)=true/\textOf (cellsIn ws)=RoofBNeutral.text t
 ·rw[if_pos h1];obtain⟨k1,k2⟩:=qF h1.1;have hw:walksOf (cellsIn ws)=ws:=tF k1 okp (by rw[<- hx];exact h1.2);rw[hw]at k2;have e2:=v9 k2;rw[sQ]at e2;rw[<- e2,if_pos ⟨h1.1,hw⟩]
 ·rw[if_neg h1];by_cases h2:isHouse (aO (dI ws))=true/\walksOf (aO (dI ws))=ws
  ·exfalso;obtain⟨k1,k2⟩:=qF h2.1;rw[h2.2]at k2;have e2:=v9 k2;rw[sQ]at e2;refine h1 ⟨by rw[e2];exact h2.1,?_⟩;rw[e2,textOf,h2.2,hx]
  ·rw[if_neg h2]
theorem AU{t:List Int}(ht:inB t)(e:e7 t=none):houseOf (RoofBNeutral.text t)=none:=by
 unfold houseOf;cases q:readWalks (RoofBNeutral.text t)with
 |error p=>rfl
 |ok v=>have:=(reads ht q).1;rw[e]at this;cases this
end RM
namespace RM
open Roof
noncomputable def aM(p:Pl)(s:Nat):Pl:=if s=0 then(p.1,p.2 - 1)else if s=1 then(p.1+1,p.2)else if s=2 then(p.1,p.2+1)else(p.1 - 1,p.2)
theorem fT{a b:Point}(h:iP a=iP b):a=b:=by have a1:=congrArg Prod.fst h;have a2:=congrArg Prod.snd h;simp[iP]at a1 a2;exact Prod.ext (by omega) (by omega)
theorem gL{l:Cells}{x:Cell}:iP x∈iW l↔x∈l:=by
 constructor
 ·intro h;obtain⟨y,hy,e⟩:=List.mem_map.mp h;exact fT e▸hy
 ·exact fun h=>List.mem_map.mpr ⟨x,h,rfl⟩
theorem qM{x y:Cell}:y∈beside x↔∃s,s<4/\iP y=aM (iP x) s:=by
 obtain⟨a,b⟩:=x;obtain⟨u,v⟩:=y;constructor
 ·intro h;unfold beside at h;rw[List.mem_append,List.mem_append]at h;rcases h with h|h|h
  ·simp at h;rcases h with⟨rfl,rfl⟩|⟨rfl,rfl⟩
   ·exact⟨1,by omega,by simp[iP,aM]⟩
   ·exact⟨2,by omega,by simp[iP,aM]⟩
  ·split at h
   ·simp at h;obtain⟨rfl,rfl⟩:=h;rename_i q;exact⟨3,by omega,by simp[iP,aM];simp at q;omega⟩
   ·simp at h
  ·split at h
   ·simp at h;obtain⟨rfl,rfl⟩:=h;rename_i q;exact⟨0,by omega,by simp[iP,aM];simp at q;omega⟩
   ·simp at h
 ·rintro⟨s,hs,e⟩;have cs:s=0\/s=1\/s=2\/s=3:=by omega
  unfold beside;rw[List.mem_append,List.mem_append];rcases cs with rfl|rfl|rfl|rfl
  ·simp[iP,aM]at e;right;right;rw[if_pos (show 0<b by omega)];simp;omega
  ·simp[iP,aM]at e;left;simp;omega
  ·simp[iP,aM]at e;left;simp;omega
  ·simp[iP,aM]at e;right;left;rw[if_pos (show 0<a by omega)];simp;omega
inductive tE (l:Cells) (c:Cell):Cell->Prop where
 |refl:tE l c c
 |step {x y:Cell}:tE l c x->y∈beside x->y∈l->tE l c y
theorem z8{l:Cells}{c:Cell}{R:List Cell}(h0:c∈R)(hc:∀x∈R,∀y∈beside x,y∈l->y∈R):∀x,tE l c x->x∈R:=by
 intro x h;induction h with
 |refl=>exact h0
 |step _ h1 h2 ih=>exact hc _ ih _ h1 h2
theorem xB{α:Type}[DecidableEq α]{R l:List α}(hR:R.Nodup)(hl:l.Nodup)(hs:∀x∈R,x∈l):R.length=l.length↔∀x∈l,x∈R:=by
 constructor
 ·intro e x hx;apply Classical.byContradiction;intro hn;have:=cK (a:=R) (b:=l.erase x) hR fun y hy=>(List.mem_erase_of_ne (fun(q:y=x)=>hn (q▸hy))).mpr (hs y hy)
  rw[List.length_erase_of_mem hx]at this;have:0<l.length:=List.length_pos_of_mem hx;omega
 ·intro h;exact Nat.le_antisymm (cK hR hs) (cK hl h)
theorem jK{α:Type}[BEq α][LawfulBEq α]:∀(n:Nat)(l:List α),l.length<=n->l.eraseDups.Nodup
 |0,l,h=>by have:l=[]:=List.length_eq_zero_iff.mp (by omega);subst this;simp
 |n+1,[],h=>by simp
 |n+1,a::l,h=>by
  rw[List.eraseDups_cons];refine List.nodup_cons.mpr ⟨fun hm=>?_,jK n _ ?_⟩
  ·rw[List.mem_eraseDups]at hm;simp at hm
  ·have:=List.length_filter_le (fun b=>!b==a) l;simp at h;omega
structure CG(l:Cells)(c:Cell)(R:List Cell):Prop where
 nd:R.Nodup
 sub:∀x∈R,x∈l
 conn:∀x∈R,tE l c x
 start:c∈R
theorem uE{l:Cells}{c:Cell}:∀(f:Nat)(seen new:List Cell),CG l c seen->(∀x∈new,x∈seen)->(∀x∈seen,x∉new->∀y∈beside x,y∈l->y∈seen)->l.length<seen.length+f ->
  CG l c (reach l f seen new)/\∀x∈reach l f seen new,∀y∈beside x,y∈l->y∈reach l f seen new
 |0,seen,new,h,_,_,hl=>by have:=cK h.nd h.sub;omega
 |f+1,seen,new,h,hn,hc,hl=>by
  have eR:reach l (f+1) seen new=(if((new.flatMap beside).filter fun(c:Cell)=>l.contains c&& !seen.contains c).eraseDups=[]then seen else
   reach l f (seen++((new.flatMap beside).filter fun(c:Cell)=>l.contains c&& !seen.contains c).eraseDups) ((new.flatMap beside).filter fun(c:Cell)=>l.contains c&& !seen.contains c).eraseDups):=rfl
  rw[eR];generalize hN:((new.flatMap beside).filter fun(c:Cell)=>l.contains c&& !seen.contains c).eraseDups=N;have hm:∀y,y∈N↔(∃x∈new,y∈beside x)/\y∈l/\y∉seen:=by intro y;rw[<- hN,List.mem_eraseDups,List.mem_filter,List.mem_flatMap];simp
  have hnd:N.Nodup:=hN▸jK _ _ (Nat.le_refl _);have full:∀x∈seen,∀y∈beside x,y∈l->y∈seen\/y∈N:=by
   intro x hx y hy hyl;by_cases hxn:x∈new
   ·by_cases hys:y∈seen
    ·exact .inl hys
    ·exact .inr ((hm y).mpr ⟨⟨x,hxn,hy⟩,hyl,hys⟩)
   ·exact .inl (hc x hx hxn y hy hyl)
  by_cases he:N=[]
  ·rw[if_pos he];refine⟨h,fun x hx y hy hyl=>?_⟩;rcases full x hx y hy hyl with q|q
   ·exact q
   ·rw[he]at q;simp at q
  ·rw[if_neg he];refine uE f (seen++N) N ⟨?_,?_,?_,List.mem_append_left _ h.start⟩ (fun x hx=>List.mem_append_right _ hx) ?_ ?_
   ·rw[List.nodup_append];refine⟨h.nd,hnd,fun a ha b hb e=>?_⟩;exact((hm b).mp hb).2.2 (e▸ha)
   ·intro x hx;rcases List.mem_append.mp hx with hx|hx
    ·exact h.sub x hx
    ·exact((hm x).mp hx).2.1
   ·intro x hx;rcases List.mem_append.mp hx with hx|hx
    ·exact h.conn x hx
    ·obtain⟨⟨z,hz,q⟩,hl,_⟩:=(hm x).mp hx;exact .step (h.conn z (hn z hz)) q hl
   ·intro x hx hxn y hy hyl;rcases List.mem_append.mp hx with hx|hx
    ·rcases full x hx y hy hyl with q|q
     ·exact List.mem_append_left _ q
     ·exact List.mem_append_right _ q
    ·exact absurd hx hxn
   ·have:0<N.length:=List.length_pos_iff.mpr he;rw[List.length_append];omega
theorem D0{l:Cells}(hl:l.Nodup){c:Cell}(hc:c∈l):(reach l l.length [c] [c]).length=l.length↔∀x∈l,tE l c x:=by
 obtain⟨h,hcl⟩:=uE l.length [c] [c] (l:=l) (c:=c) ⟨by simp,by simpa using hc,by intro x hx;simp at hx;subst hx;exact .refl,by simp⟩ (by simp) (by intro x hx hn;exact absurd hx hn) (by simp);rw[xB h.nd hl h.sub];constructor
 ·exact fun q x hx=>h.conn x (q x hx)
 ·exact fun q x hx=>z8 h.start hcl x (q x hx)
structure Dfs(l:Cells)(c:Cell)(reached waiting:List Pl):Prop where
 nd:reached.Nodup
 sub:∀p∈reached,∃x∈l,p=iP x/\tE l c x
 wait:∀p∈waiting,∀x∈l,p=iP x->tE l c x
 start:iP c∈reached\/iP c∈waiting
 oO:∀p∈reached,∀s,s<4->aM p s∈iW l->aM p s∈reached\/aM p s∈waiting
theorem Dfs.first{l:Cells}{c:Cell}:Dfs l c [] [iP c]:=
 ⟨by simp,by simp,by intro p hp x hx e;simp at hp;subst hp;rw[fT e];exact .refl,.inr (by simp),by simp⟩
theorem Dfs.skip{l:Cells}{c:Cell}{reached w:List Pl}{p:Pl}(h:Dfs l c reached (w++[p]))(hc:c∈l)(hp:p∉iW l\/p∈reached):Dfs l c reached w:=by
 refine⟨h.nd,h.sub,fun q hq=>h.wait q (by simp[hq]),?_,fun q hq s hs hm=>?_⟩
 ·rcases h.start with e|e
  ·exact .inl e
  ·rcases List.mem_append.mp e with e|e
   ·exact .inr e
   ·simp at e;rcases hp with hp|hp
    ·rw[<- e]at hp;exact absurd (gL.mpr hc) hp
    ·rw[e];exact .inl hp
 ·rcases h.oO q hq s hs hm with e|e
  ·exact .inl e
  ·rcases List.mem_append.mp e with e|e
   ·exact .inr e
   ·simp at e;rcases hp with hp|hp
    ·rw[e]at hm;exact absurd hm hp
    ·rw[e];exact .inl hp
theorem Dfs.take{l:Cells}{c:Cell}{reached w:List Pl}{p:Pl}(h:Dfs l c reached (w++[p]))(hp:p∈iW l)(hn:p∉reached):
  Dfs l c (reached++[p]) (w++[aM p 0,aM p 1,aM p 2,aM p 3]):=by
 obtain⟨x,hx,e⟩:=List.mem_map.mp hp;have hcx:tE l c x:=h.wait p (by simp) x hx e.symm;refine⟨?_,?_,?_,?_,?_⟩
 ·rw[List.nodup_append];refine⟨h.nd,by simp,fun a ha b hb=>?_⟩;simp at hb;subst hb;intro q;exact hn (q▸ha)
 ·intro q hq;rcases List.mem_append.mp hq with hq|hq
  ·exact h.sub q hq
  ·simp at hq;exact⟨x,hx,by rw[hq,e],hcx⟩
 ·intro q hq y hy ey;rcases List.mem_append.mp hq with hq|hq
  ·exact h.wait q (by simp[hq]) y hy ey
  ·have:y∈beside x:=by
    rw[qM];simp at hq;rcases hq with q0|q0|q0|q0
    ·exact⟨0,by omega,by rw[e,<- ey,q0]⟩
    ·exact⟨1,by omega,by rw[e,<- ey,q0]⟩
    ·exact⟨2,by omega,by rw[e,<- ey,q0]⟩
    ·exact⟨3,by omega,by rw[e,<- ey,q0]⟩
   exact .step hcx this hy
 ·rcases h.start with q|q
  ·exact .inl (by simp[q])
  ·rcases List.mem_append.mp q with q|q
   ·exact .inr (by simp[q])
   ·simp at q;exact .inl (by simp[q])
 ·intro q hq s hs hm;rcases List.mem_append.mp hq with hq|hq
  ·rcases h.oO q hq s hs hm with r|r
   ·exact .inl (by simp[r])
   ·rcases List.mem_append.mp r with r|r
    ·exact .inr (by simp[r])
    ·simp at r;exact .inl (by simp[r])
  ·simp at hq;subst hq;have cs:s=0\/s=1\/s=2\/s=3:=by omega
   right;rcases cs with rfl|rfl|rfl|rfl<;>simp
theorem Dfs.len{l:Cells}{c:Cell}{reached w:List Pl}(h:Dfs l c reached w):reached.length<=l.length:=by
 have:=cK (b:=iW l) h.nd fun p hp=>by obtain⟨x,hx,e,_⟩:=h.sub p hp;rw[e];exact gL.mpr hx
 simpa[iW]using this
theorem Dfs.done{l:Cells}(hl:l.Nodup){c:Cell}(hc:c∈l){reached:List Pl}(h:Dfs l c reached []):decide (reached.length=l.length)=((reach l l.length [c] [c]).length==l.length):=by
 have e1:(iW l).length=l.length:=by simp[iW]
 have nd:(iW l).Nodup:=cT hl fun x _ y _ e=>fT e
 have k1:=xB (R:=reached) (l:=iW l) h.nd nd fun p hp=>by obtain⟨x,hx,e,_⟩:=h.sub p hp;rw[e];exact gL.mpr hx
 rw[e1]at k1;have k2:=D0 hl hc;have k3:(∀x∈iW l,x∈reached)↔∀x∈l,tE l c x:=by
  constructor
  ·intro q x hx;obtain⟨y,hy,e,hcy⟩:=h.sub _ (q (iP x) (gL.mpr hx));rw[fT e];exact hcy
  ·intro q p hp;obtain⟨x,hx,rfl⟩:=List.mem_map.mp hp;have key:∀x,tE l c x->iP x∈reached:=by
    intro x hcx;induction hcx with
    |refl=>
     rcases h.start with r|r
     ·exact r
     ·simp at r
    |step _ h1 h2 ih=>
     obtain⟨s,hs,e⟩:=qM.mp h1;rcases h.oO _ ih s hs (by rw[<- e];exact gL.mpr h2)with r|r
     ·rw[e];exact r
     ·simp at r
   exact key x (q x hx)
 rw[Bool.eq_iff_iff];simp only[decide_eq_true_eq,beq_iff_eq];rw[k1,k3,k2]
noncomputable def aZ(l:Cells)(p:Pl)(s:Nat):Bool:=!decide (aM p s∈iW l)&& (!decide (aM p ((s+1)%4)∈iW l)&& decide (aM (aM p s) ((s+1)%4)∈iW l))
theorem m8{l:Cells}{x y:Int}:(x,y)∈iW l↔inI l x y=true:=by
 constructor
 ·intro h;obtain⟨c,hc,e⟩:=List.mem_map.mp h;have a1:=congrArg Prod.fst e;have a2:=congrArg Prod.snd e;simp[iP]at a1 a2;rw[<- a1,<- a2,c6];simpa using hc
 ·intro h;obtain⟨h1,h2,h3⟩:=bL h;refine List.mem_map.mpr ⟨_,h3,?_⟩;simp[iP];omega
theorem jF{l:Cells}{x y:Int}:decide ((x,y)∈iW l)=inI l x y:=by rw[Bool.eq_iff_iff,decide_eq_true_eq];exact m8
theorem zV{l:Cells}:pinched l=(iW l).any fun p=>aZ l p 0||(aZ l p 1||(aZ l p 2||aZ l p 3)):=by
 have m0:∀x y:Int,aZ l (x,y) 0=(!inI l x (y - 1)&& (!inI l (x+1) y&& inI l (x+1) (y - 1))):=by intro x y;simp only[aZ,aM];simp only[jF,if_pos,if_neg (show¬((0+1)%4=0) by decide),if_pos (show(0+1)%4=1 by decide)]
 have m1:∀x y:Int,aZ l (x,y) 1=(!inI l (x+1) y&& (!inI l x (y+1)&& inI l (x+1) (y+1))):=by intro x y;simp[aZ,aM,jF]
 have m2:∀x y:Int,aZ l (x,y) 2=(!inI l x (y+1)&& (!inI l (x - 1) y&& inI l (x - 1) (y+1))):=by intro x y;simp[aZ,aM,jF]
 have m3:∀x y:Int,aZ l (x,y) 3=(!inI l (x - 1) y&& (!inI l x (y - 1)&& inI l (x - 1) (y - 1))):=by intro x y;simp[aZ,aM,jF]
 rw[Bool.eq_iff_iff];constructor
 ·intro h;obtain⟨⟨a,b⟩,hc,q⟩:=List.any_eq_true.mp h;refine List.any_eq_true.mpr ⟨iP (a,b),gL.mpr hc,?_⟩;show(aZ l ((a:Int),(b:Int)) 0||(aZ l ((a:Int),(b:Int)) 1||(aZ l ((a:Int),(b:Int)) 2||aZ l ((a:Int),(b:Int)) 3)))=true
  rw[m1,m2];rw[Bool.or_eq_true]at q;rcases q with q|q
  ·simp only[Bool.and_eq_true,Bool.not_eq_true',Bool.or_eq_false_iff]at q;have b1:inI l ((a:Int)+1) ((b:Int)+1)=true:=by have:=c6 l (a+1) (b+1);rw[q.1]at this;simpa using this
   have b2:inI l ((a:Int)+1) b=false:=by have:=c6 l (a+1) b;rw[q.2.1]at this;simpa using this
   have b3:inI l (a:Int) ((b:Int)+1)=false:=by have:=c6 l a (b+1);rw[q.2.2]at this;simpa using this
   simp[b1,b2,b3]
  ·simp only[Bool.and_eq_true,Bool.not_eq_true',Bool.or_eq_false_iff,decide_eq_true_eq]at q;obtain⟨q0,q1,q2,q3⟩:=q;have e:((a - 1:Nat):Int)=(a:Int) - 1:=by have:0<a:=q0;omega
   have b1:inI l ((a:Int) - 1) ((b:Int)+1)=true:=by have:=c6 l (a - 1) (b+1);rw[q1,e]at this;simpa using this
   have b2:inI l ((a:Int) - 1) b=false:=by have:=c6 l (a - 1) b;rw[q2,e]at this;simpa using this
   have b3:inI l (a:Int) ((b:Int)+1)=false:=by have:=c6 l a (b+1);rw[q3]at this;simpa using this
   simp[b1,b2,b3]
 ·intro h;obtain⟨p,hp,q⟩:=List.any_eq_true.mp h;cases hb:pinched l with
  |true=>rfl
  |false=>
   exfalso;obtain⟨x,y⟩:=p;have hp:=m8.mp hp;rw[m0,m1,m2,m3]at q;simp only[Bool.or_eq_true,Bool.and_eq_true,Bool.not_eq_true']at q;rcases q with⟨q1,q2,q3⟩|⟨q1,q2,q3⟩|⟨q1,q2,q3⟩|⟨q1,q2,q3⟩
   ·
    refine(gD hb (x+1) y).2 ⟨?_,?_,?_,?_⟩
    ·rw[nw,show x+1 - 1=x by omega];exact hp
    ·exact q3
    ·exact q2
    ·rw[sw,show x+1 - 1=x by omega];exact q1
   ·refine(gD hb (x+1) (y+1)).1 ⟨?_,?_,?_,?_⟩
    ·rw[sw,show x+1 - 1=x by omega,show y+1 - 1=y by omega];exact hp
    ·exact q3
    ·rw[se,show y+1 - 1=y by omega];exact q1
    ·rw[nw,show x+1 - 1=x by omega];exact q2
   ·refine(gD hb x (y+1)).2 ⟨?_,?_,?_,?_⟩
    ·exact q3
    ·rw[se,show y+1 - 1=y by omega];exact hp
    ·exact q1
    ·rw[sw,show y+1 - 1=y by omega];exact q2
   ·refine(gD hb x y).1 ⟨?_,?_,?_,?_⟩
    ·exact q3
    ·exact hp
    ·exact q2
    ·exact q1
theorem rN:∀{l:Cells},rising l=true↔l.Pairwise fun a b=>before a b=true
 |[]=>by simp[rising]
 |[a]=>by simp[rising]
 |a::b::r=>by
  have ih:=rN (l:=b::r);unfold rising;rw[Bool.and_eq_true,ih,List.pairwise_cons (l:=b::r)];constructor
  ·rintro⟨h1,h2⟩;refine⟨fun x hx=>?_,h2⟩;rcases List.mem_cons.mp hx with rfl|hx
   ·exact h1
   ·exact jG h1 ((List.pairwise_cons.mp h2).1 x hx)
  ·rintro⟨h1,h2⟩;exact⟨h1 b (by simp),h2⟩
theorem gO{F:Nat->Nat->Bool}{c:Cell}:c∈aO F↔c.1<64/\c.2<64/\bU F c.2 c.1=true:=by
 unfold aO SIDE;simp only[List.mem_flatMap,List.mem_filter,List.mem_map,List.mem_range];constructor
 ·rintro⟨y,hy,⟨x,hx,rfl⟩,h⟩;exact⟨hx,hy,h⟩
 ·rintro⟨h1,h2,h3⟩;exact⟨c.2,h2,⟨c.1,h1,rfl⟩,h3⟩
theorem lX(F:Nat->Nat->Bool):(aO F).Pairwise fun a b=>before a b=true:=by
 unfold aO;rw[List.pairwise_flatMap];refine⟨fun y _=>?_,?_⟩
 ·refine List.Pairwise.filter _ ?_;rw[List.pairwise_map];refine List.Pairwise.imp (fun{a b} h=>?_) List.pairwise_lt_range;rw[cP];exact .inr ⟨rfl,h⟩
 ·refine List.Pairwise.imp (fun{a b} h=>?_) List.pairwise_lt_range;intro x hx y hy;simp only[List.mem_filter,List.mem_map]at hx hy;obtain⟨⟨i,_,rfl⟩,_⟩:=hx;obtain⟨⟨j,_,rfl⟩,_⟩:=hy;rw[cP];exact .inl h
theorem sJ{F:Nat->Nat->Bool}{c:Cell}{r:Cells}(e:aO F=c::r):
  isHouse (aO F)=(decide ((aO F).length<=256)&& (!pinched (aO F)&& ((reach (aO F) (aO F).length [c] [c]).length==(aO F).length))):=by
 have h1:(aO F).all Roof.within=true:=List.all_eq_true.mpr fun x hx=>by have:=gO.mp hx;simp[Roof.within,SIDE];exact⟨decide_eq_true this.1,decide_eq_true this.2.1⟩
 have h2:=rN.mpr (lX F);rw[e]at h1 h2 ⊢;show(decide ((c::r).length<=CELLS)&& ((c::r).all Roof.within&& (rising (c::r)&& ((reach (c::r) (c::r).length [c] [c]).length==(c::r).length&& !pinched (c::r)))))=_
 rw[h1,h2,Bool.true_and,Bool.true_and,Bool.and_comm (!pinched (c::r))];rfl
theorem yC:isHouse []=false:=rfl
end RM
namespace RM
open Roof
def hP(r:Nat):Pl:=((iOf r:Int),(jOf r:Int))
def okR(r:Nat):Prop:=∃i j,i<128/\j<128/\r=raw i j
theorem vX{i j:Nat}(hi:i<128):iOf (raw i j)=i:=by unfold iOf raw W;omega
theorem vW{i j:Nat}(hi:i<128):jOf (raw i j)=j:=by unfold jOf raw W;omega
theorem dH{i j:Nat}(hi:i<128):hP (raw i j)=((i:Int),(j:Int)):=by unfold hP;rw[vX hi,vW hi]
theorem mF{r q:Nat}(hr:okR r)(hq:okR q)(e:hP r=hP q):r=q:=by
 obtain⟨i,j,hi,hj,rfl⟩:=hr;obtain⟨i',j',hi',hj',rfl⟩:=hq;rw[dH hi,dH hi']at e;have a:=congrArg Prod.fst e;have b:=congrArg Prod.snd e;simp at a b;have a:i=i':=by omega
 have b:j=j':=by omega
 rw[a,b]
theorem FV{r:Nat}(h:okR r):r<W*W:=by obtain⟨i,j,hi,hj,rfl⟩:=h;unfold raw W;omega
theorem IH{L:List Nat}(hL:∀q∈L,okR q){r q:Nat}(hr:okR r){dx dy:Int}(h1:-1<=dx/\dx<=1)(h2:-1<=dy/\dy<=1)(hq:(q:Int)=r+130*dy+dx):
  q∈L↔((hP r).1+dx,(hP r).2+dy)∈L.map hP:=by
 obtain⟨i,j,hi,hj,rfl⟩:=hr;rw[dH hi];constructor
 ·intro h;refine List.mem_map.mpr ⟨q,h,?_⟩;obtain⟨i',j',hi',hj',e⟩:=hL q h;rw[e,dH hi'];unfold raw W at e hq;apply Prod.ext
  ·simp;omega
  ·simp;omega
 ·intro h;obtain⟨z,hz,e⟩:=List.mem_map.mp h;obtain⟨i',j',hi',hj',ez⟩:=hL z hz;rw[ez,dH hi']at e;have a:=congrArg Prod.fst e;have b:=congrArg Prod.snd e;simp at a b;have:z=q:=by rw[ez];unfold raw W at hq ⊢;omega
  rw[<- this];exact hz
noncomputable def aX(h:List Nat):Nat->List Nat
 |0=>h
 |k+1=>(aX h k).filter fun r=>(about r).all fun q=>(aX h k).contains q
noncomputable def eX(p:Pl):List Pl:=[(p.1+-1,p.2+-1),(p.1+0,p.2+-1),(p.1+1,p.2+-1),(p.1+-1,p.2+0),(p.1+1,p.2+0),(p.1+-1,p.2+1),(p.1+0,p.2+1),(p.1+1,p.2+1)]
noncomputable def aU(hs:List Pl):Nat->List Pl
 |0=>hs
 |k+1=>(aU hs k).filter fun p=>(eX p).all fun q=>(aU hs k).contains q
theorem k8(h:List Nat):∀k,∀r∈aX h k,r∈h
 |0,r,hr=>hr
 |k+1,r,hr=>k8 h k r (List.mem_filter.mp hr).1
theorem j8{h:List Nat}(hh:∀r∈h,okR r)(k:Nat):∀r∈aX h k,okR r:=fun r hr=>hh r (k8 h k r hr)
theorem EH{L:List Nat}(hL:∀q∈L,okR q){r:Nat}(hr:okR r):((about r).all fun q=>L.contains q)=(eX (hP r)).all fun q=>(L.map hP).contains q:=by
 obtain⟨i,j,hi,hj,e⟩:=id hr;have key:∀{q:Nat}{dx dy:Int},(-1<=dx/\dx<=1)->(-1<=dy/\dy<=1)->((q:Int)=r+130*dy+dx)->L.contains q=(L.map hP).contains ((hP r).1+dx,(hP r).2+dy):=by intro q dx dy h1 h2 hq;rw[Bool.eq_iff_iff];simp only[List.contains_iff_mem];exact IH hL hr h1 h2 hq
 have hr0:131<=r:=by rw[e];unfold raw W;omega
 simp only[about,eX,List.all_cons,List.all_nil];rw[key (dx:=-1) (dy:=-1) (by omega) (by omega) (by unfold W;omega),key (dx:=0) (dy:=-1) (by omega) (by omega) (by unfold W;omega),key (dx:=1) (dy:=-1) (by omega) (by omega) (by unfold W;omega),
  key (dx:=-1) (dy:=0) (by omega) (by omega) (by omega),key (dx:=1) (dy:=0) (by omega) (by omega) (by omega),
  key (dx:=-1) (dy:=1) (by omega) (by omega) (by unfold W;omega),key (dx:=0) (dy:=1) (by omega) (by omega) (by unfold W;omega),key (dx:=1) (dy:=1) (by omega) (by omega) (by unfold W;omega)]
theorem dG{h:List Nat}(hh:∀r∈h,okR r):∀k,aU (h.map hP) k=(aX h k).map hP
 |0=>rfl
 |k+1=>by
  have ih:=dG hh k;show(aU (h.map hP) k).filter _=((aX h k).filter _).map hP
  rw[ih,List.filter_map];have e:=List.filter_congr (l:=aX h k) (p:=(fun p=>(eX p).all fun q=>((aX h k).map hP).contains q)∘hP) (q:=fun r=>(about r).all fun q=>(aX h k).contains q) fun r hr=>(EH (j8 hh k) (j8 hh k r hr)).symm
  rw[e]
theorem mB{h:List Nat}(hh:∀r∈h,okR r):∀k,∀p∈aU (h.map hP) k,(k:Int)<=p.1/\p.1+k<=127
 |0,p,hp=>by obtain⟨r,hr,rfl⟩:=List.mem_map.mp hp;obtain⟨i,j,hi,hj,rfl⟩:=hh r hr;rw[dH hi];simp;omega
 |k+1,p,hp=>by obtain⟨h1,h2⟩:=List.mem_filter.mp hp;simp only[List.all_eq_true,List.contains_iff_mem]at h2;have a:=mB hh k _ (h2 (p.1+-1,p.2+0) (by simp[eX]));have b:=mB hh k _ (h2 (p.1+1,p.2+0) (by simp[eX]));simp at a b;simp;omega
theorem f9{h:List Nat}(hh:∀r∈h,okR r){k:Nat}(hk:64<=k):aX h k=[]:=by
 have:=mB hh k;rw[dG hh]at this;cases e:aX h k with
 |nil=>rfl
 |cons r t=>rw[e]at this;have:=this (hP r) (by simp);omega
theorem qD{h:List Nat}{k:Nat}(e:aX h k=[]):∀m,k<=m->aX h m=[]
 |0,hm=>by
  have:k=0:=by omega
  rw[<- this];exact e
 |m+1,hm=>by
  by_cases hk:k=m+1
  ·rw[<- hk];exact e
  ·show(aX h m).filter _=[]
   rw[qD e m (by omega)];rfl
noncomputable def gv(h:List Nat):Nat->Nat->Nat
 |0,_=>0
 |k+1,r=>if r∈aX h k then k+1 else gv h k r
theorem JX(h:List Nat):∀k r,gv h k r<=k
 |0,r=>Nat.le_refl _
 |k+1,r=>by
  unfold gv;split
  ·exact Nat.le_refl _
  ·exact Nat.le_succ_of_le (JX h k r)
theorem L9{h:List Nat}{k r:Nat}:k+1<=gv h (k+1) r↔r∈aX h k:=by
 show k+1<=(if r∈aX h k then k+1 else gv h k r)↔ _
 split
 ·rename_i q;simp[q]
 ·rename_i q;have:=JX h k r;simp[q];omega
theorem nM{h:List Nat}{k:Nat}(e:aX h k=[])(r:Nat):∀m,k<=m->gv h m r=gv h k r
 |0,hm=>by
  have:k=0:=by omega
  rw[this]
 |m+1,hm=>by
  by_cases hk:k=m+1
  ·rw[hk]
  ·show(if r∈aX h m then m+1 else gv h m r)=_
   rw[qD e m (by omega),if_neg (by simp)];exact nM e r m (by omega)
theorem rV(k:Nat):∀(l:List Nat)(g:Grid),(put g k l).size=g.size
 |[],g=>rfl
 |r::l,g=>by
  show(put (g.setIfInBounds r k) k l).size=_
  rw[rV k l];simp
theorem vQ(k:Nat):∀(l:List Nat)(g:Grid)(r:Nat),(∀x∈l,x<g.size)->(put g k l).val r=if r∈l then k else g.val r
 |[],g,r,_=>by simp[put]
 |x::l,g,r,h=>by
  show(put (g.setIfInBounds x k) k l).val r=_
  rw[vQ k l _ r fun y hy=>by simpa using h y (by simp[hy])];have hx:=h x (by simp);by_cases h1:r∈l
  ·simp[h1]
  ·rw[if_neg h1];by_cases h2:r=x
   ·subst h2;simp only[List.mem_cons,true_or,if_true];simp[Grid.val,Array.getD_eq_getD_getElem?,hx]
   ·have h3:¬r∈x::l:=by simp[h1,h2]
    rw[if_neg h3];unfold Grid.val;simp only[Array.getD_eq_getD_getElem?,Array.getElem?_setIfInBounds];rw[if_neg (fun e=>h2 e.symm)]
theorem wZ{h:List Nat}(hh:∀r∈h,okR r):∀(f k:Nat)(g:Grid),g.size=W*W->(∀r,g.val r=gv h (k+1) r)->64<=f+k->∀r,(sink f (k+1) (aX h k) g).val r=gv h (f+k+1) r
 |0,k,g,hs,hg,hk,r=>by
  show g.val r=_
  rw[hg];simp
 |f+1,k,g,hs,hg,hk,r=>by
  have en:((aX h k).filter fun(r:Nat)=>(about r).all fun(q:Nat)=>decide (k+1<=g.val q))=aX h (k+1):=by
   show _=(aX h k).filter _
   refine List.filter_congr fun r hr=>?_
   congr 1;funext q;rw[Bool.eq_iff_iff,decide_eq_true_eq,List.contains_iff_mem,hg];exact L9
  show(if((aX h k).filter fun(r:Nat)=>(about r).all fun(q:Nat)=>decide (k+1<=g.val q)).isEmpty=true then g else sink f (k+1+1) ((aX h k).filter fun(r:Nat)=>(about r).all fun(q:Nat)=>decide (k+1<=g.val q)) (put g (k+1+1) ((aX h k).filter fun(r:Nat)=>(about r).all fun(q:Nat)=>decide (k+1<=g.val q)))).val r=_
  rw[en];by_cases he:(aX h (k+1)).isEmpty=true
  ·rw[if_pos he,hg];exact(nM (List.isEmpty_iff.mp he) r _ (by omega)).symm
  ·rw[if_neg he];have lt:∀x∈aX h (k+1),x<g.size:=fun x hx=>by rw[hs];exact FV (j8 hh _ x hx)
   rw[wZ hh f (k+1) _ (by rw[rV,hs]) (fun x=>?_) (by omega) r]
   ·congr 1;omega
   ·rw[vQ _ _ _ _ lt,hg];rfl
theorem yN{h:List Nat}(hh:∀r∈h,okR r){n:Nat}(hn:aX h n=[])(r:Nat):(gridOf h).val r=gv h n r:=by
 unfold gridOf HALVES;have e:(put (Array.replicate (W*W) 0) 1 h).size=W*W:=by rw[rV];simp
 have lt:∀x∈h,x<(Array.replicate (W*W) (0:Nat)).size:=fun x hx=>by have:=FV (hh x hx);simpa using this
 have z:∀r,Grid.val (Array.replicate (W*W) 0) r=0:=by intro r;unfold Grid.val;rw[Array.getD_eq_getD_getElem?,Array.getElem?_replicate];split<;>rfl
 have:=wZ hh 128 0 (put (Array.replicate (W*W) 0) 1 h) e (fun r=>by rw[vQ _ _ _ _ lt,z];rfl) (by omega) r;show(sink 128 (0+1) (aX h 0) _).val r=_
 rw[this];have e64:=f9 hh (Nat.le_refl 64);rw[nM e64 r _ (by omega)];by_cases hc:n<=64
 ·exact nM hn r 64 hc
 ·exact(nM e64 r n (by omega)).symm
noncomputable def lP(hs:List Pl):Nat->Pl->Int
 |0,_=>-1
 |k+1,p=>if p∈aU hs k then k else lP hs k p
theorem C8{h:List Nat}(hh:∀r∈h,okR r){r:Nat}(hr:okR r):∀k,lP (h.map hP) k (hP r)=(gv h k r:Int) - 1
 |0=>rfl
 |k+1=>by
  have ih:=C8 hh hr k;have e:hP r∈aU (h.map hP) k↔r∈aX h k:=by
   rw[dG hh];constructor
   ·intro q;obtain⟨z,hz,e⟩:=List.mem_map.mp q;rw[<- mF (j8 hh k z hz) hr e];exact hz
   ·exact fun q=>List.mem_map.mpr ⟨r,q,rfl⟩
  show(if hP r∈aU (h.map hP) k then(k:Int)else lP (h.map hP) k (hP r))=((if r∈aX h k then k+1 else gv h k r:Nat):Int) - 1
  by_cases q:r∈aX h k
  ·rw[if_pos (e.mpr q),if_pos q];omega
  ·rw[if_neg (fun z=>q (e.mp z)),if_neg q,ih]
theorem uY{h:List Nat}(hh:∀r∈h,okR r){n:Nat}(hn:aU (h.map hP) n=[]){r:Nat}(hr:okR r):lP (h.map hP) n (hP r)=((gridOf h).val r:Int) - 1:=by rw[dG hh,List.map_eq_nil_iff]at hn;rw[C8 hh hr,yN hh hn]
theorem vZ{h:List Nat}(hh:∀r∈h,okR r){r:Nat}:0<(gridOf h).val r↔r∈h:=by
 have e64:=f9 hh (Nat.le_refl 64);rw[yN hh e64];have key:∀k,0<gv h (k+1) r↔r∈h:=by
  intro k;induction k with
  |zero=>
   show 0<(if r∈h then 0+1 else 0)↔ _
   split<;>simp_all
  |succ k ih=>
   show 0<(if r∈aX h (k+1)then k+1+1 else gv h (k+1) r)↔ _
   split
   ·rename_i q;simp[k8 h _ r q]
   ·exact ih
 exact key 63
theorem GG{h:List Nat}(hh:∀r∈h,okR r){r:Nat}(hr:r∉h):(gridOf h).val r=0:=by
 have:¬0<(gridOf h).val r:=fun q=>hr ((vZ hh).mp q)
 omega
noncomputable def pY(l:Cells):List Nat:=l.flatMap fun(c:Cell)=>[raw (2*c.1) (2*c.2),raw (2*c.1+1) (2*c.2),raw (2*c.1) (2*c.2+1),raw (2*c.1+1) (2*c.2+1)]
theorem AV{l:Cells}{r:Nat}:r∈halvesOf l↔r∈pY l:=by unfold halvesOf;rw[List.mem_mergeSort];rfl
theorem cC{l:Cells}(hb:∀c∈l,c.1<64/\c.2<64):∀r∈halvesOf l,okR r:=by
 intro r hr;rw[AV]at hr;obtain⟨c,hc,h⟩:=List.mem_flatMap.mp hr;have b:=hb c hc;simp at h;rcases h with rfl|rfl|rfl|rfl
 ·exact⟨_,_,by omega,by omega,rfl⟩
 ·exact⟨_,_,by omega,by omega,rfl⟩
 ·exact⟨_,_,by omega,by omega,rfl⟩
 ·exact⟨_,_,by omega,by omega,rfl⟩
theorem xE{l:Cells}(hl:l.Nodup)(hb:∀c∈l,c.1<64/\c.2<64):(pY l).Nodup:=by
 induction l with
 |nil=>simp[pY]
 |cons c l ih=>
  obtain⟨n1,n2⟩:=List.nodup_cons.mp hl;have e:pY (c::l)=[raw (2*c.1) (2*c.2),raw (2*c.1+1) (2*c.2),raw (2*c.1) (2*c.2+1),raw (2*c.1+1) (2*c.2+1)]++pY l:=rfl;rw[e,List.nodup_append];have b:=hb c (by simp);refine⟨?_,ih n2 fun x hx=>hb x (by simp[hx]),?_⟩
  ·simp[raw,W];omega
  ·intro a ha z hz e2;obtain⟨c',hc',h⟩:=List.mem_flatMap.mp hz;have b':=hb c' (by simp[hc']);have:c=c':=by
    subst e2;simp[raw,W]at h ha;apply Prod.ext
    ·omega
    ·omega
   exact n1 (this▸hc')
theorem cX{l:Cells}(hl:l.Nodup)(hb:∀c∈l,c.1<64/\c.2<64):(halvesOf l).Pairwise (· < ·):=by
 have h1:(halvesOf l).Pairwise fun a b=>decide (a<=b)=true:=List.pairwise_mergeSort (le:=fun(a b:Nat)=>decide (a<=b)) (by intro a b c h1 h2;simp at*;omega) (by intro a b;simp;omega) _
 have h2:(halvesOf l).Nodup:=(List.mergeSort_perm _ _).nodup_iff.mpr (xE hl hb);have h3:(halvesOf l).Pairwise fun a b=>decide (a<=b)=true/\a≠b:=List.pairwise_and_iff.mpr ⟨h1,h2⟩
 exact h3.imp fun{a b} ⟨q1,q2⟩=>by simp at q1;omega
def BL(a b:Pl):Prop:=a.2<b.2\/(a.2=b.2/\a.1<b.1)
def fY(a b:Pl):Prop:=a.2<b.2\/(a.2=b.2/\a.1<=b.1)
theorem rK{a b:Pl}(h1:fY a b)(h2:fY b a):a=b:=by unfold fY at*;exact Prod.ext (by omega) (by omega)
theorem yM{l:Cells}(hl:l.Nodup)(hb:∀c∈l,c.1<64/\c.2<64):((halvesOf l).map hP).Pairwise fY:=by
 rw[List.pairwise_map];refine(cX hl hb).imp_of_mem fun{a b} ha hb' h=>?_
 obtain⟨i,j,hi,hj,rfl⟩:=cC hb a ha;obtain⟨i',j',hi',hj',rfl⟩:=cC hb b hb';rw[dH hi,dH hi'];unfold fY;unfold raw W at h;simp;omega
noncomputable def fN(cs:List Pl):List Pl:=cs.flatMap fun c=>[(2*c.1+0,2*c.2+0),(2*c.1+1,2*c.2+0),(2*c.1+0,2*c.2+1),(2*c.1+1,2*c.2+1)]
theorem D4{l:Cells}(hb:∀c∈l,c.1<64/\c.2<64):fN (iW l)=(pY l).map hP:=by
 induction l with
 |nil=>rfl
 |cons c l ih=>have b:=hb c (by simp);have e:pY (c::l)=[raw (2*c.1) (2*c.2),raw (2*c.1+1) (2*c.2),raw (2*c.1) (2*c.2+1),raw (2*c.1+1) (2*c.2+1)]++pY l:=rfl;have e2:fN (iW (c::l))=[(2*(c.1:Int)+0,2*(c.2:Int)+0),(2*(c.1:Int)+1,2*(c.2:Int)+0),(2*(c.1:Int)+0,2*(c.2:Int)+1),(2*(c.1:Int)+1,2*(c.2:Int)+1)]++fN (iW l):=rfl;rw[e,e2,ih fun x hx=>hb x (by simp[hx]),List.map_append];congr 1;simp only[List.map_cons,List.map_nil];rw[dH (by omega),dH (by omega),dH (by omega),dH (by omega)];simp
theorem tT{l:Cells}(hl:l.Nodup)(hb:∀c∈l,c.1<64/\c.2<64){ys:List Pl}(hp:ys.Perm (fN (iW l)))(hs:ys.Pairwise fY):ys=(halvesOf l).map hP:=by refine List.Perm.eq_of_pairwise (le:=fY) (fun a b _ _=>rK) hs (yM hl hb) (hp.trans ?_);rw[D4 hb];exact(List.mergeSort_perm _ _).symm.map hP
end RM
namespace RM
open Roof
def dJ(h:List Nat)(p:Pl):Int:=if p∈h.map hP then lP (h.map hP) 64 p else -1
theorem GC{h:List Nat}(hh:∀r∈h,okR r){X Y:Nat}(hX:X<=129):(((X:Int) - 1,(Y:Int) - 1)∈h.map hP)↔W*Y+X∈h:=by
 constructor
 ·intro q;obtain⟨r,hr,e⟩:=List.mem_map.mp q;obtain⟨i,j,hi,hj,rfl⟩:=hh r hr;rw[dH hi]at e;have a:=congrArg Prod.fst e;have b:=congrArg Prod.snd e;simp at a b;have:W*Y+X=raw i j:=by unfold raw W;omega
  rw[this];exact hr
 ·intro q;refine List.mem_map.mpr ⟨_,q,?_⟩;obtain⟨i,j,hi,hj,e⟩:=hh _ q;rw[e,dH hi];unfold raw W at e;apply Prod.ext
  ·simp;omega
  ·simp;omega
theorem nW{h:List Nat}(hh:∀r∈h,okR r){X Y:Nat}(hX:X<=129):dJ h ((X:Int) - 1,(Y:Int) - 1)=((gridOf h).val (W*Y+X):Int) - 1:=by
 unfold dJ;by_cases q:((X:Int) - 1,(Y:Int) - 1)∈h.map hP
 ·rw[if_pos q];have m:=(GC hh hX).mp q;have o:=hh _ m;have e:hP (W*Y+X)=((X:Int) - 1,(Y:Int) - 1):=by
   obtain⟨i,j,hi,hj,e⟩:=o;rw[e,dH hi];unfold raw W at e;apply Prod.ext
   ·simp;omega
   ·simp;omega
  rw[<- e];exact uY hh (by rw[dG hh,f9 hh (Nat.le_refl 64)];rfl) o
 ·rw[if_neg q,GG hh fun m=>q ((GC hh hX).mpr m)];rfl
theorem pI{h:List Nat}(hh:∀r∈h,okR r){r:Nat}(hr:r∈h):dJ h (hP r)=((gridOf h).val r:Int) - 1:=by unfold dJ;rw[if_pos (List.mem_map.mpr ⟨r,hr,rfl⟩)];exact uY hh (by rw[dG hh,f9 hh (Nat.le_refl 64)];rfl) (hh r hr)
noncomputable def dQ(h:List Nat)(p:Pl):List Int:=[dJ h (p.1+-1,p.2+-1)+1,dJ h (p.1+0,p.2+-1)+1,dJ h (p.1+-1,p.2+0)+1,dJ h (p.1+0,p.2+0)+1]
theorem BD{h:List Nat}(hh:∀r∈h,okR r){X Y:Nat}(hX:X<=128):dQ h ((X:Int),(Y:Int))=
  [((gridOf h).val (W*Y+X):Int),((gridOf h).val (W*Y+X+1):Int),((gridOf h).val (W*(Y+1)+X):Int),((gridOf h).val (W*(Y+1)+X+1):Int)]:=by
 have a:=nW hh (X:=X) (Y:=Y) (by omega);have b:=nW hh (X:=X+1) (Y:=Y) (by omega);have c:=nW hh (X:=X) (Y:=Y+1) (by omega);have d:=nW hh (X:=X+1) (Y:=Y+1) (by omega);have e1:(((X+1:Nat):Int) - 1)=(X:Int)+0:=by omega
 have e2:(((Y+1:Nat):Int) - 1)=(Y:Int)+0:=by omega
 rw[e1]at b d;rw[e2]at c d;have s1:(X:Int)+-1=(X:Int) - 1:=rfl;have s2:(Y:Int)+-1=(Y:Int) - 1:=rfl;unfold dQ;simp only[s1,s2];rw[a,b,c,d];simp[Nat.add_assoc]
theorem AA{a b c d:Nat}{m:Int}(hm:m∈[(a:Int),(b:Int),(c:Int),(d:Int)])(hle:∀x∈[(a:Int),(b:Int),(c:Int),(d:Int)],m<=x):m=((min (min a b) (min c d):Nat):Int):=by have h1:=hle a (by simp);have h2:=hle b (by simp);have h3:=hle c (by simp);have h4:=hle d (by simp);simp at hm;omega
theorem DQ{h:List Nat}(hh:∀r∈h,okR r){X Y:Nat}(hX:X<=128){m:Int}(hm:m∈dQ h ((X:Int),(Y:Int)))(hle:∀x∈dQ h ((X:Int),(Y:Int)),m<=x):m=(heightAt (gridOf h) X Y:Int):=by rw[BD hh hX]at hm hle;exact AA hm hle
abbrev T3:=Int×Int×Int
def tP(t:Nat):T3:=((iOf (t/4):Int),(jOf (t/4):Int),((t%4:Nat):Int))
theorem cR{h:List Nat}{t:Nat}:t∈trianglesOf h↔t/4∈h:=by
 unfold trianglesOf;rw[List.mem_flatMap];constructor
 ·rintro⟨r,hr,q⟩;simp at q;have:t/4=r:=by omega
  rw[this];exact hr
 ·intro q;refine⟨_,q,?_⟩;simp;omega
theorem EZ{h:List Nat}(hh:∀r∈h,okR r){t u:Nat}(ht:t∈trianglesOf h)(hu:u∈trianglesOf h)(e:tP t=tP u):t=u:=by have a1:=congrArg (fun z=>z.1) e;have a2:=congrArg (fun z=>z.2.1) e;have a3:=congrArg (fun z=>z.2.2) e;simp[tP]at a1 a2 a3;have:t/4=u/4:=mF (hh _ (cR.mp ht)) (hh _ (cR.mp hu)) (by unfold hP;rw[show iOf (t/4)=iOf (u/4) by omega,show jOf (t/4)=jOf (u/4) by omega]);omega
noncomputable def aF(p:Pl)(c:Nat):Pl:=if c%4=0 then(p.1+0,p.2+0)else if c%4=1 then(p.1+1,p.2+0)else if c%4=2 then(p.1+1,p.2+1)else(p.1+0,p.2+1)
theorem gN(r c:Nat):aF (hP r) c=iP (cornerOf r c):=by
 unfold aF cornerOf hP iP;dsimp only;by_cases h0:c%4=0
 ·simp[h0]
 ·by_cases h1:c%4=1
  ·simp[h0,h1]
  ·by_cases h2:c%4=2
   ·simp[h0,h1,h2]
   ·simp[h0,h1,h2]
theorem E9{r c:Nat}(hr:okR r):(cornerOf r c).1<=128/\(cornerOf r c).2<=128:=by
 obtain⟨i,j,hi,hj,rfl⟩:=hr;unfold cornerOf;rw[vX hi,vW hi];dsimp only;split
 ·simp;omega
 ·split
  ·simp;omega
  ·split
   ·simp;omega
   ·simp;omega
noncomputable def GO(s:Nat)(u v k:Int):Int:=if u=k/\v=k then s else if v=k then((s:Int)+1)%4 else if u=k then((s:Int)+3)%4 else((s:Int)+2)%4
theorem JD{g:Grid}{t:Nat}(hv:0<g.val (t/4)):GO (t%4) (heightOf g (t/4) (t%4):Int) (heightOf g (t/4) (t%4+1):Int) ((g.val (t/4):Int) - 1)=(facingOf g t:Int):=by
 unfold GO facingOf;dsimp only;generalize heightOf g (t/4) (t%4)=u;generalize heightOf g (t/4) (t%4+1)=v;generalize hk:g.val (t/4)=k at*;have ek:(k:Int) - 1=((k - 1:Nat):Int):=by omega
 rw[ek];generalize k - 1=m;have c1:((u:Int)=(m:Int))↔u=m:=by omega
 have c2:((v:Int)=(m:Int))↔v=m:=by omega
 simp only[c1,c2];by_cases h1:u=m<;>by_cases h2:v=m<;>simp[h1,h2]<;>omega
theorem uX{f:Nat->Nat}:∀(l:List Nat)(a:Array Nat),(l.foldl (fun(a:Array Nat)(t:Nat)=>a.setIfInBounds t (f t)) a).size=a.size
 |[],a=>rfl
 |t::l,a=>by rw[List.foldl_cons,uX l];simp
theorem sR{f:Nat->Nat}:∀(l:List Nat)(a:Array Nat)(t d:Nat),(∀x∈l,x<a.size)->(l.foldl (fun(a:Array Nat)(t:Nat)=>a.setIfInBounds t (f t)) a).getD t d=if t∈l then f t else a.getD t d
 |[],a,t,d,_=>by simp
 |x::l,a,t,d,h=>by
  rw[List.foldl_cons,sR l _ t d fun y hy=>by simpa using h y (by simp[hy])];have hx:=h x (by simp);by_cases h1:t∈l
  ·simp[h1]
  ·rw[if_neg h1];by_cases h2:t=x
   ·subst h2;simp[Array.getD_eq_getD_getElem?,hx]
   ·have h3:¬t∈x::l:=by simp[h1,h2]
    rw[if_neg h3];simp only[Array.getD_eq_getD_getElem?,Array.getElem?_setIfInBounds];rw[if_neg (fun e=>h2 e.symm)]
theorem zP{h:List Nat}(hh:∀r∈h,okR r){t:Nat}(ht:t∈trianglesOf h):t<4*W*W:=by obtain⟨i,j,hi,hj,e⟩:=hh _ (cR.mp ht);unfold raw W at e;unfold W;omega
noncomputable def sS(h:List Nat):Array Nat:=(trianglesOf h).foldl (fun(a:Array Nat)(t:Nat)=>a.setIfInBounds t (facingOf (gridOf h) t)) (Array.replicate (4*W*W) 4)
noncomputable def xY(h:List Nat):Array Nat:=(trianglesOf h).foldl (fun(a:Array Nat)(t:Nat)=>a.setIfInBounds t NONE) (Array.replicate (4*W*W) 0)
theorem E3{h:List Nat}(hh:∀r∈h,okR r)(t:Nat):(sS h).getD t 4=if t∈trianglesOf h then facingOf (gridOf h) t else 4:=by
 unfold sS;rw[sR _ _ _ _ fun x hx=>by simpa using zP hh hx];have:(Array.replicate (4*W*W) 4).getD t 4=4:=by rw[Array.getD_eq_getD_getElem?,Array.getElem?_replicate];split<;>rfl
 rw[this]
theorem xX{h:List Nat}(hh:∀r∈h,okR r)(t:Nat):(xY h).getD t 0=if t∈trianglesOf h then NONE else 0:=by
 unfold xY;rw[sR (f:=fun _=>NONE) _ _ _ _ fun x hx=>by simpa using zP hh hx];have:(Array.replicate (4*W*W) 0).getD t 0=0:=by rw[Array.getD_eq_getD_getElem?,Array.getElem?_replicate];split<;>rfl
 rw[this]
theorem DL(h:List Nat):(xY h).size=4*W*W:=by unfold xY;rw[uX (f:=fun _=>NONE)];simp
end RM
namespace RM
open Roof
section
variable {α:Type}
inductive Rch (ok:α->Prop) (nb:α->List α) (U:α->Prop) (t0:α):α->Prop where
 |refl:Rch ok nb U t0 t0
 |step {x u:α}:Rch ok nb U t0 x->u∈nb x->ok u->¬U u->Rch ok nb U t0 u
structure gC(ok:α->Prop)(nb:α->List α)(U:α->Prop)(t0:α)(N W:List α):Prop where
 new:∀x∈N,Rch ok nb U t0 x
 wait:∀x∈W,ok x->¬U x->Rch ok nb U t0 x
 start:t0∈N\/t0∈W
 oO:∀x∈N,∀u∈nb x,ok u->¬U u->u∈N\/u∈W
variable {ok:α->Prop}{nb:α->List α}{U:α->Prop}{t0:α}
theorem gC.first:gC ok nb U t0 [] [t0]:=⟨by simp,by intro x hx _ _;simp at hx;subst hx;exact .refl,.inr (by simp),by simp⟩
theorem gC.skip{N W W':List α}{x:α}(h:gC ok nb U t0 N W)(o0:ok t0)(u0:¬U t0)(h1:∀y∈W',y∈W)(h2:∀y∈W,y∈W'\/y=x)(hx:¬ok x\/U x\/x∈N):gC ok nb U t0 N W':=by
 have drop:∀y,ok y->¬U y->(y∈N\/y∈W)->y∈N\/y∈W':=by
  intro y oy uy hy;rcases hy with hy|hy
  ·exact .inl hy
  ·rcases h2 y hy with hy|rfl
   ·exact .inr hy
   ·rcases hx with hx|hx|hx
    ·exact absurd oy hx
    ·exact absurd hx uy
    ·exact .inl hx
 exact⟨h.new,fun y hy=>h.wait y (h1 y hy),drop t0 o0 u0 h.start,fun y hy u hu ou uu=>drop u ou uu (h.oO y hy u hu ou uu)⟩
theorem gC.take{N W W':List α}{x:α}(h:gC ok nb U t0 N W)(hx:x∈W)(ox:ok x)(ux:¬U x)(h1:∀y∈W',y∈W\/y∈nb x)(h2:∀y∈W,y∈W'\/y=x)(h3:∀u∈nb x,ok u->¬U u->u∈W'):gC ok nb U t0 (x::N) W':=by
 have rx:=h.wait x hx ox ux;have move:∀y,(y∈N\/y∈W)->y∈x::N\/y∈W':=by
  intro y hy;rcases hy with hy|hy
  ·exact .inl (by simp[hy])
  ·rcases h2 y hy with hy|rfl
   ·exact .inr hy
   ·exact .inl (by simp)
 refine⟨?_,?_,move t0 h.start,?_⟩
 ·intro y hy;rcases List.mem_cons.mp hy with rfl|hy
  ·exact rx
  ·exact h.new y hy
 ·intro y hy oy uy;rcases h1 y hy with q|q
  ·exact h.wait y q oy uy
  ·exact .step rx q oy uy
 ·intro y hy u hu ou uu;rcases List.mem_cons.mp hy with rfl|hy
  ·exact .inr (h3 u hu ou uu)
  ·exact move u (h.oO y hy u hu ou uu)
theorem gC.done{N:List α}(h:gC ok nb U t0 N [])(x:α):x∈N↔Rch ok nb U t0 x:=by
 constructor
 ·exact h.new x
 ·intro r;induction r with
  |refl=>
       rcases h.start with q|q
       ·exact q
       ·simp at q
  |step _ hu ou uu ih=>
              rcases h.oO _ ih _ hu ou uu with q|q
              ·exact q
              ·simp at q
theorem Rch.ok'{x:α}(h:Rch ok nb U t0 x)(o0:ok t0)(u0:¬U t0):ok x/\¬U x:=by
 cases h with
 |refl=>exact⟨o0,u0⟩
 |step _ _ ou uu=>exact⟨ou,uu⟩
end
def okN(fac:Array Nat)(t0:Nat)(u:Nat):Prop:=fac.getD u 4=fac.getD t0 4
def isU(lab:Array Nat)(u:Nat):Prop:=lab.getD u 0≠NONE
theorem kF{fac labU:Array Nat}{n t0:Nat}{ts:List Nat}(hn:n≠NONE)(hts:∀u,¬isU labU u->u∈ts)(hsz:∀u∈ts,u<labU.size)(o0:¬isU labU t0):
  ∀(f:Nat)(stack N:List Nat)(lab:Array Nat),lab.size=labU.size->(∀t,lab.getD t 0=if t∈N then n else labU.getD t 0)->gC (okN fac t0) besideOf (isU labU) t0 N stack->N.Nodup->(∀x∈N,x∈ts/\¬isU labU x)->(∀x∈stack,okN fac t0 x) ->
   stack.length+3*(ts.length - N.length)<=f->∃N':List Nat,(∀t,(fill fac n f stack lab).getD t 0=if t∈N' then n else labU.getD t 0)/\(fill fac n f stack lab).size=labU.size/\∀x,x∈N'↔Rch (okN fac t0) besideOf (isU labU) t0 x
 |0,stack,N,lab,hs,hl,S,nd,hN,ho,hf=>by have:stack=[]:=List.length_eq_zero_iff.mp (by omega);subst this;exact⟨N,hl,hs,S.done⟩
 |f+1,[],N,lab,hs,hl,S,nd,hN,ho,hf=>⟨N,hl,hs,S.done⟩
 |f+1,t::r,N,lab,hs,hl,S,nd,hN,ho,hf=>by
  have eF:fill fac n (f+1) (t::r) lab=if lab.getD t 0≠NONE then fill fac n f r lab else fill fac n f (((besideOf t).filter fun(u:Nat)=>fac.getD u 4==fac.getD t 4)++r) (lab.setIfInBounds t n):=rfl
  rw[eF];by_cases hc:lab.getD t 0≠NONE
  ·rw[if_pos hc];refine kF hn hts hsz o0 f r N lab hs hl (S.skip (x:=t) rfl o0 (fun y hy=>by simp[hy]) (fun y hy=>by simp at hy;exact hy.symm) ?_) nd hN (fun x hx=>ho x (by simp[hx])) (by simp at hf;omega);rw[hl t]at hc;by_cases hm:t∈N
   ·exact .inr (.inr hm)
   ·rw[if_neg hm]at hc;exact .inr (.inl hc)
  ·rw[if_neg hc];have hc:lab.getD t 0=NONE:=Classical.byContradiction hc;have htN:t∉N:=by intro q;rw[hl t,if_pos q]at hc;exact hn hc
   have hU:¬isU labU t:=by rw[hl t,if_neg htN]at hc;exact fun q=>q hc
   have htt:t∈ts:=hts t hU;have hlt:t<lab.size:=by rw[hs];exact hsz t htt
   have okt:=ho t (by simp);have nd':(t::N).Nodup:=List.nodup_cons.mpr ⟨htN,nd⟩;have hN':∀x∈t::N,x∈ts/\¬isU labU x:=by
    intro x hx;rcases List.mem_cons.mp hx with rfl|hx
    ·exact⟨htt,hU⟩
    ·exact hN x hx
   have len:=cK nd' fun x hx=>(hN' x hx).1
   refine kF hn hts hsz o0 f _ (t::N) (lab.setIfInBounds t n) (by simpa using hs) (fun u=>?_) (S.take (x:=t) (by simp) okt hU ?_ ?_ ?_) nd' hN' ?_ ?_
   ·by_cases hu:u=t
    ·subst hu;simp[Array.getD_eq_getD_getElem?,hlt]
    ·have e:(lab.setIfInBounds t n).getD u 0=lab.getD u 0:=by simp only[Array.getD_eq_getD_getElem?,Array.getElem?_setIfInBounds];rw[if_neg (fun e=>hu e.symm)]
     rw[e,hl u];simp[hu]
   ·intro y hy;rcases List.mem_append.mp hy with hy|hy
    ·exact .inr (List.mem_filter.mp hy).1
    ·exact .inl (by simp[hy])
   ·intro y hy;simp at hy;rcases hy with rfl|hy
    ·exact .inr rfl
    ·exact .inl (by simp[hy])
   ·intro u hu ou uu;refine List.mem_append_left _ (List.mem_filter.mpr ⟨hu,?_⟩);have:fac.getD u 4=fac.getD t 4:=by have h1:fac.getD u 4=fac.getD t0 4:=ou;have h2:fac.getD t 4=fac.getD t0 4:=okt;rw[h1,h2]
    simp[this]
   ·intro x hx;rcases List.mem_append.mp hx with hx|hx
    ·have q:=(List.mem_filter.mp hx).2;have q:fac.getD x 4=fac.getD t 4:=by simpa using q
     have h2:fac.getD t 4=fac.getD t0 4:=okt;show fac.getD x 4=_
     rw[q,h2]
    ·exact ho x (by simp[hx])
   ·have:((besideOf t).filter fun(u:Nat)=>fac.getD u 4==fac.getD t 4).length<=3:=by refine Nat.le_trans (List.length_filter_le _ _) ?_;simp[besideOf]
    simp only[List.length_append,List.length_cons]at hf len ⊢;omega
theorem E1{fac labU:Array Nat}{n t0:Nat}{ts:List Nat}(hn:n≠NONE)(hts:∀u,¬isU labU u->u∈ts)(hsz:∀u∈ts,u<labU.size)(o0:¬isU labU t0):
  ∃N':List Nat,(∀t,(fill fac n (4*ts.length+4) [t0] labU).getD t 0=if t∈N' then n else labU.getD t 0)/\(fill fac n (4*ts.length+4) [t0] labU).size=labU.size/\∀x,x∈N'↔Rch (okN fac t0) besideOf (isU labU) t0 x:=
 kF hn hts hsz o0 _ [t0] [] labU rfl (fun t=>by simp) gC.first (by simp) (by simp) (by intro x hx;simp at hx;subst hx;rfl) (by simp;omega)
noncomputable def nbP(p:T3):List T3:=[(p.1,p.2.1,(p.2.2+1)%4),(p.1,p.2.1,(p.2.2+3)%4),((aM (p.1,p.2.1) p.2.2.toNat).1,(aM (p.1,p.2.1) p.2.2.toNat).2,(p.2.2+2)%4)]
theorem GW{h:List Nat}(hh:∀r∈h,okR r){r q s:Nat}(hr:okR r)(hq:okR q)(hs:s<4):hP q=aM (hP r) s↔q=beyond r s:=by
 obtain⟨i,j,hi,hj,rfl⟩:=hr;obtain⟨i',j',hi',hj',rfl⟩:=hq;rw[dH hi,dH hi'];have cs:s=0\/s=1\/s=2\/s=3:=by omega
 rcases cs with rfl|rfl|rfl|rfl<;>simp[aM,beyond,raw,W,Prod.ext_iff]<;>omega
theorem Q1{h:List Nat}(hh:∀r∈h,okR r){t u:Nat}(ht:t∈trianglesOf h)(hu:u∈trianglesOf h):tP u∈nbP (tP t)↔u∈besideOf t:=by
 have okt:=hh _ (cR.mp ht);have oku:=hh _ (cR.mp hu);have hs:t%4<4:=by omega
 have B:=GW hh okt oku hs;have own:∀k:Nat,k<4->(tP u=((tP t).1,(tP t).2.1,(k:Int))↔u=4*(t/4)+k):=by
  intro k hk;constructor
  ·intro e;have a1:=congrArg (fun z=>z.1) e;have a2:=congrArg (fun z=>z.2.1) e;have a3:=congrArg (fun z=>z.2.2) e;simp[tP]at a1 a2 a3;have:u/4=t/4:=mF oku okt (by unfold hP;rw[show iOf (u/4)=iOf (t/4) by omega,show jOf (u/4)=jOf (t/4) by omega]);omega
  ·intro e;have e1:u/4=t/4:=by omega
   have e2:u%4=k:=by omega
   unfold tP;rw[e1,e2]
 have e1:((tP t).2.2+1)%4=(((t%4+1)%4:Nat):Int):=by simp[tP]
 have e3:((tP t).2.2+3)%4=(((t%4+3)%4:Nat):Int):=by simp[tP]
 have e2:((tP t).2.2+2)%4=(((t%4+2)%4:Nat):Int):=by simp[tP]
 have es:(tP t).2.2.toNat=t%4:=by simp only[tP];omega
 have eh:((tP t).1,(tP t).2.1)=hP (t/4):=rfl;unfold nbP besideOf;dsimp only;rw[e1,e3,e2,es,eh];simp only[List.mem_cons,List.not_mem_nil,or_false];rw[own _ (by omega),own _ (by omega)];have across:tP u=((aM (hP (t/4)) (t%4)).1,(aM (hP (t/4)) (t%4)).2,(((t%4+2)%4:Nat):Int))↔u=4*beyond (t/4) (t%4)+(t%4+2)%4:=by
  constructor
  ·intro e;have a1:=congrArg (fun z=>(z.1,z.2.1)) e;have a3:=congrArg (fun z=>z.2.2) e;have:hP (u/4)=aM (hP (t/4)) (t%4):=a1;have q:=B.mp this;simp[tP]at a3;omega
  ·intro e;have q:u/4=beyond (t/4) (t%4):=by omega
   have r:=B.mpr q;have:u%4=(t%4+2)%4:=by omega
   unfold tP;rw[this];have a:=congrArg Prod.fst r;have b:=congrArg Prod.snd r;unfold hP at a b;rw[show(iOf (u/4):Int)=_ from a,show(jOf (u/4):Int)=_ from b];rfl
 rw[across]
structure kW(h:List Nat)(num:T3->Option Int)(lab:Array Nat):Prop where
 ins:∀t∈trianglesOf h,num (tP t)=if lab.getD t 0=NONE then none else some (lab.getD t 0:Int)
 out:∀p,p∉ (trianglesOf h).map tP->num p=none
 lo:∀t,t∉trianglesOf h->lab.getD t 0≠NONE
 size:lab.size=4*W*W
def okT(fac:T3->Option Int)(p0 p:T3):Prop:=fac p=fac p0
def isN(num:T3->Option Int)(p:T3):Prop:=(num p).isSome=true
theorem FA{h:List Nat}(hh:∀r∈h,okR r){fac:Array Nat}{facT num:T3->Option Int}{lab:Array Nat}(hf:∀t∈trianglesOf h,facT (tP t)=some (fac.getD t 4:Int))(hf0:∀p,p∉ (trianglesOf h).map tP->facT p=none)
  (R:kW h num lab) {t0:Nat} (h0:t0∈trianglesOf h):(∀t∈trianglesOf h,Rch (okT facT (tP t0)) nbP (isN num) (tP t0) (tP t)↔Rch (okN fac t0) besideOf (isU lab) t0 t)/\∀p,Rch (okT facT (tP t0)) nbP (isN num) (tP t0) p->p∈(trianglesOf h).map tP:=by
 have key:∀p,Rch (okT facT (tP t0)) nbP (isN num) (tP t0) p->∃t∈trianglesOf h,p=tP t/\Rch (okN fac t0) besideOf (isU lab) t0 t:=by
  intro p r;induction r with
  |refl=>exact⟨t0,h0,rfl,.refl⟩
  | @step x u _ hu ou uu ih=>
   obtain⟨t,ht,rfl,rt⟩:=ih;have hm:u∈(trianglesOf h).map tP:=by apply Classical.byContradiction;intro q;have h1:=hf0 u q;have h2:facT u=facT (tP t0):=ou;rw[h1,hf t0 h0]at h2;cases h2
   obtain⟨v,hv,rfl⟩:=List.mem_map.mp hm;refine⟨v,hv,rfl,.step rt ((Q1 hh ht hv).mp hu) ?_ ?_⟩
   ·have h2:facT (tP v)=facT (tP t0):=ou;rw[hf v hv,hf t0 h0]at h2;have:=Option.some.inj h2;show fac.getD v 4=fac.getD t0 4
    omega
   ·intro q;refine uu ?_;show(num (tP v)).isSome=true
    rw[R.ins v hv,if_neg q];rfl
 refine⟨fun t ht=>⟨fun r=>?_,fun r=>?_⟩,fun p r=>?_⟩
 ·obtain⟨v,hv,e,rv⟩:=key _ r;rw[EZ hh ht hv e];exact rv
 ·have mem:∀x,Rch (okN fac t0) besideOf (isU lab) t0 x->x∈trianglesOf h/\Rch (okT facT (tP t0)) nbP (isN num) (tP t0) (tP x):=by
   intro x r;induction r with
   |refl=>exact⟨h0,.refl⟩
   | @step x u _ hu ou uu ih=>
    obtain⟨hx,rx⟩:=ih;have hu':u∈trianglesOf h:=by apply Classical.byContradiction;intro q;exact uu (R.lo u q)
    refine⟨hu',.step rx ((Q1 hh hx hu').mpr hu) ?_ ?_⟩
    ·show facT (tP u)=facT (tP t0)
     rw[hf u hu',hf t0 h0];have:fac.getD u 4=fac.getD t0 4:=ou;rw[this]
    ·intro q;have q:(num (tP u)).isSome=true:=q;rw[R.ins u hu']at q;by_cases e:lab.getD u 0=NONE
     ·rw[if_pos e]at q;cases q
     ·exact uu e
  exact(mem t r).2
 ·obtain⟨v,hv,e,_⟩:=key _ r;rw[e];exact List.mem_map.mpr ⟨v,hv,rfl⟩
theorem kW.face{h:List Nat}(hh:∀r∈h,okR r){fac:Array Nat}{facT num num':T3->Option Int}{lab:Array Nat}(hf:∀t∈trianglesOf h,facT (tP t)=some (fac.getD t 4:Int))(hf0:∀p,p∉ (trianglesOf h).map tP->facT p=none)
  (R:kW h num lab) {t0 n:Nat} (h0:t0∈trianglesOf h) (hn:n<NONE) (hl:lab.getD t0 0=NONE) {N:List T3} (hN:∀p,p∈N↔Rch (okT facT (tP t0)) nbP (isN num) (tP t0) p) (hnum:∀p,num' p=if p∈N then some (n:Int)else num p):
  kW h num' (fill fac n (4*(trianglesOf h).length+4) [t0] lab):=by
 obtain⟨S1,S2⟩:=FA hh hf hf0 R h0;have hts:∀u,¬isU lab u->u∈trianglesOf h:=fun u q=>Classical.byContradiction fun z=>q (R.lo u z)
 obtain⟨N',f1,f2,f3⟩:=E1 (fac:=fac) (labU:=lab) (n:=n) (t0:=t0) (ts:=trianglesOf h) (by omega) hts (fun u hu=>by rw[R.size];exact zP hh hu) (fun q=>q hl);refine⟨fun t ht=>?_,fun p hp=>?_,fun t ht=>?_,by rw[f2,R.size]⟩
 ·have e:tP t∈N↔t∈N':=by rw[hN,f3,S1 t ht]
  rw[hnum,f1];by_cases q:t∈N'
  ·rw[if_pos (e.mpr q),if_pos q,if_neg (by omega)]
  ·rw[if_neg (fun z=>q (e.mp z)),if_neg q];exact R.ins t ht
 ·rw[hnum,if_neg (fun z=>hp (S2 p ((hN p).mp z)))];exact R.out p hp
 ·rw[f1];split
  ·omega
  ·exact R.lo t ht
theorem kW.start{h:List Nat}(hh:∀r∈h,okR r):kW h (fun _=>none) (xY h):=by
 refine⟨fun t ht=>?_,fun _ _=>rfl,fun t ht=>?_,DL h⟩
 ·rw[xX hh,if_pos ht,if_pos rfl]
 ·rw[xX hh,if_neg ht];decide
end RM
namespace RM
open Roof
section
variable {κ β:Type} [DecidableEq κ]
noncomputable def aK(l:List (κ×β))(k:κ):Option β:=(l.find? fun x=>decide (x.1=k)).map (·.2)
noncomputable def dD(l:List (κ×β))(k:κ)(v:β):List (κ×β):=
 if(l.any fun x=>decide (x.1=k))=true then l.map (fun x=>if x.1=k then(x.1,v)else x)else l++[(k,v)]
theorem iV{k:κ}:aK ([]:List (κ×β)) k=none:=rfl
theorem cD{x:κ×β}{r:List (κ×β)}{k:κ}:aK (x::r) k=if x.1=k then some x.2 else aK r k:=by
 unfold aK;by_cases e:x.1=k
 ·simp[e]
 ·simp[e]
theorem aV(k:κ):∀l:List (κ×β),(aK l k).isSome=true↔k∈l.map (·.1)
 |[]=>by simp[iV]
 |x::r=>by
  rw[cD,List.map_cons,List.mem_cons];by_cases e:x.1=k
  ·rw[if_pos e];simp[e]
  ·rw[if_neg e,aV k r];constructor
   ·exact .inr
   ·rintro(h|h)
    ·exact absurd h.symm e
    ·exact h
theorem lK{l:List (κ×β)}{k:κ}:aK l k=none↔k∉l.map (·.1):=by rw[<- aV];cases aK l k<;>simp
theorem qZ{l:List (κ×β)}{k:κ}:(l.any fun x=>decide (x.1=k))=true↔k∈l.map (·.1):=by simp[List.any_eq_true]
theorem fM{l:List (κ×β)}{k:κ}(v:β)(h:k∉l.map (·.1)):dD l k v=l++[(k,v)]:=by unfold dD;rw[if_neg (fun z=>h (qZ.mp z))]
theorem tZ{l:List (κ×β)}{k:κ}(v:β)(h:k∈l.map (·.1)):(dD l k v).map (·.1)=l.map (·.1):=by unfold dD;rw[if_pos (qZ.mpr h),List.map_map];apply List.map_congr_left;intro x _;simp only[Function.comp];split<;>rfl
theorem pN{l:List (κ×β)}{k:κ}(v:β):(dD l k v).map (·.1)=if k∈l.map (·.1)then l.map (·.1)else l.map (·.1)++[k]:=by
 by_cases h:k∈l.map (·.1)
 ·rw[if_pos h,tZ v h]
 ·rw[if_neg h,fM v h];simp
theorem sZ{l:List (κ×β)}{k:κ}{v:β}(h:(l.map (·.1)).Nodup):((dD l k v).map (·.1)).Nodup:=by
 rw[pN];split
 ·exact h
 ·rename_i hk;rw[List.nodup_append];exact⟨h,by simp,fun a ha b hb e=>hk (by simp at hb;rw[<- hb,<- e];exact ha)⟩
theorem zC(k j:κ)(y:β):∀l:List (κ×β),aK (l.map fun x=>if x.1=k then(x.1,y)else x) j=if j=k then(aK l j).map (fun _=>y)else aK l j
 |[]=>by simp[iV]
 |x::r=>by
  rw[List.map_cons,cD,cD,zC k j y r];by_cases e:x.1=k
  ·rw[if_pos e];by_cases e2:x.1=j
   ·rw[if_pos e2,if_pos e2,if_pos (e2▸e:j=k)];rfl
   ·rw[if_neg e2,if_neg e2]
  ·rw[if_neg e];by_cases e2:x.1=j
   ·rw[if_pos e2,if_neg (show¬j=k by intro z;exact e (e2.trans z)),if_pos e2]
   ·rw[if_neg e2,if_neg e2]
theorem vG(k j:κ)(y:β):∀l:List (κ×β),k∉l.map (·.1)->aK (l++[(k,y)]) j=if j=k then some y else aK l j
 |[],_=>by
  rw[List.nil_append,cD];by_cases e:j=k
  ·rw[if_pos e,if_pos e.symm]
  ·rw[if_neg e,if_neg (Ne.symm e)]
 |x::r,h=>by
  rw[List.cons_append,cD,cD,vG k j y r (fun z=>h (by rw[List.map_cons];exact List.mem_cons_of_mem _ z))];by_cases e2:x.1=j
  ·rw[if_pos e2,if_pos e2,if_neg];intro z;exact h (by rw[List.map_cons,List.mem_cons];exact .inl (by rw[e2,z]))
  ·rw[if_neg e2,if_neg e2]
theorem kO(l:List (κ×β))(k j:κ)(y:β):aK (dD l k y) j=if j=k then some y else aK l j:=by
 by_cases h:k∈l.map (·.1)
 ·unfold dD;rw[if_pos (qZ.mpr h),zC];by_cases e:j=k
  ·subst e;rw[if_pos rfl,if_pos rfl];have:=(aV j l).mpr h;cases q:aK l j with
   |none=>rw[q]at this;cases this
   |some z=>rfl
  ·rw[if_neg e,if_neg e]
 ·rw[fM y h,vG k j y l h]
noncomputable def bS(l:List (κ×β))(ps:List (κ×β)):List (κ×β):=ps.foldl (fun a p=>dD a p.1 p.2) l
theorem kN:∀(ps l:List (κ×β)),(l.map (·.1)).Nodup->((bS l ps).map (·.1)).Nodup
 |[],_,h=>h
 |p::r,l,h=>kN r (dD l p.1 p.2) (sZ h)
theorem wL(l a b:List (κ×β)):bS l (a++b)=bS (bS l a) b:=by simp[bS]
theorem qN(l:List (κ×β))(k:κ)(v:β):(dD l k v).length<=l.length+1:=by unfold dD;split<;>simp
theorem gB:∀(ps l:List (κ×β)),(bS l ps).length<=l.length+ps.length
 |[],l=>by simp[bS]
 |p::r,l=>by
  have h1:=gB r (dD l p.1 p.2);have h2:=qN l p.1 p.2;show(bS (dD l p.1 p.2) r).length<=_
  simp only[List.length_cons];omega
theorem vH:∀(ps l:List (κ×β)),(∀p∈ps,∀q∈ps,p.1=q.1->p.2=q.2)->(∀p∈ps,∀v,aK l p.1=some v->v=p.2)->∀k v,aK (bS l ps) k=some v↔aK l k=some v\/(k,v)∈ps
 |[],l,_,_=>by intro k v;simp[bS]
 |p::r,l,h,h2=>by
  intro k v;have hp:∀q∈r,∀v,aK (dD l p.1 p.2) q.1=some v->v=q.2:=by
   intro q hq v e;rw[kO]at e;by_cases z:q.1=p.1
   ·rw[if_pos z]at e;cases e;exact h p (by simp) q (by simp[hq]) z.symm
   ·rw[if_neg z]at e;exact h2 q (by simp[hq]) v e
  show aK (bS (dD l p.1 p.2) r) k=some v↔ _
  rw[vH r _ (fun a ha b hb=>h a (by simp[ha]) b (by simp[hb])) hp k v,kO];by_cases z:k=p.1
  ·rw[if_pos z];constructor
   ·rintro(e|e)
    ·cases e;exact .inr (by rw[z];simp)
    ·exact .inr (by simp[e])
   ·rintro(e|e)
    ·have:=h2 p (by simp) v (z▸e);exact .inl (by rw[this])
    ·rcases List.mem_cons.mp e with e|e
     ·rw[<- e];exact .inl rfl
     ·exact .inr e
  ·rw[if_neg z];constructor
   ·rintro(e|e)
    ·exact .inl e
    ·exact .inr (by simp[e])
   ·rintro(e|e)
    ·exact .inl e
    ·rcases List.mem_cons.mp e with e|e
     ·exact absurd (show k=p.1 by rw[<- e]) z
     ·exact .inr e
end
def hdg(d:Nat):Int:=((d:Int)+1)%4
noncomputable def eG(cs:List Pl)(c:Pl):List (Pl×Int):=([0,1,2,3].filter fun(s:Nat)=>!decide (aM c s∈cs)).map fun s=>(aF c s,hdg s)
def fH(cs:List Pl):List (Pl×Int):=cs.flatMap (eG cs)
def cY(cs:List Pl):List (Pl×Int):=bS [] (fH cs)
theorem tS{l:Cells}{p:Pl}{h:Int}:(p,h)∈fH (iW l)↔∃d,d<4/\aW l p.1 p.2 d=true/\h=hdg d:=by
 unfold fH eG;rw[List.mem_flatMap];constructor
 ·rintro⟨c,hc,hm⟩;obtain⟨s,hs,e⟩:=List.mem_map.mp hm;rw[List.mem_filter]at hs;obtain⟨hs,hn⟩:=hs;obtain⟨x,y⟩:=c;have hc':inI l x y=true:=m8.mp hc;have cs:s=0\/s=1\/s=2\/s=3:=by simpa using hs
  have hn':inI l (aM (x,y) s).1 (aM (x,y) s).2=false:=by rw[<- jF];simpa using hn
  cases e;refine⟨s,by omega,?_,rfl⟩;rcases cs with rfl|rfl|rfl|rfl
  ·simp[aW,aF,ne,se,aM]at hn' ⊢;exact⟨hc',hn'⟩
  ·simp[aW,aF,ne,nw,aM]at hn' ⊢;exact⟨hc',hn'⟩
  ·simp[aW,aF,sw,nw,aM]at hn' ⊢;exact⟨hc',hn'⟩
  ·simp[aW,aF,se,sw,aM]at hn' ⊢;exact⟨hc',hn'⟩
 ·rintro⟨d,hd,w,rfl⟩;obtain⟨X,Y⟩:=p;have cd:d=0\/d=1\/d=2\/d=3:=by omega
  rcases cd with rfl|rfl|rfl|rfl
  ·simp[aW,ne,se]at w;refine⟨(X,Y),m8.mpr w.1,List.mem_map.mpr ⟨0,?_,by simp[aF]⟩⟩;rw[List.mem_filter];refine⟨by simp,?_⟩;show(!decide (((X,Y - 1):Pl)∈iW l))=true
   rw[jF,w.2];rfl
  ·simp[aW,nw,ne]at w;refine⟨(X - 1,Y),m8.mpr w.1,List.mem_map.mpr ⟨1,?_,?_⟩⟩
   ·rw[List.mem_filter];refine⟨by simp,?_⟩;show(!decide (((X - 1+1,Y):Pl)∈iW l))=true
    rw[jF,show X - 1+1=X by omega,w.2];rfl
   ·simp[aF]
  ·simp[aW,sw,nw]at w;refine⟨(X - 1,Y - 1),m8.mpr w.1,List.mem_map.mpr ⟨2,?_,?_⟩⟩
   ·rw[List.mem_filter];refine⟨by simp,?_⟩;show(!decide (((X - 1,Y - 1+1):Pl)∈iW l))=true
    rw[jF,show Y - 1+1=Y by omega,w.2];rfl
   ·simp[aF]
  ·simp[aW,se,sw]at w;refine⟨(X,Y - 1),m8.mpr w.1,List.mem_map.mpr ⟨3,?_,?_⟩⟩
   ·rw[List.mem_filter];refine⟨by simp,?_⟩;show(!decide (((X - 1,Y - 1):Pl)∈iW l))=true
    rw[jF,w.2];rfl
   ·simp[aF]
theorem J4{d e:Nat}(hd:d<4)(he:e<4)(h:hdg d=hdg e):d=e:=by unfold hdg at h;omega
theorem EL{l:Cells}{X Y:Int}{d:Nat}(hd:d<4)(h:aW l X Y d=true):0<=X/\0<=Y:=by
 have cd:d=0\/d=1\/d=2\/d=3:=by omega
 rcases cd with rfl|rfl|rfl|rfl
 ·simp[aW,ne]at h;have:=bL h.1;omega
 ·simp[aW,nw]at h;have:=bL h.1;omega
 ·simp[aW,sw]at h;have:=bL h.1;omega
 ·simp[aW,se]at h;have:=bL h.1;omega
theorem jA{l:Cells}(hp:pinched l=false){p:Pl}{h:Int}:(p,h)∈fH (iW l)↔∃q d,p=iP q/\outOf l q=some d/\h=hdg d:=by
 rw[tS];constructor
 ·rintro⟨d,hd,w,rfl⟩;obtain⟨X,Y⟩:=p;have:=EL hd w;refine⟨(X.toNat,Y.toNat),d,?_,xN hp hd ?_,rfl⟩
  ·simp[iP];omega
  ·rw[eJ];simp only;rw[show((X.toNat:Nat):Int)=X by omega,show((Y.toNat:Nat):Int)=Y by omega];exact w
 ·rintro⟨q,d,rfl,ho,rfl⟩;obtain⟨hd,w⟩:=bB ho;rw[eJ]at w;exact⟨d,hd,w,rfl⟩
theorem pD{l:Cells}(hp:pinched l=false)(p:Pl)(h:Int):aK (cY (iW l)) p=some h↔∃q d,p=iP q/\outOf l q=some d/\h=hdg d:=by
 unfold cY;rw[vH _ _ ?_ (by intro p _ v e;cases e) p h,jA hp]
 ·simp[iV]
 ·intro a ha b hb e;obtain⟨q,d,e1,o1,e2⟩:=(jA hp).mp ha;obtain⟨q',d',e1',o1',e2'⟩:=(jA hp).mp hb;have:q=q':=fT (by rw[<- e1,<- e1',e]);subst this;rw[o1]at o1';cases o1';rw[e2,e2']
theorem yJ(cs:List Pl):((cY cs).map (·.1)).Nodup:=kN _ _ (by simp)
theorem pC{l:Cells}(hp:pinched l=false)(p:Pl):p∈(cY (iW l)).map (·.1)↔∃q d,p=iP q/\outOf l q=some d:=by
 rw[<- aV];constructor
 ·intro h;cases e:aK (cY (iW l)) p with
  |none=>rw[e]at h;cases h
  |some v=>obtain⟨q,d,h1,h2,_⟩:=(pD hp p v).mp e;exact⟨q,d,h1,h2⟩
 ·rintro⟨q,d,h1,h2⟩;rw[(pD hp p (hdg d)).mpr ⟨q,d,h1,h2,rfl⟩];rfl
theorem qR(cs:List Pl):(fH cs).length<=4*cs.length:=by
 unfold fH;have:∀(l:List Pl),(l.flatMap (eG cs)).length<=4*l.length:=by
  intro l;induction l with
  |nil=>simp
  |cons c r ih=>
   rw[List.flatMap_cons,List.length_append,List.length_cons];have:(eG cs c).length<=4:=by unfold eG;rw[List.length_map];exact Nat.le_trans (List.length_filter_le _ _) (by simp)
   omega
 exact this cs
theorem nK(cs:List Pl):(cY cs).length<=4*cs.length:=by have h1:=gB (fH cs) [];have h2:=qR cs;unfold cY;simp at h1;omega
inductive lZ (hd:Pl->Option Int):Pl->List (Pl×Int)->Pl->Prop where
 |nil (p:Pl):lZ hd p [] p
 |cons {p q:Pl}{h:Int}{r:List (Pl×Int)}:hd p=some h->0<=h->h<4->lZ hd (aM p h.toNat) r q->lZ hd p ((p,h)::r) q
noncomputable def bH:Option Int->List (Pl×Int)->List Pl
 |_,[]=>[]
 |came,(p,h)::r=>if some h=came then bH (some h) r else p::bH (some h) r
def iF(x:Foot):Pl×Int:=(iP x.1,hdg x.2)
theorem F0{l:Cells}{p:Point}{d:Nat}(h:outOf l p=some d):aM (iP p) (hdg d).toNat=iP (stepped p d):=by
 obtain⟨hd,_⟩:=bB h;obtain⟨b2,b3⟩:=j3 h;have cd:d=0\/d=1\/d=2\/d=3:=by omega
 rcases cd with rfl|rfl|rfl|rfl
 ·simp[aM,hdg,iP,stepped]
 ·simp[aM,hdg,iP,stepped]
 ·simp[aM,hdg,iP,stepped];have:=b2 rfl;omega
 ·simp[aM,hdg,iP,stepped];have:=b3 rfl;omega
theorem EJ{l:Cells}(hp:pinched l=false){p q:Point}{f:List Foot}(h:Way l p f q):lZ (aK (cY (iW l))) (iP p) (f.map iF) (iP q):=by
 induction h with
 |nil p=>exact .nil _
 | @cons p q d r ho _ ih=>
  rw[List.map_cons];refine .cons ((pD hp _ _).mpr ⟨p,d,rfl,ho,rfl⟩) ?_ ?_ ?_
  ·unfold hdg;omega
  ·unfold hdg;omega
  ·rw[F0 ho];exact ih
theorem lW:∀(r:List Foot)(d:Nat),d<4->(∀x∈r,x.2<4)->bH (some (hdg d)) (r.map iF)=iW (turns d r)
 |[],d,_,_=>rfl
 |x::r,d,hd,hr=>by
  have hx:=hr x (by simp);rw[List.map_cons];show(if some (hdg x.2)=some (hdg d)then bH (some (hdg x.2)) (r.map iF)else iP x.1::bH (some (hdg x.2)) (r.map iF))=iW (if x.2=d then turns x.2 r else x.1::turns x.2 r)
  rw[lW r x.2 hx (fun y hy=>hr y (by simp[hy]))];by_cases e:x.2=d
  ·rw[if_pos (by rw[e]),if_pos e]
  ·rw[if_neg (fun z=>e (J4 hx hd (Option.some.inj z))),if_neg e];rfl
def bX(l:Cells):List Point:=(pointsOf l).filter fun p=>(outOf l p).isSome
theorem dM(l:Cells):∀(pts seen:List Point),walksFrom l seen pts=walksFrom l seen (pts.filter fun p=>(outOf l p).isSome)
 |[],seen=>rfl
 |p::r,seen=>by
  cases ho:outOf l p with
  |none=>
   rw[List.filter_cons_of_neg (by simp[ho])];have e:walksFrom l seen (p::r)=walksFrom l seen r:=by
    show(if seen.contains p=true then _ else match outOf l p with|none=>_|some d=>_)=_
    rw[ho];split<;>rfl
   rw[e];exact dM l r seen
  |some d=>
   rw[List.filter_cons_of_pos (by simp[ho])];show(if seen.contains p=true then _ else match outOf l p with|none=>_|some d=>_)=(if seen.contains p=true then _ else match outOf l p with|none=>_|some d=>_)
   rw[ho,dM l r seen];dsimp only;rw[dM l r (seen++List.map (fun x=>x.fst) (follow l p (4*List.length l+4) p d))]
theorem eZ.starts(l:Cells):eZ l [] (bX l):=by
 have g:=eZ.start l;refine⟨g.oO,fun q d h=>?_,?_⟩
 ·rcases g.all q d h with z|z
  ·exact .inl z
  ·exact .inr (List.mem_filter.mpr ⟨z,by simp[h]⟩)
 ·exact g.row.sublist (List.filter_sublist ..)
theorem zB{a b:Point}(h:before a b=true):BL (iP a) (iP b):=by rw[cP]at h;unfold BL iP;simp only;omega
theorem xC{a b:Pl}(h:BL a b):fY a b:=by unfold BL at h;unfold fY;omega
theorem xH{xs ys:List Pl}(hp:xs.Perm ys)(h1:xs.Pairwise fY)(h2:ys.Pairwise fY):xs=ys:=
 hp.eq_of_pairwise (fun _ _ _ _ a b=>rK a b) h1 h2
theorem tJ{l:Cells}(hp:pinched l=false){ys:List Pl}(h:ys.Perm ((cY (iW l)).map (·.1)))(hs:ys.Pairwise fY):ys=iW (bX l):=by
 have hr:(iW (bX l)).Pairwise fY:=by unfold iW;rw[List.pairwise_map];exact(eZ.starts l).row.imp fun h=>xC (zB h)
 refine xH (h.trans ?_) hs hr;refine(List.perm_ext_iff_of_nodup (yJ _) ?_).mpr fun p=>?_
 ·unfold iW;exact cT (vM (eZ.starts l).row) fun x _ y _ e=>fT e
 ·rw[pC hp];constructor
  ·rintro⟨q,d,rfl,ho⟩;exact gL.mpr (List.mem_filter.mpr ⟨gI ho,by simp[ho]⟩)
  ·intro hm;obtain⟨q,hq,rfl⟩:=List.mem_map.mp hm;have:=(List.mem_filter.mp hq).2;cases e:outOf l q with
   |none=>rw[e]at this;cases this
   |some d=>exact⟨q,d,rfl,e⟩
theorem EN{l:Cells}(hp:pinched l=false){seen r:List Point}{p:Point}{d:Nat}(g:eZ l seen (p::r))(hs:p∉seen)(ho:outOf l p=some d):
  ∃f:List Foot,lZ (aK (cY (iW l))) (iP p) (f.map iF) (iP p)/\f≠[]/\((f.map iF).map (·.1)).Nodup/\(∀y∈f.map (·.1),y∉seen)/\eZ l (seen++f.map (·.1)) r/\
   walksFrom l seen (p::r)=cornersOf f::walksFrom l (seen++f.map (·.1)) r/\iW (cornersOf f)=bH none (f.map iF):=by
 obtain⟨R,fr,⟨r',er,ec⟩,ew,g2⟩:=g.step hp hs ho rfl;refine⟨_,EJ hp R.way,R.ne,?_,fr,g2,?_,?_⟩
 ·have e:((follow l p (4*l.length+4) p d).map iF).map (·.1)=iW ((follow l p (4*l.length+4) p d).map (·.1)):=by simp[iW,iF,Function.comp_def]
  rw[e];exact cT R.nd fun x _ y _ e=>fT e
 ·show(if seen.contains p=true then _ else match outOf l p with|none=>_|some d=>_)=_
  rw[if_neg (by simpa using hs),ho]
 ·rw[ec,er,List.map_cons];show iP p::iW (turns d r')=(if some (hdg d)=none then _ else iP p::bH (some (hdg d)) (r'.map iF))
  rw[if_neg (by simp),lW r' d (bB ho).1];intro x hx;have:=R.way.out x (by rw[er];simp[hx]);exact(bB this).1
end RM
namespace RM
open Roof
noncomputable def aD:Nat->List (List T3)->List (T3×Int)
 |_,[]=>[]
 |k,N::r=>N.map (fun p=>(p,(k:Int)))++aD (k+1) r
theorem jJ:∀(a b:List (List T3))(k:Nat),aD k (a++b)=aD k a++aD (k+a.length) b
 |[],b,k=>by simp[aD]
 |N::a,b,k=>by
  rw[List.cons_append];show N.map (fun p=>(p,(k:Int)))++aD (k+1) (a++b)=(N.map (fun p=>(p,(k:Int)))++aD (k+1) a)++aD (k+(a.length+1)) b
  rw[jJ a b (k+1),List.append_assoc,show k+1+a.length=k+(a.length+1) by omega]
theorem bA:∀(Ns:List (List T3))(k:Nat),(aD k Ns).map (·.1)=Ns.flatten
 |[],k=>rfl
 |N::r,k=>by
  show(N.map (fun p=>(p,(k:Int)))++aD (k+1) r).map (·.1)=N++r.flatten
  rw[List.map_append,bA r (k+1),List.map_map];congr 1;simp[Function.comp_def]
theorem kQ{κ β:Type}[DecidableEq κ](k:κ)(b:List (κ×β)):∀a:List (κ×β),aK (a++b) k=if k∈a.map (·.1)then aK a k else aK b k
 |[]=>by simp
 |x::a=>by
  rw[List.cons_append,cD,cD,kQ k b a,List.map_cons];by_cases e:x.1=k
  ·rw[if_pos e,if_pos e,if_pos (by rw[List.mem_cons];exact .inl e.symm)]
  ·rw[if_neg e,if_neg e];by_cases h:k∈a.map (·.1)
   ·rw[if_pos h,if_pos (List.mem_cons_of_mem _ h)]
   ·rw[if_neg h,if_neg (by rw[List.mem_cons];rintro(z|z);exact e z.symm;exact h z)]
theorem pO{κ β:Type}[DecidableEq κ](v:β)(k:κ):∀N:List κ,aK (N.map fun p=>(p,v)) k=if k∈N then some v else none
 |[]=>by simp[iV]
 |x::N=>by
  rw[List.map_cons,cD,pO v k N];by_cases e:x=k
  ·rw[if_pos e,if_pos (by simp[e])]
  ·rw[if_neg e];by_cases h:k∈N
   ·rw[if_pos h,if_pos (List.mem_cons_of_mem _ h)]
   ·rw[if_neg h,if_neg (by rw[List.mem_cons];rintro(z|z);exact e z.symm;exact h z)]
theorem iM(Ns:List (List T3))(N:List T3):aD 0 (Ns++[N])=aD 0 Ns++N.map (fun p=>(p,(Ns.length:Int))):=by rw[jJ];simp[aD]
theorem n8{Ns:List (List T3)}{N:List T3}(hd:∀p∈N,p∉Ns.flatten)(p:T3):aK (aD 0 (Ns++[N])) p=if p∈N then some (Ns.length:Int)else aK (aD 0 Ns) p:=by
 rw[iM,kQ,pO,bA];by_cases h:p∈Ns.flatten
 ·rw[if_pos h,if_neg (fun z=>hd p z h)]
 ·rw[if_neg h];split
  ·rfl
  ·exact(lK.mpr (by rw[bA];exact h)).symm
theorem BR:∀(Ns:List (List T3))(j:Nat)(p:T3)(k:Int),Ns.flatten.Nodup->(aK (aD j Ns) p=some k↔∃i N,Ns[i]? =some N/\p∈N/\k=((j+i:Nat):Int))
 |[],j,p,k,_=>by simp[aD,iV]
 |N::r,j,p,k,hn=>by
  rw[List.flatten_cons,List.nodup_append]at hn;show aK (N.map (fun p=>(p,(j:Int)))++aD (j+1) r) p=some k↔ _
  rw[kQ,pO];have e:(N.map fun p=>(p,(j:Int))).map (·.1)=N:=by simp[Function.comp_def]
  rw[e];by_cases h:p∈N
  ·rw[if_pos h,if_pos h];constructor
   ·intro q;cases q;exact⟨0,N,rfl,h,by simp⟩
   ·rintro⟨i,M,hi,hm,rfl⟩;cases i with
    |zero=>cases hi;simp
    |succ i=>exfalso;rw[List.getElem?_cons_succ]at hi;exact hn.2.2 p h p (List.mem_flatten.mpr ⟨M,List.mem_of_getElem? hi,hm⟩) rfl
  ·rw[if_neg h,BR r (j+1) p k hn.2.1];constructor
   ·rintro⟨i,M,hi,hm,rfl⟩;exact⟨i+1,M,by rw[List.getElem?_cons_succ];exact hi,hm,by congr 1;omega⟩
   ·rintro⟨i,M,hi,hm,rfl⟩;cases i with
    |zero=>cases hi;exact absurd hm h
    |succ i=>rw[List.getElem?_cons_succ]at hi;exact⟨i,M,hi,hm,by congr 1;omega⟩
structure kU(h:List Nat)(Ns:List (List T3))(lab:Array Nat):Prop where
 rel:kW h (aK (aD 0 Ns)) lab
 nd:Ns.flatten.Nodup
 ne:∀N∈Ns,N≠[]
theorem kU.sub{h:List Nat}{Ns:List (List T3)}{lab:Array Nat}(R:kU h Ns lab):∀p∈Ns.flatten,p∈(trianglesOf h).map tP:=by intro p hp;apply Classical.byContradiction;intro q;have:=R.rel.out p q;rw[lK,bA]at this;exact this hp
theorem kE{α:Type}:∀{Ns:List (List α)},(∀N∈Ns,N≠[])->Ns.length<=Ns.flatten.length
 |[],_=>by simp
 |N::r,h=>by
  have h1:=kE (Ns:=r) fun M hM=>h M (by simp[hM])
  have h2:0<N.length:=List.length_pos_iff.mpr (h N (by simp));simp only[List.length_cons,List.flatten_cons,List.length_append];omega
theorem kU.few{h:List Nat}{Ns:List (List T3)}{lab:Array Nat}(R:kU h Ns lab):Ns.length<=(trianglesOf h).length:=by have h1:=kE R.ne;have h2:=cK R.nd R.sub;rw[List.length_map]at h2;omega
theorem kU.start{h:List Nat}(hh:∀r∈h,okR r):kU h [] (xY h):=⟨kW.start hh,by simp,by simp⟩
theorem kU.face{h:List Nat}(hh:∀r∈h,okR r){fac:Array Nat}{facT:T3->Option Int}{lab:Array Nat}{Ns:List (List T3)}(hf:∀t∈trianglesOf h,facT (tP t)=some (fac.getD t 4:Int))(hf0:∀p,p∉ (trianglesOf h).map tP->facT p=none)
  (hlen:(trianglesOf h).length<NONE) (R:kU h Ns lab) {t0:Nat} (h0:t0∈trianglesOf h) (hl:aK (aD 0 Ns) (tP t0)=none) {N:List T3} (hN:∀p,p∈N↔Rch (okT facT (tP t0)) nbP (isN (aK (aD 0 Ns))) (tP t0) p) (hnd:N.Nodup):
  lab.getD t0 0=NONE/\kU h (Ns++[N]) (fill fac Ns.length (4*(trianglesOf h).length+4) [t0] lab):=by
 have hl':lab.getD t0 0=NONE:=by have:=R.rel.ins t0 h0;rw[hl]at this;apply Classical.byContradiction;intro q;rw[if_neg q]at this;cases this
 have u0:¬isN (aK (aD 0 Ns)) (tP t0):=by intro q;have q:(aK (aD 0 Ns) (tP t0)).isSome=true:=q;rw[hl]at q;cases q
 have hd:∀p∈N,p∉Ns.flatten:=by
  intro p hp hm;have:=(((hN p).mp hp).ok' rfl u0).2;refine this ?_;show(aK (aD 0 Ns) p).isSome=true
  rw[aV,bA];exact hm
 refine⟨hl',?_,?_,?_⟩
 ·exact R.rel.face hh hf hf0 h0 (Nat.lt_of_le_of_lt R.few hlen) hl' hN (n8 hd)
 ·rw[List.flatten_append,List.nodup_append];refine⟨R.nd,by simpa using hnd,?_⟩;intro a ha b hb e;have hb':b∈N:=by simpa using hb
  exact hd b hb' (e▸ha)
 ·intro M hM;rcases List.mem_append.mp hM with hM|hM
  ·exact R.ne M hM
  ·have:M=N:=by simpa using hM
   subst this;intro e;have:tP t0∈M:=(hN _).mpr .refl;rw[e]at this;cases this
structure Numbering(h:List Nat)(i:Nat)(Ns:List (List T3)):Prop where
 ex:∃(lab:Array Nat)(firsts:List Nat),kU h Ns lab/\firsts.length=Ns.length/\
  facesFrom (sS h) (4*(trianglesOf h).length+4) (trianglesOf h) 0 [] (xY h)=facesFrom (sS h) (4*(trianglesOf h).length+4) ((trianglesOf h).drop i) Ns.length firsts lab
 done:(∀t∈(trianglesOf h).take i,(aK (aD 0 Ns) (tP t)).isSome=true)/\(∀j,j<Ns.length->∃n t,n<i/\(trianglesOf h)[n]? =some t/\aK (aD 0 Ns) (tP t)=some (j:Int))/\
  ∀(n t k:Nat),n<i->(trianglesOf h)[n]? =some t->aK (aD 0 Ns) (tP t)=some (k:Int)->∀j,j<k->∃m u,m<n/\(trianglesOf h)[m]? =some u/\aK (aD 0 Ns) (tP u)=some (j:Int)
theorem Numbering.start{h:List Nat}(hh:∀r∈h,okR r):Numbering h 0 []:=⟨⟨xY h,[],kU.start hh,rfl,rfl⟩,by simp,fun j hj=>by simp at hj,fun n t k hn=>by omega⟩
theorem drop_cons{α:Type}{l:List α}{i:Nat}{t:α}(h:l[i]? =some t):l.drop i=t::l.drop (i+1):=by obtain⟨hi,e⟩:=List.getElem?_eq_some_iff.mp h;rw[List.drop_eq_getElem_cons hi,e]
theorem take_snoc{α:Type}{l:List α}{i:Nat}{t:α}(h:l[i]? =some t):l.take (i+1)=l.take i++[t]:=by rw[List.take_add_one,h];rfl
theorem Numbering.skip{h:List Nat}{i:Nat}{Ns:List (List T3)}(R:Numbering h i Ns){t:Nat}(ht:(trianglesOf h)[i]? =some t)(hs:(aK (aD 0 Ns) (tP t)).isSome=true):Numbering h (i+1) Ns:=by
 obtain⟨⟨lab,firsts,O,hl,e⟩,dn⟩:=R;have hm:t∈trianglesOf h:=List.mem_of_getElem? ht;have q:lab.getD t 0≠NONE:=by intro q;have:=O.rel.ins t hm;rw[if_pos q]at this;rw[this]at hs;cases hs
 refine⟨⟨lab,firsts,O,hl,?_⟩,fun u hu=>?_,fun j hj=>?_,fun n u k hn hu hk j hj=>?_⟩
 ·rw[e,drop_cons ht];show(if lab.getD t 0≠NONE then _ else _)=_
  rw[if_pos q]
 ·rw[take_snoc ht]at hu;rcases List.mem_append.mp hu with hu|hu
  ·exact dn.1 u hu
  ·have:u=t:=by simpa using hu
   subst this;exact hs
 ·obtain⟨n,u,a1,a2⟩:=dn.2.1 j hj;exact⟨n,u,by omega,a2⟩
 ·by_cases c:n<i
  ·exact dn.2.2 n u k c hu hk j hj
  ·have:n=i:=by omega
   subst this;obtain⟨m,N,b1,_,b3⟩:=(BR Ns 0 _ _ O.nd).mp hk;have:=(List.getElem?_eq_some_iff.mp b1).1;exact dn.2.1 j (by omega)
theorem Numbering.face{h:List Nat}(hh:∀r∈h,okR r){facT:T3->Option Int}(hf:∀t∈trianglesOf h,facT (tP t)=some ((sS h).getD t 4:Int))(hf0:∀p,p∉ (trianglesOf h).map tP->facT p=none)
  (hlen:(trianglesOf h).length<NONE) {i:Nat}{Ns:List (List T3)} (R:Numbering h i Ns) {t:Nat} (ht:(trianglesOf h)[i]? =some t) (hl:aK (aD 0 Ns) (tP t)=none)
  {N:List T3} (hN:∀p,p∈N↔Rch (okT facT (tP t)) nbP (isN (aK (aD 0 Ns))) (tP t) p) (hnd:N.Nodup):Numbering h (i+1) (Ns++[N]):=by
 obtain⟨⟨lab,firsts,O,hl2,e⟩,dn⟩:=R;have hm:t∈trianglesOf h:=List.mem_of_getElem? ht;obtain⟨q,O2⟩:=O.face hh hf hf0 hlen hm hl hN hnd;have grow:∀p,(aK (aD 0 Ns) p).isSome=true->(aK (aD 0 (Ns++[N])) p).isSome=true:=by intro p hp;rw[aV,bA]at hp ⊢;rw[List.flatten_append];exact List.mem_append_left _ hp
 have hd:∀p∈N,p∉Ns.flatten:=fun p hp hm=>by have z:=O2.nd;rw[List.flatten_append,List.nodup_append]at z;exact z.2.2 p hm p (by simpa using hp) rfl
 have old:∀p (k:Nat),aK (aD 0 Ns) p=some (k:Int)->aK (aD 0 (Ns++[N])) p=some (k:Int):=fun p k hk=>by
  rw[n8 hd,if_neg]
  ·exact hk
  ·intro hp;refine hd p hp ?_;rw[<- bA Ns 0,<- aV,hk];rfl
 have htN:tP t∈N:=(hN _).mpr .refl;have new:aK (aD 0 (Ns++[N])) (tP t)=some (Ns.length:Int):=by rw[n8 hd,if_pos htN]
 refine⟨⟨_,t::firsts,O2,by simp[hl2],?_⟩,fun u hu=>?_,fun j hj=>?_,fun n u k hn hu hk j hj=>?_⟩
 rotate_left 2
 ·by_cases c:j<Ns.length
  ·obtain⟨n,u,a1,a2,a3⟩:=dn.2.1 j c;exact⟨n,u,by omega,a2,old _ _ a3⟩
  ·have:j=Ns.length:=by simp at hj;omega
   subst this;exact⟨i,t,by omega,ht,new⟩
 ·by_cases c:n<i
  ·have hs:=dn.1 u (List.mem_of_getElem? (l:=(trianglesOf h).take i) (i:=n) (by rw[List.getElem?_take_of_lt c];exact hu));have hk2:aK (aD 0 Ns) (tP u)=some (k:Int):=by
    rw[n8 hd,if_neg]at hk
    ·exact hk
    ·intro hp;refine hd _ hp ?_;rw[<- bA Ns 0,<- aV];exact hs
   obtain⟨m,v,a1,a2,a3⟩:=dn.2.2 n u k c hu hk2 j hj;exact⟨m,v,a1,a2,old _ _ a3⟩
  ·have:n=i:=by omega
   subst this;rw[ht]at hu;cases hu;rw[new]at hk;have:(Ns.length:Int)=(k:Int):=Option.some.inj hk;obtain⟨m,v,a1,a2,a3⟩:=dn.2.1 j (by omega);exact⟨m,v,a1,a2,old _ _ a3⟩
 ·rw[e,drop_cons ht];show(if lab.getD t 0≠NONE then _ else facesFrom _ _ _ (Ns.length+1) (t::firsts) (fill _ _ _ [t] lab))=_
  rw[if_neg (by simpa using q),List.length_append];rfl
 ·rw[take_snoc ht]at hu;rcases List.mem_append.mp hu with hu|hu
  ·exact grow _ (dn.1 u hu)
  ·have:u=t:=by simpa using hu
   subst this;rw[aV,bA,List.flatten_append];refine List.mem_append_right _ ?_;have:tP u∈N:=(hN _).mpr .refl;simpa using this
end RM
namespace RM
open Roof
noncomputable def fX(hs:List Pl):List T3:=hs.flatMap fun p=>[(p.1,p.2,0),(p.1,p.2,1),(p.1,p.2,2),(p.1,p.2,3)]
theorem jT(h:List Nat):fX (h.map hP)=(trianglesOf h).map tP:=by
 unfold fX trianglesOf;induction h with
 |nil=>rfl
 |cons r h ih=>
  rw[List.map_cons,List.flatMap_cons,List.flatMap_cons,List.map_append,ih];congr 1;have e0:tP (4*r)=((hP r).1,(hP r).2,0):=by unfold tP hP;rw[show 4*r/4=r by omega,show 4*r%4=0 by omega];rfl
  have e1:tP (4*r+1)=((hP r).1,(hP r).2,1):=by unfold tP hP;rw[show(4*r+1)/4=r by omega,show(4*r+1)%4=1 by omega];rfl
  have e2:tP (4*r+2)=((hP r).1,(hP r).2,2):=by unfold tP hP;rw[show(4*r+2)/4=r by omega,show(4*r+2)%4=2 by omega];rfl
  have e3:tP (4*r+3)=((hP r).1,(hP r).2,3):=by unfold tP hP;rw[show(4*r+3)/4=r by omega,show(4*r+3)%4=3 by omega];rfl
  simp[e0,e1,e2,e3]
theorem iX(hs:List Pl):(fX hs).length=4*hs.length:=by
 unfold fX;induction hs with
 |nil=>rfl
 |cons p r ih=>rw[List.flatMap_cons,List.length_append,ih];simp only[List.length_cons,List.length_nil];omega
theorem fE(l:Cells):(halvesOf l).length=4*l.length:=by
 unfold halvesOf;rw[List.length_mergeSort];induction l with
 |nil=>rfl
 |cons p r ih=>rw[List.flatMap_cons,List.length_append,ih];simp only[List.length_cons,List.length_nil];omega
end RM
namespace RM
open Roof
section
variable {κ β:Type} [DecidableEq κ]
theorem iO(f:κ->β)(l:List κ):(l.map fun p=>(p,f p)).map (·.1)=l:=by rw[List.map_map];simp[Function.comp_def]
theorem kP(f:κ->β)(k:κ):∀l:List κ,aK (l.map fun p=>(p,f p)) k=if k∈l then some (f k)else none
 |[]=>by simp[iV]
 |x::N=>by
  rw[List.map_cons,cD,kP f k N];by_cases e:x=k
  ·rw[if_pos e,if_pos (by simp[e]),e]
  ·rw[if_neg e];by_cases h:k∈N
   ·rw[if_pos h,if_pos (List.mem_cons_of_mem _ h)]
   ·rw[if_neg h,if_neg (by rw[List.mem_cons];rintro(z|z);exact e z.symm;exact h z)]
theorem GY(f:κ->β){l:List κ}{k:κ}(v:β)(h:k∈l):dD (l.map fun p=>(p,f p)) k v=l.map fun p=>(p,if p=k then v else f p):=by unfold dD;rw[if_pos (qZ.mpr (by rw[iO];exact h)),List.map_map];apply List.map_congr_left;intro x _;simp only[Function.comp];split<;>rfl
theorem vF:∀(L:List κ)(f:κ->β){l:List κ}(v:β),(∀p∈L,p∈l)->bS (l.map fun p=>(p,f p)) (L.map fun p=>(p,v))=l.map fun p=>(p,if p∈L then v else f p)
 |[],f,l,v,_=>by simp[bS]
 |k::L,f,l,v,h=>by
  rw[List.map_cons];show bS (dD (l.map fun p=>(p,f p)) k v) (L.map fun p=>(p,v))=_
  rw[GY f v (h k (by simp)),vF L (fun p=>if p=k then v else f p) v (fun p hp=>h p (by simp[hp]))];apply List.map_congr_left;intro x _;by_cases h1:x∈L
  ·simp[h1]
  ·by_cases h2:x=k
   ·simp[h1,h2]
   ·simp[h1,h2]
theorem pM:∀(ps l:List (κ×β)),(ps.map (·.1)).Nodup->(∀k∈ps.map (·.1),k∉l.map (·.1))->bS l ps=l++ps
 |[],l,_,_=>by simp[bS]
 |p::r,l,h,h2=>by
  rw[List.map_cons,List.nodup_cons]at h;show bS (dD l p.1 p.2) r=_
  rw[fM p.2 (h2 p.1 (by simp)),pM r _ h.2,List.append_assoc]
  ·rfl
  ·intro k hk hm;rw[List.map_append,List.mem_append]at hm;rcases hm with hm|hm
   ·exact h2 k (by rw[List.map_cons];exact List.mem_cons_of_mem _ hk) hm
   ·have:k=p.1:=by simpa using hm
    exact h.1 (this▸hk)
end
theorem E4{hs:List Pl}{p:Pl}(h:p∈hs):lP hs 1 p=0:=by
 show(if p∈aU hs 0 then((0:Nat):Int)else lP hs 0 p)=0
 rw[if_pos (show p∈aU hs 0 from h)];rfl
theorem mC(hs:List Pl):∀k,∀p∈aU hs k,p∈hs
 |0,_,h=>h
 |k+1,p,h=>mC hs k p (List.mem_filter.mp h).1
noncomputable def iB(hs:List Pl)(k:Nat):List (Pl×Int):=if k=0 then[]else hs.map fun p=>(p,lP hs k p)
theorem z5{hs:List Pl}(hn:hs.Nodup)(k:Nat):bS (iB hs k) ((aU hs k).map fun p=>(p,(k:Int)))=iB hs (k+1):=by
 cases k with
 |zero=>
  show bS [] (hs.map fun p=>(p,((0:Nat):Int)))=hs.map fun p=>(p,lP hs 1 p)
  rw[pM]
  ·rw[List.nil_append];apply List.map_congr_left;intro p hp;rw[E4 hp];rfl
  ·rw[iO (fun _=>((0:Nat):Int))];exact hn
  ·simp
 |succ k=>
  show bS (hs.map fun p=>(p,lP hs (k+1) p)) _=hs.map fun p=>(p,lP hs (k+2) p)
  rw[vF (aU hs (k+1)) (fun p=>lP hs (k+1) p) ((k+1:Nat):Int) (mC hs _)];apply List.map_congr_left;intro p _;show _=(p,if p∈aU hs (k+1)then((k+1:Nat):Int)else lP hs (k+1) p)
  by_cases q:p∈aU hs (k+1)
  ·rw[if_pos q,if_pos q]
  ·rw[if_neg q,if_neg q]
theorem v7{hs:List Pl}{k:Nat}(e:aU hs k=[])(p:Pl):∀m,k<=m->lP hs m p=lP hs k p:=by
 have mT:∀m,k<=m->aU hs m=[]:=by
  intro m hm;induction m with
  |zero=>
       have:k=0:=by omega
       rw[<- this];exact e
  |succ m ih=>
   by_cases h:k<=m
   ·show(aU hs m).filter _=[]
    rw[ih h];rfl
   ·have:k=m+1:=by omega
    rw[<- this];exact e
 intro m hm;induction m with
 |zero=>
      have:k=0:=by omega
      rw[this]
 |succ m ih=>
  by_cases h:k<=m
  ·show(if p∈aU hs m then(m:Int)else lP hs m p)=_
   rw[mT m h,if_neg (by simp),ih h]
  ·have:k=m+1:=by omega
   rw[this]
def bN(h:List Nat):List (Pl×Int):=(h.map hP).map fun p=>(p,dJ h p)
theorem B7{h:List Nat}(hh:∀r∈h,okR r){k:Nat}(hk:0<k)(e:aU (h.map hP) k=[]):iB (h.map hP) k=bN h:=by
 unfold iB bN;rw[if_neg (by omega)];apply List.map_congr_left;intro p hp;unfold dJ;rw[if_pos hp];have e64:aU (h.map hP) 64=[]:=by rw[dG hh,f9 hh (Nat.le_refl 64)];rfl
 by_cases c:k<=64
 ·rw[v7 e p 64 c]
 ·rw[v7 e64 p k (by omega)]
theorem GS(h:List Nat)(p:Pl):(aK (bN h) p).getD (-1)=dJ h p:=by
 unfold bN;rw[kP];by_cases q:p∈h.map hP
 ·rw[if_pos q];rfl
 ·rw[if_neg q];unfold dJ;rw[if_neg q];rfl
def hgt(h:List Nat)(p:Pl):Int:=(heightAt (gridOf h) p.1.toNat p.2.toNat:Int)
theorem mD(h:List Nat)(c:Point):hgt h (iP c)=(heightAt (gridOf h) c.1 c.2:Int):=by unfold hgt iP;simp
theorem J2{h:List Nat}(hh:∀r∈h,okR r){r c:Nat}(hr:r∈h){m:Int}(hm:m∈dQ h (aF (hP r) c))(hle:∀x∈dQ h (aF (hP r) c),m<=x):m=hgt h (aF (hP r) c):=by rw[gN]at hm hle ⊢;rw[mD];exact DQ hh (E9 (hh r hr)).1 hm hle
noncomputable def wD(h:List Nat)(t:T3):Int:=GO t.2.2.toNat (hgt h (aF (t.1,t.2.1) t.2.2.toNat)) (hgt h (aF (t.1,t.2.1) (t.2.2.toNat+1))) (dJ h (t.1,t.2.1))
theorem JC{h:List Nat}(hh:∀r∈h,okR r){t:Nat}(ht:t∈trianglesOf h):wD h (tP t)=((sS h).getD t 4:Int):=by
 have hr:=cR.mp ht;rw[E3 hh,if_pos ht,<- JD ((vZ hh).mpr hr)];unfold wD;have e1:((tP t).1,(tP t).2.1)=hP (t/4):=rfl;have e2:(tP t).2.2.toNat=t%4:=by unfold tP;dsimp only;omega
 rw[e1,e2,pI hh hr,gN,gN,mD,mD];rfl
def bR(h:List Nat):List (T3×Int):=(fX (h.map hP)).map fun t=>(t,wD h t)
theorem C6{h:List Nat}(hh:∀r∈h,okR r):∀t∈trianglesOf h,aK (bR h) (tP t)=some ((sS h).getD t 4:Int):=by intro t ht;unfold bR;rw[kP,jT,if_pos (List.mem_map.mpr ⟨t,ht,rfl⟩),JC hh ht]
theorem yW(h:List Nat):∀p,p∉ (trianglesOf h).map tP->aK (bR h) p=none:=by intro p hp;unfold bR;rw[kP,jT,if_neg hp]
end RM
namespace RM
open Roof
noncomputable def partsFrom(m:Int)(cur:List Int):List Int->List (List Int)
 |[]=>[cur]
 |v::r=>if v=m then cur::partsFrom m [] r else partsFrom m (cur++[v]) r
theorem fR(m:Int):∀(t cur:List Int),∃p ps,parts m t=p::ps/\partsFrom m cur t=(cur++p)::ps
 |[],cur=>⟨[],[],rfl,by simp[partsFrom]⟩
 |v::r,cur=>by
  by_cases e:v=m
  ·obtain⟨p,ps,h1,h2⟩:=fR m r [];refine⟨[],parts m r,?_,?_⟩
   ·simp[parts,e]
   ·simp only[partsFrom,if_pos e];rw[h2,h1];simp
  ·obtain⟨p,ps,h1,h2⟩:=fR m r (cur++[v]);refine⟨v::p,ps,?_,?_⟩
   ·simp[parts,e,h1]
   ·simp only[partsFrom,if_neg e];rw[h2];simp
theorem hV(m:Int)(t:List Int):partsFrom m [] t=parts m t:=by obtain⟨p,ps,h1,h2⟩:=fR m t [];rw[h2,h1];simp
theorem hY{m v:Int}{cur r:List Int}(e:v=m):partsFrom m cur (v::r)=cur::partsFrom m [] r:=by simp[partsFrom,e]
theorem gK{m v:Int}{cur r:List Int}(e:¬v=m):partsFrom m cur (v::r)=partsFrom m (cur++[v]) r:=by simp[partsFrom,e]
theorem oX(m:Int)(t:List Int):(parts m t).length<=t.length+1:=by
 have:∀(t cur:List Int),(partsFrom m cur t).length<=t.length+1:=by
  intro t;induction t with
  |nil=>intro cur;simp[partsFrom]
  |cons v r ih=>
   intro cur;by_cases e:v=m
   ·rw[hY e];have:=ih [];simp;omega
   ·rw[gK e];have:=ih (cur++[v]);simp;omega
 rw[<- hV];exact this t []
theorem hO{m:Int}{t p:List Int}(h:p∈parts m t):p.length<=t.length:=by
 have:∀(t cur:List Int),∀p∈partsFrom m cur t,p.length<=cur.length+t.length:=by
  intro t;induction t with
  |nil=>intro cur p hp;simp[partsFrom]at hp;subst hp;simp
  |cons v r ih=>
   intro cur p hp;by_cases e:v=m
   ·rw[hY e]at hp;rcases List.mem_cons.mp hp with rfl|hp
    ·simp
    ·have:=ih [] p hp;simp at this ⊢;omega
   ·rw[gK e]at hp;have:=ih _ p hp;simp at this ⊢;omega
 rw[<- hV]at h;simpa using this t [] p h
end RM
namespace RM
open Roof
section
variable {α β:Type}{f:α->Option β}
theorem DB:∀{l:List α}{zs:List β}{x:α}{z:β},l.mapM f=some zs->f x=some z->(l++[x]).mapM f=some (zs++[z]):=by
 intro l zs x z h1 h2;exact lE (by
  have h:=mapM_some h1;induction h with
  |nil=>exact .cons h2 .nil
  |cons r _ ih=>exact .cons r (ih (lE (by assumption))))
theorem oY{l:List α}{i:Nat}{zs:List β}{x:α}{z:β}(h:(l.take i).mapM f=some zs)(hx:l[i]? =some x)(hz:f x=some z):(l.take (i+1)).mapM f=some (zs++[z]):=by rw[take_snoc hx];exact DB h hz
theorem lQ.mem{R:α->β->Prop}:∀{l:List α}{m:List β},lQ R l m->∀x∈l,∃y,R x y
 |_,_,.nil,_,h=>by cases h
 |_,_,.cons r t,x,h=>by
  rcases List.mem_cons.mp h with rfl|h
  ·exact⟨_,r⟩
  ·exact lQ.mem t x h
theorem lQ.len{R:α->β->Prop}:∀{l:List α}{m:List β},lQ R l m->l.length=m.length
 |_,_,.nil=>rfl
 |_,_,.cons _ t=>by simp[lQ.len t]
theorem oZ{l:List α}{x:α}(hx:x∈l)(hz:f x=none):l.mapM f=none:=by
 cases h:l.mapM f with
 |none=>rfl
 |some zs=>obtain⟨y,e⟩:=(mapM_some h).mem x hx;rw[hz]at e;cases e
theorem sE{l:List α}{zs:List β}(h:l.mapM f=some zs):zs.length=l.length:=((mapM_some h).len).symm
end
theorem yT{α β:Type}{f:β->α->Option β}{l:List α}{b:β}{x:α}:(l++[x]).foldlM f b=(l.foldlM f b).bind fun c=>f c x:=by
 rw[List.foldlM_append];show(l.foldlM f b>>=fun c=>[x].foldlM f c)=_
 congr 1;funext c;simp
theorem qJ{α β:Type}{f:β->α->Option β}{l:List α}{b c:β}{i:Nat}{x:α}(h:(l.take i).foldlM f b=some c)(hx:l[i]? =some x):(l.take (i+1)).foldlM f b=f c x:=by rw[take_snoc hx,yT,h];rfl
theorem yU{α β:Type}{f:β->α->Option β}{l:List α}{b c:β}{i:Nat}{x:α}(h:(l.take i).foldlM f b=some c)(hx:l[i]? =some x)(hn:f c x=none):l.foldlM f b=none:=by have e:l=l.take (i+1)++l.drop (i+1):=(List.take_append_drop ..).symm;rw[e,List.foldlM_append,qJ h hx,hn];rfl
end RM
namespace RM
open Roof
def fP(a b q:Pl):Prop:=a.1=b.1/\a.1=q.1/\min a.2 b.2<=q.2/\q.2<max a.2 b.2
def mY(n k:Nat):Nat:=if k=0 then n - 1 else k - 1
noncomputable def yS(w:List Pl)(k:Nat)(q:Pl):Prop:=∃a b,w[k]? =some a/\w[mY w.length k]? =some b/\fP a b q
noncomputable def jE(ws:List (List Pl))(i:Nat)(q:Pl):Prop:=∃w∈ws.take i,∃k,yS w k q
theorem C5(a b:Point)(x y:Nat):qI a b x y=true↔fP (iP b) (iP a) ((x:Int),(y:Int)):=by
 unfold qI fP iP;simp only[Bool.and_eq_true,beq_iff_eq,decide_eq_true_iff];have e1:(min (b.2:Int) (a.2:Int))=((min a.2 b.2:Nat):Int):=by omega
 have e2:(max (b.2:Int) (a.2:Int))=((max a.2 b.2:Nat):Int):=by omega
 rw[e1,e2];omega
theorem x9(w:Walk)(s:Point×Point):s∈sides w↔∃k,w[k]? =some s.2/\w[mY w.length k]? =some s.1:=by
 unfold sides;rw[List.mem_iff_getElem?];have hz:∀(j:Nat),(w.zip (w.drop 1++w.take 1))[j]? =some s↔w[j]? =some s.1/\(w.drop 1++w.take 1)[j]? =some s.2:=by intro j;rw[List.getElem?_zip_eq_some]
 constructor
 ·rintro⟨j,h⟩;obtain⟨h1,h2⟩:=(hz j).mp h;have hj:j<w.length:=(List.getElem?_eq_some_iff.mp h1).1;by_cases c:j+1<w.length
  ·rw[List.getElem?_append_left (by rw[List.length_drop];omega),List.getElem?_drop]at h2;refine⟨j+1,by rw[Nat.add_comm];exact h2,?_⟩;unfold mY;rw[if_neg (by omega)];exact h1
  ·rw[List.getElem?_append_right (by rw[List.length_drop];omega),List.length_drop]at h2;have e:j - (w.length - 1)=0:=by omega
   rw[e,List.getElem?_take_of_lt (by omega)]at h2;refine⟨0,h2,?_⟩;unfold mY;rw[if_pos rfl,show w.length - 1=j by omega];exact h1
 ·rintro⟨k,h1,h2⟩;have hk:k<w.length:=(List.getElem?_eq_some_iff.mp h1).1;by_cases c:k=0
  ·subst c;refine⟨w.length - 1,(hz _).mpr ⟨h2,?_⟩⟩;rw[List.getElem?_append_right (by rw[List.length_drop];omega),List.length_drop,show w.length - 1 - (w.length - 1)=0 by omega,List.getElem?_take_of_lt (by omega)];exact h1
  ·refine⟨k - 1,(hz _).mpr ⟨?_,?_⟩⟩
   ·unfold mY at h2;rw[if_neg c]at h2;exact h2
   ·rw[List.getElem?_append_left (by rw[List.length_drop];omega),List.getElem?_drop,show 1+(k - 1)=k by omega];exact h1
theorem uW(w:Walk)(x y:Nat):(∃k,yS (iW w) k ((x:Int),(y:Int)))↔∃s∈sides w,qI s.1 s.2 x y=true:=by
 have hl:(iW w).length=w.length:=List.length_map ..;have hg:∀(k:Nat)(a:Pl),(iW w)[k]? =some a↔∃p,w[k]? =some p/\a=iP p:=by intro k a;unfold iW;rw[List.getElem?_map];cases w[k]? <;>simp[eq_comm]
 constructor
 ·rintro⟨k,a,b,h1,h2,h3⟩;obtain⟨p,hp,rfl⟩:=(hg k a).mp h1;rw[hl]at h2;obtain⟨q,hq,rfl⟩:=(hg _ b).mp h2;exact⟨(q,p),(x9 w (q,p)).mpr ⟨k,hp,hq⟩,(C5 q p x y).mpr h3⟩
 ·rintro⟨s,hs,hf⟩;obtain⟨k,h1,h2⟩:=(x9 w s).mp hs;exact⟨k,iP s.2,iP s.1,(hg k _).mpr ⟨_,h1,rfl⟩,by rw[hl];exact(hg _ _).mpr ⟨_,h2,rfl⟩,(C5 s.1 s.2 x y).mp hf⟩
theorem B0(ws:List Walk)(x y:Nat):jE (iWs ws) (iWs ws).length ((x:Int),(y:Int))↔dI ws x y=true:=by
 unfold jE dI;rw[List.take_of_length_le (Nat.le_refl _),List.any_eq_true];constructor
 ·rintro⟨w,hw,hk⟩;obtain⟨v,hv,rfl⟩:=List.mem_map.mp hw;obtain⟨s,hs,hf⟩:=(uW v x y).mp hk;exact⟨v,hv,List.any_eq_true.mpr ⟨s,hs,hf⟩⟩
 ·rintro⟨v,hv,h⟩;obtain⟨s,hs,hf⟩:=List.any_eq_true.mp h;exact⟨iW v,List.mem_map.mpr ⟨v,hv,rfl⟩,(uW v x y).mpr ⟨s,hs,hf⟩⟩
noncomputable def lU(ws:List (List Pl))(i:Nat)(w:List Pl)(k:Nat)(q:Pl):Prop:=jE ws i q\/∃j,j<k/\yS w j q
theorem B1(ws:List (List Pl))(i:Nat)(w:List Pl)(q:Pl):lU ws i w 0 q↔jE ws i q:=by
 unfold lU;constructor
 ·rintro(h|⟨j,h,_⟩)
  ·exact h
  ·omega
 ·exact .inl
theorem sP(ws:List (List Pl))(i:Nat)(w:List Pl)(k:Nat)(q:Pl):lU ws i w (k+1) q↔lU ws i w k q\/yS w k q:=by
 unfold lU;constructor
 ·rintro(h|⟨j,h1,h2⟩)
  ·exact .inl (.inl h)
  ·by_cases e:j=k
   ·exact .inr (e▸h2)
   ·exact .inl (.inr ⟨j,by omega,h2⟩)
 ·rintro((h|⟨j,h1,h2⟩)|h)
  ·exact .inl h
  ·exact .inr ⟨j,by omega,h2⟩
  ·exact .inr ⟨k,by omega,h⟩
theorem DX{ws:List (List Pl)}{i:Nat}{w:List Pl}(hw:ws[i]? =some w)(q:Pl):lU ws i w w.length q↔jE ws (i+1) q:=by
 unfold lU jE;rw[take_snoc hw];constructor
 ·rintro(⟨v,hv,h⟩|⟨j,_,h⟩)
  ·exact⟨v,List.mem_append_left _ hv,h⟩
  ·exact⟨w,by simp,j,h⟩
 ·rintro⟨v,hv,h⟩;rcases List.mem_append.mp hv with hv|hv
  ·exact .inl ⟨v,hv,h⟩
  ·have:v=w:=by simpa using hv
   subst this;obtain⟨k,h⟩:=h;obtain⟨a,b,h1,h2⟩:=id h;exact .inr ⟨k,(List.getElem?_eq_some_iff.mp h1).1,h⟩
noncomputable def box:List Pl:=(List.range 65).flatMap fun(x:Nat)=>(List.range 65).map fun(y:Nat)=>(((x:Int),(y:Int)):Pl)
theorem CD{q:Pl}(h1:0<=q.1)(h2:q.1<=64)(h3:0<=q.2)(h4:q.2<=64):q∈box:=by unfold box;refine List.mem_flatMap.mpr ⟨q.1.toNat,List.mem_range.mpr (by omega),List.mem_map.mpr ⟨q.2.toNat,List.mem_range.mpr (by omega),?_⟩⟩;obtain⟨a,b⟩:=q;simp at h1 h3 ⊢;omega
theorem JH:box.length=4225:=by decide+kernel
theorem sO{ws:List (List Pl)}(ho:∀w∈ws,∀p∈w,(0<=p.1/\p.1<=64)/\(0<=p.2/\p.2<=64)){w:List Pl}(hw:w∈ws){k:Nat}{q:Pl}(h:yS w k q):q∈box:=by obtain⟨a,b,h1,h2,h3,h4,h5,h6⟩:=h;have o1:=ho w hw a (List.mem_of_getElem? h1);have o2:=ho w hw b (List.mem_of_getElem? h2);exact CD (by omega) (by omega) (by omega) (by omega)
noncomputable def m4(F:Nat->Nat->Bool)(y n:Nat):Cells:=((List.range n).map fun x=>((x,y):Cell)).filter fun c=>bU F c.2 c.1
noncomputable def iI(F:Nat->Nat->Bool)(n:Nat):Cells:=(List.range n).flatMap fun y=>m4 F y 64
theorem CY(F:Nat->Nat->Bool):iI F 64=aO F:=rfl
theorem l8(F:Nat->Nat->Bool)(y n:Nat):m4 F y (n+1)=if bU F y n=true then m4 F y n++[(n,y)]else m4 F y n:=by
 unfold m4;rw[List.range_succ,List.map_append,List.filter_append];by_cases h:bU F y n=true
 ·rw[if_pos h];simp[h]
 ·rw[if_neg h];simp[h]
theorem rJ(F:Nat->Nat->Bool)(n:Nat):iI F (n+1)=iI F n++m4 F n 64:=by unfold iI;rw[List.range_succ,List.flatMap_append];simp
theorem rL{F:Nat->Nat->Bool}{y n:Nat}{c:Cell}(h:c∈m4 F y n):c.1<n/\c.2=y:=by unfold m4 at h;obtain⟨h1,_⟩:=List.mem_filter.mp h;obtain⟨x,hx,rfl⟩:=List.mem_map.mp h1;exact⟨List.mem_range.mp hx,rfl⟩
theorem uC{F:Nat->Nat->Bool}{n:Nat}{c:Cell}(h:c∈iI F n):c.2<n/\c.1<64:=by unfold iI at h;obtain⟨y,hy,h⟩:=List.mem_flatMap.mp h;have:=rL h;have:=List.mem_range.mp hy;omega
theorem yF(F:Nat->Nat->Bool)(y x:Nat):bU F y x=xor (if x=0 then false else bU F y (x - 1)) (F x y):=by
 cases x with
 |zero=>simp[bU]
 |succ x=>simp[bU]
theorem rM(F:Nat->Nat->Bool)(y n:Nat):(m4 F y n).length<=n:=by unfold m4;exact Nat.le_trans (List.length_filter_le _ _) (by simp)
theorem oP(F:Nat->Nat->Bool)(n:Nat):(iI F n).length<=64*n:=by
 induction n with
 |zero=>simp[iI]
 |succ n ih=>rw[rJ,List.length_append];have:=rM F n 64;omega
end RM
namespace RM
open Roof
section
variable {κ β:Type} [DecidableEq κ]
noncomputable def Tbl(l:List (κ×β))(S:κ->Prop):Prop:=(l.map (·.1)).Nodup/\∀q,q∈l.map (·.1)↔S q
theorem Tbl.nil:Tbl ([]:List (κ×β)) fun _=>False:=⟨by simp,by simp⟩
theorem Tbl.put{l:List (κ×β)}{S:κ->Prop}(h:Tbl l S)(k:κ)(v:β):Tbl (dD l k v) fun q=>S q\/q=k:=by
 refine⟨sZ h.1,fun q=>?_⟩;rw[pN];split
 ·rename_i hk;rw[h.2];constructor
  ·exact .inl
  ·rintro(z|z)
   ·exact z
   ·rw[z];exact(h.2 k).mp hk
 ·rw[List.mem_append,h.2];simp
theorem Tbl.iff{l:List (κ×β)}{S T:κ->Prop}(h:Tbl l S)(e:∀q,S q↔T q):Tbl l T:=⟨h.1,fun q=>(h.2 q).trans (e q)⟩
theorem Tbl.len{l:List (κ×β)}{S:κ->Prop}(h:Tbl l S){b:List κ}(hb:∀q,S q->q∈b):l.length<=b.length:=by
 have:=cK h.1 (b:=b) fun q hq=>hb q ((h.2 q).mp hq)
 rwa [List.length_map]at this
end
theorem IG{W:List Walk}(h:rY W):∀w∈iWs W,∀p∈w,(0<=p.1/\p.1<=64)/\(0<=p.2/\p.2<=64):=by intro w hw p hp;obtain⟨v,hv,rfl⟩:=List.mem_map.mp hw;obtain⟨q,hq,rfl⟩:=List.mem_map.mp hp;have:=h v hv q hq;unfold okP at this;unfold iP;simp only;omega
theorem DW{ws:List (List Pl)}(ho:∀w∈ws,∀p∈w,(0<=p.1/\p.1<=64)/\(0<=p.2/\p.2<=64)){w:List Pl}(hw:w∈ws){i k:Nat}{q:Pl}(h:lU ws i w k q):q∈box:=by
 rcases h with⟨v,hv,k,h⟩|⟨j,_,h⟩
 ·exact sO ho (List.mem_of_mem_take hv) h
 ·exact sO ho hw h
theorem yR(ws:List (List Pl))(q:Pl):jE ws 0 q↔False:=by simp[jE]
end RM
namespace RM
open Roof
noncomputable def cO(cs:List Pl)(c:Pl)(j:Nat):List (Pl×Int):=(([0,1,2,3].take j).filter fun(s:Nat)=>!decide (aM c s∈cs)).map fun s=>(aF c s,hdg s)
theorem sX(cs:List Pl)(c:Pl):cO cs c 4=eG cs c:=rfl
theorem qT(cs:List Pl)(c:Pl){j:Nat}(hj:j<4):cO cs c (j+1)=cO cs c j++(if aM c j∈cs then[]else[(aF c j,hdg j)]):=by
 have e:([0,1,2,3]:List Nat).take (j+1)=[0,1,2,3].take j++[j]:=by
  have cs:j=0\/j=1\/j=2\/j=3:=by omega
  rcases cs with rfl|rfl|rfl|rfl<;>rfl
 unfold cO;rw[e,List.filter_append,List.map_append];congr 1;by_cases h:aM c j∈cs
 ·rw[if_pos h];simp[h]
 ·rw[if_neg h];simp[h]
theorem kK(cs:List Pl)(c:Pl)(j:Nat):(cO cs c j).length<=4:=by unfold cO;rw[List.length_map];refine Nat.le_trans (List.length_filter_le _ _) ?_;rw[List.length_take];simp;omega
def d8(cs:List Pl)(i:Nat):List (Pl×Int):=(cs.take i).flatMap (eG cs)
theorem nL{cs:List Pl}{i:Nat}{c:Pl}(h:cs[i]? =some c):d8 cs (i+1)=d8 cs i++eG cs c:=by unfold d8;rw[take_snoc h,List.flatMap_append];simp
theorem yL(cs:List Pl):bS [] (d8 cs cs.length)=cY cs:=by unfold d8 cY fH;rw[List.take_of_length_le (Nat.le_refl _)]
theorem yK(cs:List Pl)(i:Nat):(d8 cs i).length<=4*i:=by
 induction i with
 |zero=>simp[d8]
 |succ i ih=>
  cases h:cs[i]? with
  |some c=>rw[nL h,List.length_append,<- sX];have:=kK cs c 4;omega
  |none=>
   have hl:cs.length<=i:=List.getElem?_eq_none_iff.mp h;have:d8 cs (i+1)=d8 cs i:=by unfold d8;rw[List.take_of_length_le (by omega),List.take_of_length_le hl]
   rw[this];omega
theorem sY{κ β:Type}[DecidableEq κ](l a:List (κ×β))(k:κ)(v:β):bS l (a++[(k,v)])=dD (bS l a) k v:=by rw[wL];rfl
end RM
namespace RM
open Roof
structure eY(l:Cells)(seen:List Point)(i:Nat)(ws:List Walk):Prop where
 GH:eZ l seen ((bX l).drop i)
 eq:ws++walksFrom l seen ((bX l).drop i)=walksOf l
 nd:seen.Nodup
 out:∀y∈seen,(outOf l y).isSome=true
theorem eY.start(l:Cells):eY l [] 0 [] where
 GH:=eZ.starts l
 eq:=by
  show walksFrom l [] (bX l)=walksFrom l [] (pointsOf l)
  rw[dM l (pointsOf l)];rfl
 nd:=by simp
 out:=by simp
theorem eY.skip{l:Cells}{seen:List Point}{i:Nat}{ws:List Walk}(h:eY l seen i ws){p:Point}(hi:(bX l)[i]? =some p)(hs:p∈seen):eY l seen (i+1) ws:=by
 have g:=h.GH;have e:=h.eq;rw[drop_cons hi]at g e;refine⟨g.skip (.inl hs),?_,h.nd,h.out⟩;rw[<- e];show _=ws++(if seen.contains p=true then _ else _)
 rw[if_pos (by simpa using hs)]
theorem eY.done{l:Cells}{seen:List Point}{ws:List Walk}(h:eY l seen (bX l).length ws):ws=walksOf l:=by have e:=h.eq;rw[List.drop_eq_nil_of_le (Nat.le_refl _)]at e;rw[<- e];simp[walksFrom]
theorem eY.len{l:Cells}(hp:pinched l=false){seen:List Point}{i:Nat}{ws:List Walk}(h:eY l seen i ws):seen.length<=4*l.length:=by
 have h1:(iW seen).Nodup:=cT h.nd fun x _ y _ e=>fT e
 have h2:=cK (b:=(cY (iW l)).map (·.1)) h1 fun p hm=>by
  obtain⟨q,hq,rfl⟩:=List.mem_map.mp hm;have:=h.out q hq;cases e:outOf l q with
  |none=>rw[e]at this;cases this
  |some d=>exact(pC hp _).mpr ⟨q,d,rfl,e⟩
 have h3:=nK (iW l);simp only[iW,List.length_map]at h2 h3;omega
theorem eY.next{l:Cells}(hp:pinched l=false){seen:List Point}{i:Nat}{ws:List Walk}(h:eY l seen i ws){p:Point}(hi:(bX l)[i]? =some p)(hs:p∉seen):
  ∃f:List (Pl×Int),lZ (aK (cY (iW l))) (iP p) f (iP p)/\f≠[]/\(f.map (·.1)).Nodup/\(∀y∈f.map (·.1),y∉iW seen)/\∃(seen':List Point)(w:Walk),iW seen'=iW seen++f.map (·.1)/\iW w=bH none f/\eY l seen' (i+1) (ws++[w]):=by
 have g:=h.GH;have e:=h.eq;rw[drop_cons hi]at g e;have hm:=List.mem_of_getElem? hi;have ho:=(List.mem_filter.mp hm).2;obtain⟨d,ho⟩:∃d,outOf l p=some d:=by
  cases q:outOf l p with
  |none=>rw[q]at ho;cases ho
  |some d=>exact⟨d,rfl⟩
 obtain⟨f,p1,p2,p3,p4,p5,p6,p7⟩:=EN hp g hs ho;have ek:(f.map iF).map (·.1)=iW (f.map (·.1)):=by simp[iW,iF,Function.comp_def]
 have nd2:(f.map (·.1)).Nodup:=by rw[ek]at p3;unfold iW at p3;exact List.Pairwise.of_map iP (fun a b hab z=>hab (by rw[z])) p3
 refine⟨f.map iF,p1,by intro z;exact p2 (by simpa using z),p3,?_,seen++f.map (·.1),cornersOf f,?_,p7,p5,?_,?_,?_⟩
 ·intro y hy;rw[ek]at hy;obtain⟨q,hq,rfl⟩:=List.mem_map.mp hy;intro z;exact p4 q hq (gL.mp z)
 ·rw[ek];simp[iW]
 ·rw[<- e,p6];simp
 ·rw[List.nodup_append];exact⟨h.nd,nd2,fun a ha b hb z=>p4 b hb (z▸ha)⟩
 ·intro y hy;rcases List.mem_append.mp hy with hy|hy
  ·exact h.out y hy
  ·have hk:iP y∈(f.map iF).map (·.1):=by rw[ek];exact gL.mpr hy
   have pa:∀{a b:Pl}{r:List (Pl×Int)},lZ (aK (cY (iW l))) a r b->∀z∈r.map (·.1),(aK (cY (iW l)) z).isSome=true:=by
    intro a b r pr;induction pr with
    |nil p=>intro z hz;cases hz
    |cons h1 _ _ _ ih=>
     intro z hz;rcases List.mem_cons.mp hz with rfl|hz
     ·rw[h1];rfl
     ·exact ih z hz
   have:=pa p1 _ hk;rw[aV]at this;obtain⟨q,d',h1,h2⟩:=(pC hp _).mp this;rw[fT h1,h2];rfl
end RM
namespace RM
open Roof
noncomputable def uF(c:Pl):List Pl:=[(2*c.1+0,2*c.2+0),(2*c.1+1,2*c.2+0),(2*c.1+0,2*c.2+1),(2*c.1+1,2*c.2+1)]
theorem xF{cs:List Pl}{i:Nat}{c:Pl}(h:cs[i]? =some c):fN (cs.take (i+1))=fN (cs.take i)++uF c:=by unfold fN;rw[take_snoc h,List.flatMap_append];simp[uF]
theorem zS(cs:List Pl):(fN cs).length=4*cs.length:=by
 unfold fN;induction cs with
 |nil=>rfl
 |cons c r ih=>rw[List.flatMap_cons,List.length_append,ih,List.length_cons];simp;omega
theorem D5(c:Pl){j:Nat}{q:Pl}(hq:([(0,0),(1,0),(0,1),(1,1)]:List Pl)[j]? =some q):(uF c).take (j+1)=(uF c).take j++[(2*c.1+q.1,2*c.2+q.2)]:=by
 have hj:j<4:=(List.getElem?_eq_some_iff.mp hq).1;have cs:j=0\/j=1\/j=2\/j=3:=by omega
 rcases cs with rfl|rfl|rfl|rfl<;>(cases hq;rfl)
theorem BF(p:Pl){j:Nat}{q:Pl}(hq:([(-1,-1),(0,-1),(1,-1),(-1,0),(1,0),(-1,1),(0,1),(1,1)]:List Pl)[j]? =some q):(eX p)[j]? =some (p.1+q.1,p.2+q.2):=by
 have hj:j<8:=(List.getElem?_eq_some_iff.mp hq).1;have cs:j=0\/j=1\/j=2\/j=3\/j=4\/j=5\/j=6\/j=7:=by omega
 rcases cs with rfl|rfl|rfl|rfl|rfl|rfl|rfl|rfl<;>(cases hq;rfl)
end RM
namespace RM
open Roof
theorem JK(h:List Nat)(p:Pl){j:Nat}{q:Pl}(hq:([(-1,-1),(0,-1),(-1,0),(0,0)]:List Pl)[j]? =some q):(dQ h p)[j]? =some (dJ h (p.1+q.1,p.2+q.2)+1):=by
 have hj:j<4:=(List.getElem?_eq_some_iff.mp hq).1;have cs:j=0\/j=1\/j=2\/j=3:=by omega
 rcases cs with rfl|rfl|rfl|rfl<;>(cases hq;rfl)
structure zG(h:List Nat)(ht:List (Pl×Int)):Prop where
 val:∀q z,aK ht q=some z->z=hgt h q
 all:∀x∈h,∀c,c<4->aK ht (aF (hP x) c)=some (hgt h (aF (hP x) c))
structure g7(h:List Nat)(ht:List (Pl×Int))(i j:Nat):Prop where
 val:∀q z,aK ht q=some z->z=hgt h q
 old:∀m x,m<i->h[m]? =some x->∀c,c<4->(aK ht (aF (hP x) c)).isSome=true
 cur:∀x,h[i]? =some x->∀c,c<j->(aK ht (aF (hP x) c)).isSome=true
 len:ht.length<=4*i+j
theorem g7.start(h:List Nat):g7 h [] 0 0:=⟨fun q z e=>(by cases e),fun m x hm=>by omega,fun x _ c hc=>by omega,Nat.zero_le _⟩
theorem g7.keep{h:List Nat}{ht:List (Pl×Int)}{i j:Nat}(a:g7 h ht i j){r:Nat}(hr:h[i]? =some r)(hs:(aK ht (aF (hP r) j)).isSome=true):g7 h ht i (j+1):=by
 refine⟨a.val,a.old,fun x hx c hc=>?_,by have:=a.len;omega⟩;by_cases e:c=j
 ·subst e;rw[hr]at hx;cases hx;exact hs
 ·exact a.cur x hx c (by omega)
theorem g7.put{h:List Nat}{ht:List (Pl×Int)}{i j:Nat}(a:g7 h ht i j){r:Nat}(hr:h[i]? =some r):g7 h (dD ht (aF (hP r) j) (hgt h (aF (hP r) j))) i (j+1):=by
 have mono:∀q,(aK ht q).isSome=true->(aK (dD ht (aF (hP r) j) (hgt h (aF (hP r) j))) q).isSome=true:=by
  intro q hq;rw[kO];split
  ·rfl
  ·exact hq
 refine⟨fun q z e=>?_,fun m x hm hx c hc=>mono _ (a.old m x hm hx c hc),fun x hx c hc=>?_,?_⟩
 ·rw[kO]at e;by_cases z':q=aF (hP r) j
  ·rw[if_pos z']at e;cases e;rw[z']
  ·rw[if_neg z']at e;exact a.val q z e
 ·by_cases e:c=j
  ·subst e;rw[hr]at hx;cases hx;rw[kO,if_pos rfl];rfl
  ·exact mono _ (a.cur x hx c (by omega))
 ·have:=qN ht (aF (hP r) j) (hgt h (aF (hP r) j));have:=a.len;omega
theorem g7.next{h:List Nat}{ht:List (Pl×Int)}{i:Nat}(a:g7 h ht i 4):g7 h ht (i+1) 0:=by
 refine⟨a.val,fun m x hm hx c hc=>?_,by intro x _ c hc;omega,by have:=a.len;omega⟩;by_cases e:m=i
 ·subst e;exact a.cur x hx c hc
 ·exact a.old m x (by omega) hx c hc
theorem g7.done{h:List Nat}{ht:List (Pl×Int)}(a:g7 h ht h.length 0):zG h ht:=by
 refine⟨a.val,fun x hx c hc=>?_⟩;obtain⟨m,hm⟩:=List.mem_iff_getElem?.mp hx;have:=a.old m x (List.getElem?_eq_some_iff.mp hm).1 hm c hc;cases e:aK ht (aF (hP x) c)with
 |none=>rw[e]at this;cases this
 |some z=>rw[a.val _ z e]
def vI(p:Pl):List T3:=[(p.1,p.2,0),(p.1,p.2,1),(p.1,p.2,2),(p.1,p.2,3)]
theorem zO{hs:List Pl}{i:Nat}{p:Pl}(h:hs[i]? =some p):fX (hs.take (i+1))=fX (hs.take i)++vI p:=by unfold fX;rw[take_snoc h,List.flatMap_append];simp[vI]
theorem CV(p:Pl){j:Nat}(hj:j<4):(vI p).take (j+1)=(vI p).take j++[(p.1,p.2,(j:Int))]:=by
 have cs:j=0\/j=1\/j=2\/j=3:=by omega
 rcases cs with rfl|rfl|rfl|rfl<;>rfl
theorem CQ{hs:List Pl}{t:T3}(h:t∈fX hs):(t.1,t.2.1)∈hs:=by unfold fX at h;obtain⟨p,hp,h⟩:=List.mem_flatMap.mp h;simp at h;rcases h with rfl|rfl|rfl|rfl<;>exact hp
theorem CU{hs:List Pl}(hn:hs.Nodup){i j:Nat}{p:Pl}(h:hs[i]? =some p)(hj:j<4):(p.1,p.2,(j:Int))∉fX (hs.take i)++(vI p).take j:=by
 intro z;rcases List.mem_append.mp z with z|z
 ·have:=CQ z;simp only at this;obtain⟨m,hm⟩:=List.mem_iff_getElem?.mp this;have hlt:m<i:=by have:=(List.getElem?_eq_some_iff.mp hm).1;rw[List.length_take]at this;omega
  rw[List.getElem?_take_of_lt hlt]at hm;have h1:=(List.getElem?_eq_some_iff.mp hm).1;have hpw:=List.pairwise_iff_getElem.mp hn m i h1 (List.getElem?_eq_some_iff.mp h).1 hlt;have e1:=(List.getElem?_eq_some_iff.mp hm).2;have e2:=(List.getElem?_eq_some_iff.mp h).2;exact hpw (e1.trans e2.symm)
 ·have cs:j=0\/j=1\/j=2\/j=3:=by omega
  rcases cs with rfl|rfl|rfl|rfl<;>simp[vI]at z
theorem CT(hs:List Pl)(i:Nat):(fX (hs.take i)).length<=4*hs.length:=by rw[iX,List.length_take];omega
end RM
namespace RM
open Roof
section
variable {α:Type}{ok:α->Prop}{nb:α->List α}{U:α->Prop}{t0:α}
theorem gC.iff{N N' W:List α}(h:gC ok nb U t0 N W)(e:∀x,x∈N'↔x∈N):gC ok nb U t0 N' W:=
 ⟨fun x hx=>h.new x ((e x).mp hx),h.wait,h.start.imp (e t0).mpr id,fun x hx u hu ou uu=>(h.oO x ((e x).mp hx) u hu ou uu).imp (e u).mpr id⟩
theorem gC.pop{N W:List α}{x:α}(h:gC ok nb U t0 N (W++[x]))(o0:ok t0)(u0:¬U t0)(hx:¬ok x\/U x\/x∈N):gC ok nb U t0 N W:=
 h.skip o0 u0 (x:=x) (fun y hy=>List.mem_append_left _ hy) (fun y hy=>by
  rcases List.mem_append.mp hy with q|q
  ·exact .inl q
  ·exact .inr (by simpa using q)) hx
theorem gC.push{N W:List α}{x:α}(h:gC ok nb U t0 N (W++[x]))(ox:ok x)(ux:¬U x):gC ok nb U t0 (N++[x]) (W++nb x):=by
 refine(h.take (x:=x) (W':=W++nb x) (by simp) ox ux (fun y hy=>?_) (fun y hy=>?_) fun u hu _ _=>List.mem_append_right _ hu).iff fun y=>by simp[or_comm]
 ·rcases List.mem_append.mp hy with q|q
  ·exact .inl (List.mem_append_left _ q)
  ·exact .inr q
 ·rcases List.mem_append.mp hy with q|q
  ·exact .inl (List.mem_append_left _ q)
  ·exact .inr (by simpa using q)
end
theorem E2{h:List Nat}{t:T3}{z:Int}(e:aK (bR h) t=some z):0<=t.2.2/\t.2.2<4:=by
 have hm:t∈(trianglesOf h).map tP:=by apply Classical.byContradiction;intro q;rw[yW h t q]at e;cases e
 obtain⟨u,_,rfl⟩:=List.mem_map.mp hm;unfold tP;dsimp only;omega
theorem dO(h:List Nat):(bR h).map (·.1)=(trianglesOf h).map tP:=by unfold bR;rw[iO,jT]
theorem wW(h:List Nat):(trianglesOf h).length=4*h.length:=by have:=iX (h.map hP);rw[jT,List.length_map,List.length_map]at this;exact this
end RM
namespace RM
open Roof
theorem BS:∀(Ns:List (List T3))(j:Nat)(x:T3×Int),x∈aD j Ns->(j:Int)<=x.2
 |[],j,x,h=>by cases h
 |N::r,j,x,h=>by
  rcases List.mem_append.mp (show x∈N.map (fun p=>(p,(j:Int)))++aD (j+1) r from h)with h|h
  ·obtain⟨p,_,rfl⟩:=List.mem_map.mp h;exact Int.le_refl _
  ·have:=BS r (j+1) x h;omega
theorem xQ:∀(A B:List (List T3))(j:Nat),(∀N∈A,N≠[])->(∀N∈B,N≠[])->aD j A=aD j B->A=B
 |[],[],_,_,_,_=>rfl
 |[],N::r,j,_,hB,e=>by
  have e:([]:List (T3×Int))=N.map (fun p=>(p,(j:Int)))++aD (j+1) r:=e;have:=hB N (by simp);cases N with
  |nil=>exact absurd rfl this
  |cons _ _=>simp at e
 |N::r,[],j,hA,_,e=>by
  have e:N.map (fun p=>(p,(j:Int)))++aD (j+1) r=[]:=e;have:=hA N (by simp);cases N with
  |nil=>exact absurd rfl this
  |cons _ _=>simp at e
 |N::r,M::s,j,hA,hB,e=>by
  have e:N.map (fun p=>(p,(j:Int)))++aD (j+1) r=M.map (fun p=>(p,(j:Int)))++aD (j+1) s:=e;have none_of:∀q:List (List T3),(aD (j+1) q).filter (fun x=>decide (x.2=(j:Int)))=[]:=by intro q;rw[List.filter_eq_nil_iff];intro x hx;have:=BS q (j+1) x hx;simp;omega
  have all_of:∀q:List T3,(q.map (fun p=>(p,(j:Int)))).filter (fun x=>decide (x.2=(j:Int)))=q.map (fun p=>(p,(j:Int))):=by intro q;rw[List.filter_eq_self];intro x hx;obtain⟨p,_,rfl⟩:=List.mem_map.mp hx;simp
  have e2:=congrArg (List.filter (fun x=>decide (x.2=(j:Int)))) e;rw[List.filter_append,List.filter_append,none_of,none_of,all_of,all_of,List.append_nil,List.append_nil]at e2;have eN:N=M:=by
   have:=congrArg (List.map Prod.fst) e2;rw[List.map_map,List.map_map]at this;have id1:∀q:List T3,q.map (Prod.fst∘fun p=>(p,(j:Int)))=q:=fun q=>List.map_id q
   rw[id1,id1]at this;exact this
  subst eN;have e3:=List.append_cancel_left e;rw[xQ r s (j+1) (fun x hx=>hA x (by simp[hx])) (fun x hx=>hB x (by simp[hx])) e3]
theorem uP:∀(Ns:List (List T3))(k i:Nat)(t:T3)(m:Int),(∀N∈Ns,N≠[])->(aD k Ns)[i]? =some (t,m)->(i=0/\m=(k:Int))\/(0<i/\∃t' m',(aD k Ns)[i - 1]? =some (t',m')/\(m=m'\/m=m'+1))
 |[],k,i,t,m,_,h=>by simp[aD]at h
 |N::r,k,i,t,m,hne,h=>by
  have h:(N.map (fun p=>(p,(k:Int)))++aD (k+1) r)[i]? =some (t,m):=h;show(i=0/\m=(k:Int))\/(0<i/\∃t' m',(N.map (fun p=>(p,(k:Int)))++aD (k+1) r)[i - 1]? =some (t',m')/\(m=m'\/m=m'+1))
  have hN:0<N.length:=List.length_pos_iff.mpr (hne N (by simp));have lN:(N.map (fun p=>(p,(k:Int)))).length=N.length:=by simp
  have inN:∀j,j<N.length->∃t',(N.map (fun p=>(p,(k:Int)))++aD (k+1) r)[j]? =some (t',(k:Int)):=by intro j hj;refine⟨N[j],?_⟩;rw[List.getElem?_append_left (by omega),List.getElem?_map,List.getElem?_eq_getElem hj];rfl
  by_cases c:i<N.length
  ·obtain⟨t',ht'⟩:=inN i c;rw[ht']at h;cases h;by_cases i0:i=0
   ·exact .inl ⟨i0,rfl⟩
   ·obtain⟨t2,ht2⟩:=inN (i - 1) (by omega);exact .inr ⟨by omega,t2,_,ht2,.inl rfl⟩
  ·rw[List.getElem?_append_right (by omega),lN]at h;rcases uP r (k+1) (i - N.length) t m (fun x hx=>hne x (by simp[hx])) h with⟨e1,e2⟩|⟨e1,t',m',e2,e3⟩
   ·obtain⟨t2,ht2⟩:=inN (i - 1) (by omega);exact .inr ⟨by omega,t2,_,ht2,.inr (by omega)⟩
   ·refine .inr ⟨by omega,t',m',?_,e3⟩;rw[List.getElem?_append_right (by omega),lN,show i - 1 - N.length=i - N.length - 1 by omega];exact e2
structure pP(Ns:List (List T3))(i:Nat)(Fs:List (List T3)):Prop where
 eq:aD 0 Fs=(aD 0 Ns).take i
 ne:∀F∈Fs,F≠[]
theorem pP.start(Ns:List (List T3)):pP Ns 0 []:=⟨rfl,by simp⟩
theorem pP.done{Ns Fs:List (List T3)}(hne:∀N∈Ns,N≠[])(h:pP Ns (aD 0 Ns).length Fs):Fs=Ns:=by have e:=h.eq;rw[List.take_of_length_le (Nat.le_refl _)]at e;exact xQ Fs Ns 0 h.ne hne e
theorem pP.step{Ns Fs:List (List T3)}(hne:∀N∈Ns,N≠[]){i:Nat}{t:T3}{m:Int}(h:pP Ns i Fs)(hi:(aD 0 Ns)[i]? =some (t,m)):
  (m=(Fs.length:Int)/\pP Ns (i+1) (Fs++[[]++[t]]))\/∃F L,Fs=F++[L]/\m=(F.length:Int)/\pP Ns (i+1) (F++[L++[t]]):=by
 have hil:=(List.getElem?_eq_some_iff.mp hi).1;have new:m=(Fs.length:Int)->pP Ns (i+1) (Fs++[[]++[t]]):=by
  intro em;refine⟨?_,fun F hF=>?_⟩
  ·rw[iM,h.eq,take_snoc hi,em];rfl
  ·rcases List.mem_append.mp hF with hF|hF
   ·exact h.ne F hF
   ·have:F=[t]:=by simpa using hF
    rw[this];simp
 rcases uP Ns 0 i t m hne hi with⟨i0,m0⟩|⟨ip,t',m',hi',hm⟩
 ·subst i0;have hF:Fs=[]:=by
   cases Fs with
   |nil=>rfl
   |cons F r=>
    have e:=h.eq;have:=h.ne F (by simp);cases F with
    |nil=>exact absurd rfl this
    |cons _ _=>simp[aD]at e
  subst hF;exact .inl ⟨by rw[m0];rfl,new (by rw[m0];rfl)⟩
 ·have hne2:Fs≠[]:=by intro z;have e:=h.eq;rw[z]at e;have:=congrArg List.length e;rw[List.length_take]at this;simp[aD]at this;omega
  obtain⟨F,L,eF⟩:∃F L,Fs=F++[L]:=⟨Fs.dropLast,Fs.getLast hne2,(List.dropLast_concat_getLast hne2).symm⟩
  subst eF;have hL:L≠[]:=h.ne L (by simp);have e:=h.eq;rw[iM]at e;have el:(aD 0 F++L.map fun p=>(p,(F.length:Int))).length=i:=by rw[e,List.length_take];omega
  have hLp:0<L.length:=List.length_pos_iff.mpr hL;have elast:(aD 0 F++L.map fun p=>(p,(F.length:Int)))[i - 1]? =some (L[L.length - 1],(F.length:Int)):=by rw[List.length_append,List.length_map]at el;rw[List.getElem?_append_right (by omega),List.getElem?_map,show i - 1 - (aD 0 F).length=L.length - 1 by omega,List.getElem?_eq_getElem (by omega)];rfl
  rw[e,List.getElem?_take_of_lt (by omega),hi']at elast;cases elast;rcases hm with hm|hm
  ·refine .inr ⟨F,L,rfl,hm,?_,fun G hG=>?_⟩
   ·rw[iM,List.map_append,<- List.append_assoc,e,take_snoc hi,hm];rfl
   ·rcases List.mem_append.mp hG with hG|hG
    ·exact h.ne G (by simp[hG])
    ·have:G=L++[t]:=by simpa using hG
     rw[this];simp
  ·have em:m=((F++[L]).length:Int):=by rw[hm,List.length_append];simp
   exact .inl ⟨em,new em⟩
end RM
namespace RM
open Roof
noncomputable def f7(h g:List Nat)(t:T3):Int:=
 if(t.1,t.2.1)∉h.map hP then 2 else if(t.1,t.2.1)∉g.map hP then 3 else
 if dJ h (t.1,t.2.1)=dJ g (t.1,t.2.1)/\hgt h (aF (t.1,t.2.1) t.2.2.toNat)=hgt g (aF (t.1,t.2.1) t.2.2.toNat)/\hgt h (aF (t.1,t.2.1) (t.2.2.toNat+1))=hgt g (aF (t.1,t.2.1) (t.2.2.toNat+1))then 0 else 1
theorem C4{h:List Nat}(hh:∀r∈h,okR r){r:Nat}(hr:okR r):hP r∈h.map hP↔r∈h:=by
 constructor
 ·intro q;obtain⟨x,hx,e⟩:=List.mem_map.mp q;exact mF (hh x hx) hr e▸hx
 ·exact fun q=>List.mem_map.mpr ⟨r,q,rfl⟩
theorem oI{l:Cells}(hb:∀c∈l,c.1<64/\c.2<64)(t:Nat):(topOf l).in_ t=true↔t/4∈halvesOf l:=by have e:(topOf l).in_ t=decide (0<(gridOf (halvesOf l)).val (t/4)):=rfl;rw[e,decide_eq_true_iff,vZ (cC hb)]
section
variable {l m:Cells} (hl:∀c∈l,c.1<64/\c.2<64) (hm:∀c∈m,c.1<64/\c.2<64)
include hl hm
theorem same_iff{t:Nat}(h1:t/4∈halvesOf l)(h2:t/4∈halvesOf m):same (topOf l) (topOf m) t=true↔dJ (halvesOf l) (hP (t/4))=dJ (halvesOf m) (hP (t/4))/\hgt (halvesOf l) (aF (hP (t/4)) (t%4))=hgt (halvesOf m) (aF (hP (t/4)) (t%4))/\hgt (halvesOf l) (aF (hP (t/4)) (t%4+1))=hgt (halvesOf m) (aF (hP (t/4)) (t%4+1)):=by have e:same (topOf l) (topOf m) t=((gridOf (halvesOf l)).val (t/4)==(gridOf (halvesOf m)).val (t/4)&& ([t%4,t%4+1].all fun(c:Nat)=>heightOf (gridOf (halvesOf l)) (t/4) c==heightOf (gridOf (halvesOf m)) (t/4) c)):=rfl;rw[e,pI (cC hl) h1,pI (cC hm) h2,gN,gN,mD,mD,mD,mD];simp only[List.all_cons,List.all_nil,Bool.and_true,Bool.and_eq_true,beq_iff_eq];unfold heightOf;omega
theorem IT{t:Nat}(hr:okR (t/4))(hin:t/4∈halvesOf l\/t/4∈halvesOf m):∃k:Nat,lot (topOf l) (topOf m) t=some k/\f7 (halvesOf l) (halvesOf m) (tP t)=(k:Int)/\k<4:=by
 have e1:((tP t).1,(tP t).2.1)=hP (t/4):=rfl;have e2:(tP t).2.2.toNat=t%4:=by unfold tP;dsimp only;omega
 unfold f7 lot;rw[e1,e2];have m1:=C4 (cC hl) hr;have m2:=C4 (cC hm) hr;by_cases c1:t/4∈halvesOf l
 ·rw[if_pos ((oI hl t).mpr c1),if_neg (not_not_intro (m1.mpr c1))];by_cases c2:t/4∈halvesOf m
  ·rw[if_pos ((oI hm t).mpr c2),if_neg (not_not_intro (m2.mpr c2))];by_cases c3:same (topOf l) (topOf m) t=true
   ·rw[if_pos c3,if_pos ((same_iff hl hm c1 c2).mp c3)];exact⟨0,rfl,rfl,by decide⟩
   ·rw[if_neg c3,if_neg (fun z=>c3 ((same_iff hl hm c1 c2).mpr z))];exact⟨1,rfl,rfl,by decide⟩
  ·rw[if_neg (fun z=>c2 ((oI hm t).mp z)),if_pos (show¬ _ from fun z=>c2 (m2.mp z))];exact⟨3,rfl,rfl,by decide⟩
 ·have c2:t/4∈halvesOf m:=hin.resolve_left c1;rw[if_neg (fun z=>c1 ((oI hl t).mp z)),if_pos (show¬ _ from fun z=>c1 (m1.mp z)),if_pos ((oI hm t).mpr c2)];exact⟨2,rfl,rfl,by decide⟩
end
section
variable {i j s:Int}{t u:List Int}
theorem rZ{t:List Int}{f:Top->RoofB.Answer}(h:houseOf (RoofBNeutral.text t)=none):RoofB.ofTop (RoofBNeutral.text t) f=[-1]:=by unfold RoofB.ofTop;rw[h];rfl
theorem m7{t:List Int}{f:Top->RoofB.Answer}{l:Cells}(h:houseOf (RoofBNeutral.text t)=some l):RoofB.ofTop (RoofBNeutral.text t) f=f (topOf l):=by unfold RoofB.ofTop;rw[h]
end
theorem uZ{h:List Nat}{p:Pl}(m:p∈h.map hP):aK (bN h) p=some (dJ h p):=by unfold bN;rw[kP,if_pos m]
theorem zG.at{h:List Nat}{ht:List (Pl×Int)}{p:Pl}(o:zG h ht)(m:p∈h.map hP){c:Nat}(hc:c<5):aK ht (aF p c)=some (hgt h (aF p c)):=by
 obtain⟨r,hr,rfl⟩:=List.mem_map.mp m;by_cases c4:c<4
 ·exact o.all r hr c c4
 ·have e:c=4:=by omega
  subst e;exact o.all r hr 0 (by decide)
theorem nQ{h:List Nat}{t:T3}(h0:0<=t.2.2)(h4:t.2.2<4):(aK (bR h) t).isSome=true↔(t.1,t.2.1)∈h.map hP:=by
 rw[aV];unfold bR;rw[iO];unfold fX;rw[List.mem_flatMap];constructor
 ·rintro⟨p,hp,ht⟩;simp only[List.mem_cons,List.not_mem_nil,or_false]at ht;rcases ht with rfl|rfl|rfl|rfl<;>exact hp
 ·intro hp;refine⟨_,hp,?_⟩;have cs:t.2.2=0\/t.2.2=1\/t.2.2=2\/t.2.2=3:=by omega
  obtain⟨a,b,c⟩:=t;simp only at cs;rcases cs with rfl|rfl|rfl|rfl<;>simp
end RM
namespace RM
open Roof
theorem gR:∀{h:List Nat},h.Nodup->(trianglesOf h).Nodup
 |[],_=>List.nodup_nil
 |r::h,nd=>by
  rw[List.nodup_cons]at nd;have e:trianglesOf (r::h)=[4*r,4*r+1,4*r+2,4*r+3]++trianglesOf h:=rfl;rw[e,List.nodup_append];refine⟨by simp,gR nd.2,fun a ha b hb e=>?_⟩;subst e;have h1:=cR.mp hb;have h2:a/4=r:=by simp only[List.mem_cons,List.not_mem_nil,or_false]at ha;omega
  exact nd.1 (h2▸h1)
end RM
namespace RM
open Roof
theorem BN{α:Type}[DecidableEq α]:∀{A B:List α},A.Nodup->B.Nodup->(∀x,x∈A↔x∈B)->A.Perm B
 |[],B,_,_,h=>by
  cases B with
  |nil=>exact .nil
  |cons b B=>exact absurd ((h b).mpr List.mem_cons_self) (by simp)
 |a::A,B,ha,hb,h=>by
  rw[List.nodup_cons]at ha;have hm:a∈B:=(h a).mp List.mem_cons_self;refine List.Perm.trans ?_ (List.perm_cons_erase hm).symm;refine List.Perm.cons a (BN ha.2 (hb.erase a) fun x=>?_);rw[hb.mem_erase_iff];constructor
  ·intro hx;exact⟨fun e=>ha.1 (e▸hx),(h x).mp (List.mem_cons_of_mem _ hx)⟩
  ·rintro⟨n,hx⟩;rcases List.mem_cons.mp ((h x).mpr hx)with e|e
   ·exact absurd e n
   ·exact e
end RM
namespace RM
open Roof
theorem sT(t u:List Int):RoofBNeutral.f [[10],t,u]=RoofB.ofTop (RoofBNeutral.text t) fun A=>RoofB.ofTop (RoofBNeutral.text u) fun B=>RoofB.told ((List.range 4).map (lots A B)):=rfl
theorem sW{t u:List Int}(h:houseOf (RoofBNeutral.text t)=none):RoofBNeutral.f [[10],t,u]=[-1]:=by rw[sT,rZ h]
theorem qS{t u:List Int}{l:Cells}(h:houseOf (RoofBNeutral.text t)=some l)(g:houseOf (RoofBNeutral.text u)=none):RoofBNeutral.f [[10],t,u]=[-1]:=by rw[sT,m7 h,rZ g]
section
variable {l m:Cells}
theorem BJ(hl:∀c∈l,c.1<64/\c.2<64)(t:Nat):t∈(topOf l).tris↔(topOf l).in_ t=true:=by rw[oI hl];exact cR
theorem IS(ln:l.Nodup)(mn:m.Nodup)(hl:∀c∈l,c.1<64/\c.2<64)(hm:∀c∈m,c.1<64/\c.2<64){K:List T3}(nd:K.Nodup)(hK:∀p,p∈K↔p∈(trianglesOf (halvesOf l)).map tP\/p∈(trianglesOf (halvesOf m)).map tP)(k:Nat):
  lots (topOf l) (topOf m) k=K.countP fun p=>decide (f7 (halvesOf l) (halvesOf m) p=(k:Int)):=by
 have okl:∀t∈(topOf l).tris,okR (t/4):=fun t ht=>cC hl _ (cR.mp ht)
 have okm:∀t∈(topOf m).tris,okR (t/4):=fun t ht=>cC hm _ (cR.mp ht)
 have inj:∀a b:Nat,okR (a/4)->okR (b/4)->tP a=tP b->a=b:=by
  intro a b ha hb e;have e1:hP (a/4)=hP (b/4):=by
   have:((tP a).1,(tP a).2.1)=((tP b).1,(tP b).2.1):=by rw[e]
   exact this
  have e2:((a%4:Nat):Int)=((b%4:Nat):Int):=congrArg (fun p=>p.2.2) e;have:=mF ha hb e1;omega
 have nda:(topOf l).tris.Nodup:=gR ((cX ln hl).imp fun{a b} h=>by omega);have ndb:(topOf m).tris.Nodup:=gR ((cX mn hm).imp fun{a b} h=>by omega);have okU:∀t∈(topOf l).tris++(topOf m).tris.filter (fun(t:Nat)=>!(topOf l).in_ t),okR (t/4):=fun t ht=>by
  rcases List.mem_append.mp ht with h|h
  ·exact okl t h
  ·exact okm t (List.mem_filter.mp h).1
 have ndU:((topOf l).tris++(topOf m).tris.filter (fun(t:Nat)=>!(topOf l).in_ t)).Nodup:=by rw[List.nodup_append];refine⟨nda,ndb.filter _,fun a ha b hb e=>?_⟩;subst e;have:=(List.mem_filter.mp hb).2;rw[(BJ hl a).mp ha]at this;cases this
 have P:K.Perm (((topOf l).tris++(topOf m).tris.filter (fun(t:Nat)=>!(topOf l).in_ t)).map tP):=by
  refine BN nd (cT ndU fun a ha b hb e=>inj a b (okU a ha) (okU b hb) e) fun p=>?_
  rw[hK,List.map_append,List.mem_append];constructor
  ·rintro(h|h)
   ·exact .inl h
   ·obtain⟨t,ht,rfl⟩:=List.mem_map.mp h;by_cases c:(topOf l).in_ t=true
    ·exact .inl (List.mem_map.mpr ⟨t,(BJ hl t).mpr c,rfl⟩)
    ·exact .inr (List.mem_map.mpr ⟨t,List.mem_filter.mpr ⟨ht,by simpa using c⟩,rfl⟩)
  ·rintro(h|h)
   ·exact .inl h
   ·obtain⟨t,ht,rfl⟩:=List.mem_map.mp h;exact .inr (List.mem_map.mpr ⟨t,(List.mem_filter.mp ht).1,rfl⟩)
 rw[P.countP_eq,List.countP_map];unfold lots;rw[<- List.countP_append];apply List.countP_congr;intro t ht;have hin:t/4∈halvesOf l\/t/4∈halvesOf m:=by
  rcases List.mem_append.mp ht with h|h
  ·exact .inl (cR.mp h)
  ·exact .inr (cR.mp (List.mem_filter.mp h).1)
 obtain⟨v,e1,e2,_⟩:=IT hl hm (okU t ht) hin;show(lot (topOf l) (topOf m) t==some k)=true↔decide (f7 (halvesOf l) (halvesOf m) (tP t)=(k:Int))=true
 rw[e1,e2,beq_iff_eq,decide_eq_true_iff];constructor
 ·intro q;have:=Option.some.inj q;omega
 ·intro q;have:v=k:=by omega
  rw[this]
theorem z9{t u:List Int}(h:houseOf (RoofBNeutral.text t)=some l)(g:houseOf (RoofBNeutral.text u)=some m)(ln:l.Nodup)(mn:m.Nodup)(hl:∀c∈l,c.1<64/\c.2<64)(hm:∀c∈m,c.1<64/\c.2<64){K:List T3}(nd:K.Nodup)(hK:∀p,p∈K↔p∈(trianglesOf (halvesOf l)).map tP\/p∈(trianglesOf (halvesOf m)).map tP):
  RoofBNeutral.f [[10],t,u]=(List.range 4).map fun(k:Nat)=>((K.countP fun p=>decide (f7 (halvesOf l) (halvesOf m) p=(k:Int)):Nat):Int):=by
 rw[sT,m7 h,m7 g];unfold RoofB.told;rw[List.map_map];apply List.map_congr_left;intro k _;exact congrArg (fun n:Nat=>(n:Int)) (IS ln mn hl hm nd hK k)
end
end RM
namespace RM
namespace Hs
noncomputable def R(a:Nat):Nat:=Nat.mod (Nat.mul (Nat.add (Nat.mod (Nat.mul a 2147483648) 18446744073709551616) (Nat.div a 8589934592)) 11400714785074694791) 18446744073709551616
noncomputable def C(x j:Nat):Nat:=Nat.div (Nat.mod (Nat.mul (R (Nat.mod (Nat.add x (Nat.mul j 14029467366897019727)) 18446744073709551616)) 839798700976720815) 18446744073709551616) 4398046511104
noncomputable def X(i:Nat):Nat:=R (Nat.mod (Nat.add 2870177450012600261 (Nat.mul i 14029467366897019727)) 18446744073709551616)
noncomputable def row(x n:Nat)(l:List Nat):List Nat:=Nat.rec l (fun j ih=>List.cons (C x j) (List.cons (Nat.succ (C x j)) ih)) n
noncomputable def rows(n:Nat):List Nat:=Nat.rec [4194303,3792723,3792724] (fun i ih=>row (X i) 128 ih) n
noncomputable def part(l:List Nat):List Nat->List Nat->(List Nat->List Nat->Bool)->Bool:=List.rec (fun a b k=>k a b) (fun x _ ih a b k=>Bool.rec (ih a (List.cons (Nat.div x 2) b) k) (ih (List.cons (Nat.div x 2) a) b k) (Nat.beq (Nat.mod x 2) 0)) l
noncomputable def dist(n:Nat):List Nat->Bool:=Nat.rec (fun l=>List.rec true (fun _ r _=>List.rec true (fun _ _ _=>false) r) l) (fun _ ih l=>List.rec true (fun _ r _=>List.rec true (fun _ _ _=>part l [] [] fun a b=>Bool.rec false (ih b) (ih a)) r) l) n
set_option maxRecDepth 1000000 in
theorem HB:dist 24 (rows 128)=true:=by decide+kernel
theorem vS(k:List Nat->List Nat->Bool):∀(l a b:List Nat),part l a b k=k (((l.filter fun x=>x%2==0).map (· /2)).reverse++a) (((l.filter fun x=>!(x%2==0)).map (· /2)).reverse++b)
 |[],a,b=>rfl
 |x::l,a,b=>by
  have e:part (x::l) a b k=Bool.rec (part l a (x/2::b) k) (part l (x/2::a) b k) (Nat.beq (x%2) 0):=rfl;rw[e];by_cases c:x%2=0
  ·rw[show Nat.beq (x%2) 0=true by rw[c];rfl];show part l (x/2::a) b k=_
   rw[vS k l,List.filter_cons_of_pos (by simp[c]),List.filter_cons_of_neg (by simp[c])];simp
  ·have c1:x%2=1:=by omega
   rw[show Nat.beq (x%2) 0=false by rw[c1];rfl];show part l a (x/2::b) k=_
   rw[vS k l,List.filter_cons_of_neg (by simp[c1]),List.filter_cons_of_pos (by simp[c1])];simp
theorem wH:∀(n:Nat)(l:List Nat),dist n l=true->l.Nodup
 |n,[],_=>.nil
 |n,[x],_=>by simp
 |0,x::y::l,h=>by have:(false:Bool)=true:=h;cases this
 |n+1,x::y::l,h=>by
  have h:part (x::y::l) [] [] (fun a b=>Bool.rec false (dist n b) (dist n a))=true:=h;rw[vS]at h;generalize (x::y::l)=m at h;rw[List.append_nil,List.append_nil]at h;cases e:dist n ((m.filter fun x=>x%2==0).map (· /2)).reverse with
  |false=>rw[e]at h;cases h
  |true=>
   rw[e]at h;have h1:=(List.reverse_perm _).nodup_iff.mp (wH n _ e);have h2:=(List.reverse_perm _).nodup_iff.mp (wH n _ h);have key:∀m:List Nat,((m.filter fun x=>x%2==0).map (· /2)).Nodup->((m.filter fun x=>!(x%2==0)).map (· /2)).Nodup->m.Nodup:=by
    intro m;induction m with
    |nil=>intro _ _;exact .nil
    |cons z m ih=>
     intro g1 g2;by_cases c:z%2=0
     ·rw[List.filter_cons_of_pos (by simp[c]),List.map_cons,List.nodup_cons]at g1;rw[List.filter_cons_of_neg (by simp[c])]at g2;rw[List.nodup_cons];exact⟨fun hz=>g1.1 (List.mem_map.mpr ⟨z,List.mem_filter.mpr ⟨hz,by simp[c]⟩,rfl⟩),ih g1.2 g2⟩
     ·have c1:z%2=1:=by omega
      rw[List.filter_cons_of_neg (by simp[c1])]at g1;rw[List.filter_cons_of_pos (by simp[c1]),List.map_cons,List.nodup_cons]at g2;rw[List.nodup_cons];exact⟨fun hz=>g2.1 (List.mem_map.mpr ⟨z,List.mem_filter.mpr ⟨hz,by simp[c1]⟩,rfl⟩),ih g1 g2.2⟩
   exact key m h1 h2
theorem F6(x:Nat)(l:List Nat):∀n,row x n l=((List.range n).reverse.flatMap fun j=>[C x j,C x j+1])++l
 |0=>rfl
 |n+1=>by
  show C x n::(C x n+1)::row x n l=_
  rw[F6 x l n,List.range_succ,List.reverse_append];rfl
theorem vP:∀n,rows n=((List.range n).reverse.flatMap fun i=>(List.range 128).reverse.flatMap fun j=>[C (X i) j,C (X i) j+1])++[4194303,3792723,3792724]
 |0=>rfl
 |n+1=>by
  show row (X n) 128 (rows n)=_
  have e:(List.range (n+1)).reverse=n::(List.range n).reverse:=by rw[List.range_succ,List.reverse_append];rfl
  rw[F6,vP n,e,List.flatMap_cons,List.append_assoc]
theorem FZ:(rows 128).Nodup:=wH 24 _ HB
theorem JT{α:Type}{R:α->α->Prop}(sym:∀{a b},R a b->R b a){l:List α}(h:l.Pairwise R){a b:α}(ha:a∈l)(hb:b∈l)(ne:a≠b):R a b:=by
 induction h with
 |nil=>cases ha
 |cons h1 _ ih=>
  rcases List.mem_cons.mp ha with e|ha
  ·rcases List.mem_cons.mp hb with e'|hb
   ·exact absurd (e.trans e'.symm) ne
   ·rw[e];exact h1 _ hb
  ·rcases List.mem_cons.mp hb with e'|hb
   ·rw[e'];exact sym (h1 _ ha)
   ·exact ih ha hb
theorem K1{i j i' j':Nat}(hi:i<128)(hj:j<128)(hi':i'<128)(hj':j'<128)(ne:¬(i=i'/\j=j')):C (X i) j≠C (X i') j'/\C (X i) j≠C (X i') j'+1:=by
 have h:=FZ;rw[vP,List.nodup_append]at h;have h:=h.1;unfold List.Nodup at h;rw[List.pairwise_flatMap]at h;have mr:∀{a:Nat},a<128->a∈(List.range 128).reverse:=fun h=>by simpa using h
 have mf:∀{x a:Nat},a<128->C x a∈((List.range 128).reverse.flatMap fun j=>[C x j,C x j+1])/\C x a+1∈((List.range 128).reverse.flatMap fun j=>[C x j,C x j+1]):=fun{x a} h=>
  ⟨List.mem_flatMap.mpr ⟨a,mr h,by simp⟩,List.mem_flatMap.mpr ⟨a,mr h,by simp⟩⟩
 by_cases c:i=i'
 ·subst c;have g:=h.1 i (mr hi);rw[List.pairwise_flatMap]at g;have q:=JT (fun{a b} r x hx y hy=>(r y hy x hx).symm) g.2 (mr hj) (mr hj') (fun e=>ne ⟨rfl,e⟩);exact⟨q _ (by simp) _ (by simp),q _ (by simp) _ (by simp)⟩
 ·have q:=JT (fun{a b} r x hx y hy=>(r y hy x hx).symm) h.2 (mr hi) (mr hi') c;exact⟨q _ (mf hj).1 _ (mf hj').1,q _ (mf hj).1 _ (mf hj').2⟩
theorem HH{i j:Nat}(hi:i<128)(hj:j<128):C (X i) j≠4194303/\C (X i) j≠3792723/\C (X i) j+1≠3792723/\C (X i) j≠3792724:=by
 have h:=FZ;rw[vP,List.nodup_append]at h;have h:=h.2.2;have mr:∀{a:Nat},a<128->a∈(List.range 128).reverse:=fun h=>by simpa using h
 have m1:C (X i) j∈((List.range 128).reverse.flatMap fun i=>(List.range 128).reverse.flatMap fun j=>[C (X i) j,C (X i) j+1]):=List.mem_flatMap.mpr ⟨i,mr hi,List.mem_flatMap.mpr ⟨j,mr hj,by simp⟩⟩;have m2:C (X i) j+1∈((List.range 128).reverse.flatMap fun i=>(List.range 128).reverse.flatMap fun j=>[C (X i) j,C (X i) j+1]):=List.mem_flatMap.mpr ⟨i,mr hi,List.mem_flatMap.mpr ⟨j,mr hj,by simp⟩⟩;exact⟨h _ m1 _ (by simp),h _ m1 _ (by simp),h _ m2 _ (by simp),h _ m1 _ (by simp)⟩
theorem IM{P Q k x y:Nat}(h:P*Q=1+18446744073709551616*k)(hx:x<18446744073709551616)(hy:y<18446744073709551616)(e:x*P%18446744073709551616=y*P%18446744073709551616):x=y:=by
 have key:∀z:Nat,z<18446744073709551616->(z*P%18446744073709551616)*Q%18446744073709551616=z:=by intro z hz;rw[Nat.mul_mod,Nat.mod_mod,<- Nat.mul_mod,Nat.mul_assoc,h,Nat.mul_add,Nat.mul_one,Nat.mul_left_comm,Nat.add_mul_mod_self_left,Nat.mod_eq_of_lt hz]
 rw[<- key x hx,<- key y hy,e]
theorem HW{a b:Nat}(ha:a<18446744073709551616)(hb:b<18446744073709551616)(e:(a*2147483648%18446744073709551616)+a/8589934592=(b*2147483648%18446744073709551616)+b/8589934592):a=b:=by
 have h:∀z:Nat,z*2147483648%18446744073709551616=(z%8589934592)*2147483648:=by intro z;rw[show 18446744073709551616=8589934592*2147483648 from rfl,Nat.mul_mod_mul_right]
 rw[h,h]at e;omega
theorem K0{a b:Nat}(ha:a<18446744073709551616)(hb:b<18446744073709551616)(e:R a=R b):a=b:=by
 have hl:∀z:Nat,z<18446744073709551616->(z*2147483648%18446744073709551616)+z/8589934592<18446744073709551616:=by intro z hz;rw[show z*2147483648%18446744073709551616=(z%8589934592)*2147483648 by rw[show 18446744073709551616=8589934592*2147483648 from rfl,Nat.mul_mod_mul_right]];omega
 exact HW ha hb (IM (P:=11400714785074694791) (Q:=614540362697595703) (k:=379806830464837242) rfl (hl a ha) (hl b hb) e)
theorem LU(a:Nat):R a<18446744073709551616:=Nat.mod_lt _ (by decide)
theorem last{A A' s s':Nat}(e:(A+s*14029467366897019727)%18446744073709551616=(A'+s'*14029467366897019727)%18446744073709551616):(A*839798700976720815%18446744073709551616+s)%18446744073709551616=(A'*839798700976720815%18446744073709551616+s')%18446744073709551616:=by
 have key:∀A s:Nat,((A+s*14029467366897019727)%18446744073709551616)*839798700976720815%18446744073709551616=(A*839798700976720815%18446744073709551616+s)%18446744073709551616:=by intro A s;rw[Nat.mul_mod,Nat.mod_mod,<- Nat.mul_mod,Nat.add_mul,Nat.mul_assoc,show 14029467366897019727*839798700976720815=1+18446744073709551616*638699622168397319 from rfl,Nat.mul_add s,Nat.mul_one,Nat.mul_left_comm s,<- Nat.add_assoc,Nat.add_mul_mod_self_left,Nat.mod_add_mod]
 rw[<- key,<- key,e]
noncomputable def A2(i j:Nat):Nat:=R (Nat.mod (Nat.add (X i) (Nat.mul j 14029467366897019727)) 18446744073709551616)
noncomputable def acc(i j s:Nat):Nat:=(R ((A2 i j+s*14029467366897019727)%18446744073709551616)+2870177450013471925)%18446744073709551616
theorem UZ(i j:Nat):C (X i) j=(A2 i j*839798700976720815%18446744073709551616)/4398046511104:=rfl
theorem BE(i j s:Nat):acc i j s<18446744073709551616:=Nat.mod_lt _ (by decide)
theorem t7{i j s:Nat}(hi:i<128)(hj:j<128)(hs:s<4):acc i j s≠18446744073709551615:=by
 intro e;unfold acc at e;have hR:=LU ((A2 i j+s*14029467366897019727)%18446744073709551616);have e1:R ((A2 i j+s*14029467366897019727)%18446744073709551616)=R 1837738906727985164:=by rw[show R 1837738906727985164=15576566623696079690 by decide+kernel];omega
 have e2:=K0 (Nat.mod_lt _ (by decide)) (by decide) e1;have e3:=last (A':=1837738906727985164) (s':=0) (by rw[e2]);rw[show(1837738906727985164*839798700976720815%18446744073709551616+0)%18446744073709551616=16680575644954319924 by decide+kernel]at e3;obtain⟨h1,h2,h3,h4⟩:=HH hi hj;rw[UZ]at h1 h2 h3 h4;have hB:A2 i j*839798700976720815%18446744073709551616<18446744073709551616:=Nat.mod_lt _ (by decide);generalize A2 i j*839798700976720815%18446744073709551616=B at*;omega
theorem near{B B' s s':Nat}(hs:s<4)(hs':s'<4)(e:(B+s)%18446744073709551616=(B'+s')%18446744073709551616)(hB:B<18446744073709551616)(hB':B'<18446744073709551616)(f1:B/4398046511104≠B'/4398046511104)(f2:B/4398046511104≠B'/4398046511104+1)(f3:B'/4398046511104≠B/4398046511104+1)(n1:B/4398046511104≠4194303)(n2:B'/4398046511104≠4194303):False:=by
 have b1:B+s<18446744073709551616:=by omega
 have b2:B'+s'<18446744073709551616:=by omega
 rw[Nat.mod_eq_of_lt b1,Nat.mod_eq_of_lt b2]at e;omega
theorem JN{i j s i' j' s':Nat}(hi:i<128)(hj:j<128)(hs:s<4)(hi':i'<128)(hj':j'<128)(hs':s'<4)(e:acc i j s=acc i' j' s'):i=i'/\j=j'/\s=s':=by
 unfold acc at e;have hR:=LU ((A2 i j+s*14029467366897019727)%18446744073709551616);have hR':=LU ((A2 i' j'+s'*14029467366897019727)%18446744073709551616);have e1:R ((A2 i j+s*14029467366897019727)%18446744073709551616)=R ((A2 i' j'+s'*14029467366897019727)%18446744073709551616):=by omega
 have e3:=last (K0 (Nat.mod_lt _ (by decide)) (Nat.mod_lt _ (by decide)) e1);have hB:A2 i j*839798700976720815%18446744073709551616<18446744073709551616:=Nat.mod_lt _ (by decide);have hB':A2 i' j'*839798700976720815%18446744073709551616<18446744073709551616:=Nat.mod_lt _ (by decide);by_cases c:i=i'/\j=j'
 ·obtain⟨rfl,rfl⟩:=c;generalize A2 i j*839798700976720815%18446744073709551616=B at*;omega
 ·exfalso;obtain⟨f1,f2⟩:=K1 hi hj hi' hj' c;obtain⟨_,f3⟩:=K1 hi' hj' hi hj (fun z=>c ⟨z.1.symm,z.2.symm⟩);have n1:=(HH hi hj).1;have n2:=(HH hi' hj').1;exact near hs hs' e3 hB hB' f1 f2 f3 n1 n2
end Hs
end RM
namespace L3
open PySem PySem.Spec PyProof.Rows L2
structure aR(P:Program)(w:World)(K:W.Frag)(mg:Str->Option Value)(base:Heap)(CX:CXT)(k:Nat)(x:Str)(ps:List Str)(sp:Sp):Prop where
 ex:∃f fd,bM P w K mg base CX k f fd ps sp/\mg x=some (.ref f)/\W.keepIn K (.ref f)=true/\Binds K fd ps []
section
variable {X:Cx}{CX:CXT}{k:Nat}{ps:List Str}{sp:Sp}{E:XK}{x:Str}{p pos:Pos}{e:Expr}{es:List Expr}{t:TA}
theorem aT(D:aR X.prog X.w X.K X.mg X.base CX k x ps sp)(hr:cQ k X.A)(hx:Passes CX X E)(hg:Gl X x)(ha:PA X (e::es) t)(hdb:(x==("__debug__" : Str))=false:=by decide)
  (hst:starEach (e::es) X.env=(false,eval e X.env)::starEach es X.env:=by rfl) (hpl:(backTo pos (starEach es X.env)).any (·.1)=false:=by rfl):PE X (.Call (.Name x p) (e::es) [] pos) (wY sp [] E t):=by
 obtain⟨f,fd,F,hm,hk,hb⟩:=D.ex;exact IE F hr hg hm hk hb .nil hx ha hdb hst hpl
end
theorem a9.rd{H H':Hp}{a:Addr}{u:HO}(e:a9 H H')(h:Rd H a u):Rd H' a u:=by
 rcases h with h|⟨o,h⟩
 ·exact .inl (e _ _ h)
 ·exact .inr ⟨o,e _ _ h⟩
theorem a9.upd{H:Hp}{p:Addr}{o:HO}(h:H p=none):a9 H (upd H p o):=fun b u e=>by rw[aA (aG e h)];exact e
noncomputable def T2(H:Hp)(v:V)(p:Int×Int):Prop:=∃a,v=.ref a/\H a=some (.tup [.int p.1,.int p.2])
noncomputable def C2(K:W.Frag)(H:Hp)(v:V)(p:Int×Int):Prop:=∃a,v=.ref a/\SqT K H a [.int p.1,.int p.2]
noncomputable def T3(H:Hp)(v:V)(p:Int×Int×Int):Prop:=∃a,v=.ref a/\H a=some (.tup [.int p.1,.int p.2.1,.int p.2.2])
theorem T2.mono{H H':Hp}{v:V}{p:Int×Int}(e:a9 H H')(h:T2 H v p):T2 H' v p:=let⟨a,h1,h2⟩:=h;⟨a,h1,e _ _ h2⟩
theorem T3.mono{H H':Hp}{v:V}{p:Int×Int×Int}(e:a9 H H')(h:T3 H v p):T3 H' v p:=let⟨a,h1,h2⟩:=h;⟨a,h1,e _ _ h2⟩
theorem T2.c{K:W.Frag}{H:Hp}{v:V}{p:Int×Int}(h:T2 H v p):C2 K H v p:=let⟨a,h1,h2⟩:=h;⟨a,h1,SqT.of h2⟩
end L3
namespace L3
open PySem PySem.Spec PyProof.Rows L2
def j9:Option HO->Bool
 |none=>false
 |some (.frz _ _)=>false
 |some _=>true
noncomputable def G4(h:Heap)(H:Hp)(fs:List Addr):List Addr:=(List.range h.objs.size).filter fun a=>j9 (H a)||fs.contains a
def fZ(h:Heap)(H:Hp)(fs:List Addr):Heap:=W.hideAll h (G4 h H fs)
theorem gH{h:Heap}{H:Hp}{fs:List Addr}{b:Addr}{o:Obj}(e:h.get? b=some o)(n:j9 (H b)=false)(hb:b∉fs):(fZ h H fs).get? b=some o:=
 W.hideAll_get _ e fun hm=>by have q:=(List.mem_filter.mp hm).2;rw[n,Bool.false_or]at q;exact hb (by simpa using q)
theorem xP{h:Heap}{H:Hp}{fs:List Addr}{b:Addr}{o:Obj}(e:(fZ h H fs).get? b=some o):h.get? b=some o/\j9 (H b)=false/\b∉fs:=by
 have e':h.get? b=some o:=W.of_hideAll (G4 h H fs) e;refine⟨e',?_⟩;by_cases q:b∈G4 h H fs
 ·have z:(fZ h H fs).get? b=none:=W.hideAll_none _ q;rw[z]at e;cases e
 ·have hn:¬((j9 (H b)||fs.contains b)=true):=fun z=>q (List.mem_filter.mpr ⟨List.mem_range.mpr (Heap.lt_size e'),z⟩)
  rw[Bool.or_eq_true]at hn;refine⟨?_,fun z=>hn (.inr (by simpa using z))⟩;cases z:j9 (H b)with
  |false=>rfl
  |true=>exact absurd (.inl z) hn
structure Fly(outer:List Env)(ex:List Addr)(H:Hp)(s:Shared)(ae C:Addr)(s':Shared):Prop where
 fl:∃a0,Heap.FlyingW (fZ s.heap H (frs outer++ex)) outer ae (.ref C) a0 s'.heap
 slot:∀b∈frs outer,∀o,s.heap.get? b=some o->∃sl,s'.heap.get? b=some {o with slots:=sl}
 os:s'.os=s.os
 bare:AllBare s'.gens
noncomputable def CXf:CXT:=fun outer H s E e s'=>∃ae C,e=.ref ae/\Fly outer [] H s ae C s'/\E (.ref C) none H
section
variable {X:Cx}{pins:List (Addr×Obj)}{σ:L2.St}{H:Hp}{s:Shared}
theorem stays(I:Inv X pins σ H s)(hok0:HOk X.prog X.w X.H_0 X.s_0.heap){ex:List Addr}(hex:∀b∈X.ex,b∈ex){b:Addr}{o:Obj}(e:(fZ X.s_0.heap X.H_0 (X.fs++ex)).get? b=some o):
  s.heap.get? b=some o/\j9 (H b)=false/\b∉frs X.stack/\b∉ex:=by
 obtain⟨e1,n,hb'⟩:=xP e;have hb:b∉X.fs:=fun z=>hb' (List.mem_append_left _ z)
 have hx:b∉ex:=fun z=>hb' (List.mem_append_right _ z)
 have hst:b∉frs X.stack:=fun z=>by
  rcases List.mem_cons.mp (I.rF b z)with q|q
  ·exact absurd (Heap.lt_size e1) (Nat.not_lt.mpr (q▸I.ok.above))
  ·exact hb q
 have hx':b∉X.ex:=fun z=>hx (hex b z)
 cases q:X.H_0 b with
 |none=>refine⟨I.base.keep b o e1 q hb hx',?_,hst,hx⟩;rw[I.base.free b o e1 q hx'];rfl
 |some u=>
  rw[q]at n;cases u with
  |frz ob u=>have z:=I.base.nO b ob u q;obtain⟨e2,_⟩:=hok0 b _ q;obtain⟨e3,_⟩:=I.hok b _ z;rw[e1]at e2;cases e2;exact⟨e3,by rw[z];rfl,hst,hx⟩
  |_=>cases n
theorem jL{h base base':Heap}:∀{l:List Env},h.FunFrames base l->(∀b∈frs l,base'.get? b=none)->h.FunFrames base' l
 |[],_,_=>trivial
 |env::r,⟨hk,⟨L,o,hf,hn,ho,hd⟩,hr⟩,k=>by
  have e:frs (env::r)=L::frs r:=by unfold frs;rw[List.filterMap_cons,hf]
  rw[e]at k;exact⟨hk,⟨L,o,hf,k L (by simp),ho,hd⟩,jL hr fun b hb=>k b (by simp[hb])⟩
theorem AY(I:Inv X pins σ H s)(hok0:HOk X.prog X.w X.H_0 X.s_0.heap){ex:List Addr}(hex:∀b∈X.ex,b∈ex):s.heap.FunFrames (fZ X.s_0.heap X.H_0 (X.fs++ex)) X.stack:=
 jL I.stack fun b hb=>by
  cases q:(fZ X.s_0.heap X.H_0 (X.fs++ex)).get? b with
  |none=>rfl
  |some o=>exact absurd hb (stays I hok0 hex q).2.2.1
theorem jV(I:Inv X pins σ H s){b:Addr}(hb:b∈X.fs)(hx:b∉X.ex){o:Obj}(e:X.s_0.heap.get? b=some o):∃sl,s.heap.get? b=some {o with slots:=sl}:=I.base.slot b o e (I.ok.frf b hb) hb hx
end
section
variable {P:Program}{w:World}{K:W.Frag}{mg:Str->Option Value}{base:Heap}{N:List Str}{qual:Str}{scope:Scope}{f:Addr}{cd:Value}{A:Around}{outer:List Env}{s:Shared}{H:Hp}{E:XK}
 {pins:List (Addr×Obj)}{σ:L2.St}{H1:Hp}{s1:Shared}
noncomputable abbrev cxF(P:Program)(w:World)(K:W.Frag)(mg:Str->Option Value)(base:Heap)(N:List Str)(qual:Str)(scope:Scope)(f:Addr)(cd:Value)(A:Around)(outer:List Env)(s:Shared)(H:Hp)(E:XK):Cx:=tV CXf P w K mg base N qual scope f cd A outer s H E
theorem nF(l:List Addr):l++[]=l:=List.append_nil l
theorem FC(hok0:HOk P w H s.heap)(I:Inv (cxF P w K mg base N qual scope f cd A outer s H E) pins σ H1 s1){h':Heap}{e C:Addr}{as:List Value}(hx:Heap.MadeExcOf s1.heap h' e (.ref C) as)(hE:E (.ref C) none H):
  (cxF P w K mg base N qual scope f cd A outer s H E).xe (.ref e) {s1 with heap:=h'}:=by
 have st:∀b o,(fZ s.heap H (frs outer++[])).get? b=some o->s1.heap.get? b=some o:=fun b o q=>(stays I hok0 (ex:=[]) (fun _ z=>z) q).1
 refine wpAny_leaves_madeW (base:=fZ s.heap H (frs outer++[])) (h:=s1.heap) (L:=s.heap.objs.size) (outer:=outer) I.ok.frames rfl st (AY I hok0 (fun _ z=>z)) hx fun h2 t fl tup hn up=>?_
 refine⟨e,C,rfl,⟨⟨_,fl⟩,fun b hb o q=>?_,I.os,I.bare⟩,hE⟩;obtain⟨sl,q1⟩:=jV I hb (by intro z;exact nomatch z) q;have fr:=(I.stack.mem (b:=b) (show b∈frs (_::outer) by
  unfold frs;rw[List.filterMap_cons];exact List.mem_cons_of_mem _ hb)).2
 obtain⟨o2,q2,nf⟩:=fr;rw[q1]at q2;cases q2;obtain⟨sl2,q3⟩:=up b _ (hx.keeps b _ q1) nf;exact⟨sl2,q3⟩
theorem FN(hok0:HOk P w H s.heap):Passes CXf (cxF P w K mg base N qual scope f cd A outer s H E) (fun c _ _=>E c none H):=by
 intro pins σ H1 s1 e s' I h;obtain⟨ae,C,rfl,⟨⟨a0,fl⟩,sl,os,bare⟩,hE⟩:=h;have fl2:Heap.FlyingW (fZ s.heap H (frs outer++[])) (cxF P w K mg base N qual scope f cd A outer s H E).stack ae (.ref C) a0 s'.heap:=
  W.flyingW_base (fun b o q=>by
   obtain⟨z1,z2,z3,_⟩:=stays I hok0 (ex:=[]) (fun _ z=>z) q;exact gH z1 z2 (by rw[nF];exact z3)) fl
 refine wpAny_leaves_onW (L:=s.heap.objs.size) (outer:=outer) I.ok.frames rfl fl2 fun h2 fl3 up=>?_
 refine⟨ae,C,rfl,⟨⟨_,fl3⟩,fun b hb o q=>?_,os.trans I.os,bare⟩,hE⟩;have hbs:b∈frs (cxF P w K mg base N qual scope f cd A outer s H E).stack:=by
  show b∈frs (_::outer)
  unfold frs;rw[List.filterMap_cons];exact List.mem_cons_of_mem _ hb
 obtain⟨sl1,q1⟩:=jV I hb (by intro z;exact nomatch z) q;obtain⟨sl2,q2⟩:=sl b hbs _ q1;obtain⟨o3,q3,nf⟩:=(fl.2.2.1.mem (b:=b) hbs).2;rw[q2]at q3;cases q3;obtain⟨sl3,q4⟩:=up b _ q2 nf;exact⟨sl3,q4⟩
theorem eD(hok0:HOk P w H s.heap){x:Str}{C:Addr}{B newId initId:String}{bm:List Value}{np cpos pos:Pos}(FB:ExcBaseFacts B newId initId bm)(O:OwnCls x C bm newId mg base)
  (hg:Gl (cxF P w K mg base N qual scope f cd A outer s H E) x) (hd:(x==("__debug__" : Str))=false:=by decide):
  PS (cxF P w K mg base N qual scope f cd A outer s H E) (.Raise (some (.Call (.Name x np) [] [] cpos)) none pos) (fun _ _ _=>E (.ref C) none H):=by
 intro pins s1 σ H1 D I h;obtain⟨tl,N,nm,q,bs,hdct,sn,sub,ab,col,dd,k0,k1,k2,k3,k5,mN,hC,hN,hni,T⟩:=O.obj;refine wpAny_Raise_call_subT (C:=C) (nm:=nm) (q:=q) (N:=N) (bs:=bs) (bm:=tl) (hdct:=hdct) (sn:=sn) (sub:=sub) (ab:=ab) (col:=col) (dd:=dd) (k0:=k0) (k1:=k1) (k2:=k2) (k3:=k3) (k5:=k5)
  FB (mN:=mN) (T.hasType FB.hasBase) (I.ok.hd rfl) rfl hni (j7 I hg O.bound ⟨rfl,?_⟩ hd)
 exact evalArgs_empty ⟨rfl,Nat.zero_le _,I.bk _ _ hC,hN.keeps I.bk,T.keeps I.bk,fun h' e hx=>FC hok0 I hx h⟩
end
section
variable {P:Program}{w:World}{K:W.Frag}{mg:Str->Option Value}{base:Heap}
theorem GK{CX:CXT}{k:Nat}{f:Addr}{name qual:Str}{params:Arguments}{body:List Stmt}{scope:Scope}{dV kV doc pm cdv ct oc:Value}{an od:Option Addr}
  {osl:Array (Option Value)}{N ps:List Str}{sp:Sp} (lk:K.lookup f=some ⟨oc,od,.func (W.fnOf name qual params body scope dV kV doc pm an cdv ct),osl⟩) (hcd:W.codeIn K cdv qual=true) (S:aL N ps scope)
  (len:∀vs H Q E,sp vs H Q E->vs.length=ps.length)
  (hbody:∀(A:Around)(outer:List Env)(s:Shared)(H:Hp)(vs:List V)(Q:VK)(E:XK),cQ k (A.deeper (envOfC qual scope s.heap.objs.size f cdv))->HOk P w H s.heap->sp vs H Q E ->
   ∃t,PSs (tV CX P w K mg base N qual scope f cdv A outer s H E) body t/\t {nx:=fun _ H'=>Q .non H',rt:=Q} (start N vs) H):
  bM P w K mg base CX (k+1) f (W.fnOf name qual params body scope dV kV doc pm an cdv ct) ps sp:=by
 refine⟨len,fun A outer s H args us vs Q E hr e0 hb r hsp=>?_⟩;have hl:=len _ _ _ _ hsp;have KX:K.In s.heap:=e0.mod.kin.keeps fun b o e=>(e0.bs b o e).1
 have lim:s.heap.NoLimit:=e0.mod.nolimit.keeps fun b o e=>(e0.bs b o e).1
 have hkind:∀y∈ps.zip us,scope.names.lookup y.1=some .local\/(scope.names.lookup y.1=some .cell/\((cellsFrom (s.heap.objs.size+1) scope.names []).lookup y.1).isSome=true):=fun⟨n,v⟩ hy=>by
  rcases S.par n (List.of_mem_zip hy).1 with q|q
  ·exact .inl q
  ·exact .inr ⟨q,W.cellsFrom_some _ _ _ (.inl q)⟩
 refine codeAny_call_function hr.depth (KX _ _ lk) rfl S.co S.gen rfl (W.codeRec_of KX hcd) (hb _ _ _ _ ?_);refine wpAny_newFunctionEnv_cells S.kind hkind fun env he s1 x=>?_
 subst he;refine⟨lim.keeps x.toInCall.keep,codeAny_func ?_⟩;obtain⟨t,ht,hq⟩:=hbody A outer s H vs Q E (hr.deeper _) e0.hok hsp;have I:Inv (tV CX P w K mg base N qual scope f cdv A outer s H E) [] (start N vs) H s1:=pB S hr.hd e0 hl r x;refine wpAny_mono (ht [] s1 (start N vs) H _ I hq) (fun fl s' hs=>?_) fun e s' hs=>hs
 have fin:∀{σ':L2.St}{H':Hp}{v:V}{u:Value},Inv (tV CX P w K mg base N qual scope f cdv A outer s H E) [] σ' H' s'->RelV v u->Q v H'->CE outer P w H s Q u s':=
  fun{σ' H' v u} J rv q=>⟨v,H',J.os,J.bare,J.base,J.hok,rv,q⟩
 cases fl with
 |ret u=>obtain⟨v,σ',H',J,rv,q⟩:=hs;exact fin J rv q
 |next=>obtain⟨σ',H',J,q⟩:=hs;exact fin (v:=V.non) (u:=Value.none) J rfl q
 |brk=>obtain⟨_,_,_,q⟩:=hs;exact False.elim q
 |cont=>obtain⟨_,_,_,q⟩:=hs;exact False.elim q
theorem okX{x qual:Str}{st:Stmt}{f:Addr}{fd:FuncData}{N ps:List Str}{k:Nat}{sp:Sp}(F:Fun K x qual st f fd)(S:aL N ps (aI st))(len:∀vs H Q E,sp vs H Q E->vs.length=ps.length)
  (hbody:∀(cdv:Value)(A:Around)(outer:List Env)(s:Shared)(H:Hp)(vs:List V)(Q:VK)(E:XK),cQ k (A.deeper (envOfC qual (aI st) s.heap.objs.size f cdv))->HOk P w H s.heap->sp vs H Q E ->
   ∃t,PSs (cxF P w K mg base N qual (aI st) f cdv A outer s H E) (eV st) t/\t {nx:=fun _ H'=>Q .non H',rt:=Q} (start N vs) H):bM P w K mg base CXf (k+1) f fd ps sp:=by
 obtain⟨oc,od,kV,doc,pm,an,cdv,ct,osl,rfl,lk,hcd⟩:=F.ex;exact GK lk hcd S len fun A outer s H vs Q E hr hk hsp=>hbody cdv A outer s H vs Q E hr hk hsp
end
end L3
namespace L3
open PySem PySem.Spec PyProof.Rows L2
section
variable {X:Cx}{x:Str}{pos:Pos}
def mL(mg:Str->Option Value)(x:Str)(n:Int):Prop:=∃t,mg x=some (.int n t)
theorem cJ{n:Int}(h:mL X.mg x n)(hg:Gl X x)(hd:(x==("__debug__" : Str))=false:=by decide):PE X (.Name x pos) (tC (.int n)):=by obtain⟨t,h⟩:=h;exact BP (v:=.int n) hg h ⟨t,rfl⟩ hd
theorem fC{a:Addr}(h:X.mg x=some (.ref a))(hg:Gl X x)(hd:(x==("__debug__" : Str))=false:=by decide):PE X (.Name x pos) (tC (.ref a)):=BP (v:=.ref a) hg h rfl hd
end
noncomputable def CT2(K:W.Frag)(a:Addr)(ps:List (Int×Int)):Prop:=∃xs,(∀H,SqT K H a xs)/\Paired (fun v p=>∀H,C2 K H v p) xs ps
theorem pairs_at{α β:Type}{R:α->β->Prop}:∀{l:List α}{m:List β},Paired R l m->∀{i:Nat}{a:α},l[i]? =some a->∃b,m[i]? =some b/\R a b
 |_,_,.nil,_,_,h=>by simp at h
 |_,_,.cons r _,0,_,h=>by simp at h;subst h;exact⟨_,rfl,r⟩
 |_,_,.cons _ t,i+1,a,h=>by obtain⟨b,h1,h2⟩:=pairs_at t (i:=i) (a:=a) (by simpa using h);exact⟨b,by simpa using h1,h2⟩
theorem iL{α β:Type}{R:α->β->Prop}:∀{l:List α}{m:List β},Paired R l m->∀{i:Nat}{b:β},m[i]? =some b->∃a,l[i]? =some a/\R a b
 |_,_,.nil,_,_,h=>by simp at h
 |_,_,.cons r _,0,_,h=>by simp at h;subst h;exact⟨_,rfl,r⟩
 |_,_,.cons _ t,i+1,b,h=>by obtain⟨a,h1,h2⟩:=iL t (i:=i) (b:=b) (by simpa using h);exact⟨a,by simpa using h1,h2⟩
theorem pairs_len{α β:Type}{R:α->β->Prop}:∀{l:List α}{m:List β},Paired R l m->l.length=m.length
 |_,_,.nil=>rfl
 |_,_,.cons _ t=>by simp[pairs_len t]
theorem bD{α β:Type}{R:α->β->Prop}{a:α}{b:β}(r:R a b):∀{l:List α}{m:List β},Paired R l m->Paired R (l++[a]) (m++[b])
 |_,_,.nil=>.cons r .nil
 |_,_,.cons q t=>.cons q (bD r t)
theorem aJ{α β:Type}{R S:α->β->Prop}(f:∀a b,R a b->S a b):∀{l:List α}{m:List β},Paired R l m->Paired S l m
 |_,_,.nil=>.nil
 |_,_,.cons r t=>.cons (f _ _ r) (aJ f t)
theorem bQ{xs:List V}{z:Int}{v:V}(h0:0<=z)(h:xs[z.toNat]? =some v):atI xs z=some v:=at_of (j:=z.toNat) (Int.toNat_of_nonneg h0).symm h
end L3
namespace L3
open PySem PySem.Spec PyProof.Rows L2
abbrev PI:=Int×Int
abbrev PI3:=Int×Int×Int
noncomputable def LI(H:Hp)(v:V)(ns:List Int):Prop:=∃a,v=.ref a/\H a=some (.lst (ns.map V.int))
noncomputable def LLI(H:Hp)(a:Addr)(rows:List (List Int)):Prop:=∃xs,H a=some (.lst xs)/\Paired (LI H) xs rows
noncomputable def LT(H:Hp)(v:V)(ps:List PI):Prop:=∃a xs,v=.ref a/\H a=some (.lst xs)/\Paired (T2 H) xs ps
noncomputable def LLT(H:Hp)(v:V)(ws:List (List PI)):Prop:=∃a xs,v=.ref a/\H a=some (.lst xs)/\Paired (LT H) xs ws
theorem LI.mono{H H':Hp}{v:V}{ns:List Int}(e:a9 H H')(h:LI H v ns):LI H' v ns:=let⟨a,h1,h2⟩:=h;⟨a,h1,e _ _ h2⟩
theorem LT.mono{H H':Hp}{v:V}{ps:List PI}(e:a9 H H')(h:LT H v ps):LT H' v ps:=let⟨a,xs,h1,h2,h3⟩:=h;⟨a,xs,h1,e _ _ h2,aJ (fun _ _ q=>q.mono e) h3⟩
theorem LLT.mono{H H':Hp}{v:V}{ws:List (List PI)}(e:a9 H H')(h:LLT H v ws):LLT H' v ws:=let⟨a,xs,h1,h2,h3⟩:=h;⟨a,xs,h1,e _ _ h2,aJ (fun _ _ q=>q.mono e) h3⟩
def k2(p:PI):List Key:=[.inl p.1,.inl p.2]
def k3(p:PI3):List Key:=[.inl p.1,.inl p.2.1,.inl p.2.2]
theorem AK{p q:PI}(h:k2 p=k2 q):p=q:=by obtain⟨a,b⟩:=p;obtain⟨c,d⟩:=q;simp[k2]at h;rw[h.1,h.2]
theorem AJ{p q:PI3}(h:k3 p=k3 q):p=q:=by obtain⟨a,b,e⟩:=p;obtain⟨c,d,f⟩:=q;simp[k3]at h;rw[h.1,h.2.1,h.2.2]
section
variable {κ:Type} [DecidableEq κ] {kf:κ->List Key} (hk:∀p q,kf p=kf q->p=q)
noncomputable def kvF(kf:κ->List Key)(kvs:List (κ×V)):List (List Key×V):=kvs.map fun x=>(kf x.1,x.2)
include hk in
theorem EO(kvs:List (κ×V))(k:κ):rA (kvF kf kvs) (kf k)=RM.aK kvs k:=by
 unfold kvF;induction kvs with
 |nil=>rfl
 |cons x r ih=>
  rw[List.map_cons,RM.cD];by_cases e:x.1=k
  ·rw[if_pos e,mQ (by rw[e])]
  ·rw[if_neg e,mR (fun z=>e (hk _ _ z)),ih]
include hk in
theorem zU(kvs:List (κ×V))(k:κ)(v:V):putK (kvF kf kvs) (kf k) v=kvF kf (RM.dD kvs k v):=by
 unfold putK RM.dD kvF;have e1:((kvs.map fun x=>(kf x.1,x.2)).any fun kv=>decide (kv.1=kf k))=kvs.any fun x=>decide (x.1=k):=by
  rw[List.any_map];congr 1;funext x;simp only[Function.comp];by_cases e:x.1=k
  ·simp[e]
  ·have e':¬kf x.1=kf k:=fun z=>e (hk _ _ z)
   simp[e,e']
 rw[e1];split
 ·rw[List.map_map,List.map_map];apply List.map_congr_left;intro x _;simp only[Function.comp];by_cases e:x.1=k
  ·simp[e]
  ·have e':¬kf x.1=kf k:=fun z=>e (hk _ _ z)
   simp[e,e']
 ·simp
end
theorem eB{κ:Type}{kf:κ->List Key}(kvs:List (κ×V)):(kvF kf kvs).length=kvs.length:=by simp[kvF]
def D2(H:Hp)(a:Addr)(kvs:List (PI×V)):Prop:=H a=some (.dT (kvF k2 kvs))
def R2(H:Hp)(a:Addr)(kvs:List (PI×V)):Prop:=Rd H a (.dT (kvF k2 kvs))
def D3(H:Hp)(a:Addr)(kvs:List (PI3×V)):Prop:=H a=some (.dT (kvF k3 kvs))
def R3(H:Hp)(a:Addr)(kvs:List (PI3×V)):Prop:=Rd H a (.dT (kvF k3 kvs))
theorem D2.rd{H:Hp}{a:Addr}{kvs:List (PI×V)}(h:D2 H a kvs):R2 H a kvs:=.inl h
theorem D3.rd{H:Hp}{a:Addr}{kvs:List (PI3×V)}(h:D3 H a kvs):R3 H a kvs:=.inl h
theorem R2.mono{H H':Hp}{a:Addr}{kvs:List (PI×V)}(e:a9 H H')(h:R2 H a kvs):R2 H' a kvs:=a9.rd e h
theorem R3.mono{H H':Hp}{a:Addr}{kvs:List (PI3×V)}(e:a9 H H')(h:R3 H a kvs):R3 H' a kvs:=a9.rd e h
theorem R2.get{H:Hp}{a:Addr}{kvs:List (PI×V)}(h:R2 H a kvs){b:Addr}{p:PI}(hb:H b=some (.tup [.int p.1,.int p.2])):kY H a (.ref b) (RM.aK kvs p):=
 .inr ⟨_,k2 p,b,h,rfl,hb,(EO (fun _ _=>AK) kvs p).symm⟩
theorem R3.get{H:Hp}{a:Addr}{kvs:List (PI3×V)}(h:R3 H a kvs){b:Addr}{p:PI3}(hb:H b=some (.tup [.int p.1,.int p.2.1,.int p.2.2])):kY H a (.ref b) (RM.aK kvs p):=
 .inr ⟨_,k3 p,b,h,rfl,hb,(EO (fun _ _=>AJ) kvs p).symm⟩
theorem D2.put{H:Hp}{a:Addr}{kvs:List (PI×V)}(h:D2 H a kvs){b:Addr}{p:PI}(hb:H b=some (.tup [.int p.1,.int p.2]))(v:V)(hl:kvs.length<sizeLine):JR H a (.ref b) v (upd H a (.dT (kvF k2 (RM.dD kvs p v)))):=
 .inr ⟨_,k2 p,b,h,rfl,hb,by rw[eB];exact hl,by rw[zU (fun _ _=>AK)]⟩
theorem D3.put{H:Hp}{a:Addr}{kvs:List (PI3×V)}(h:D3 H a kvs){b:Addr}{p:PI3}(hb:H b=some (.tup [.int p.1,.int p.2.1,.int p.2.2]))(v:V)(hl:kvs.length<sizeLine):JR H a (.ref b) v (upd H a (.dT (kvF k3 (RM.dD kvs p v)))):=
 .inr ⟨_,k3 p,b,h,rfl,hb,by rw[eB];exact hl,by rw[zU (fun _ _=>AJ)]⟩
theorem a9.put{H0 H:Hp}{a:Addr}{o:HO}(e:a9 H0 H)(h:H0 a=none):a9 H0 (L2.upd H a o):=fun b u q=>by rw[aA (aG q h)];exact e b u q
end L3
namespace L3
open PySem PySem.Spec PyProof.Rows L2
theorem qH{h h' base:Heap}:∀{l:List Env},h.FunFrames base l->(∀b∈frs l,∀o,h.get? b=some o->(∀vs,o.data≠ .fields vs)->∃o',h'.get? b=some o'/\o'.data=o.data)->h'.FunFrames base l
 |[],_,_=>trivial
 |env::r,⟨hk,⟨L,o,hf,hn,ho,hd⟩,hr⟩,k=>by
  have e:frs (env::r)=L::frs r:=by unfold frs;rw[List.filterMap_cons,hf]
  rw[e]at k;obtain⟨o',h1,h2⟩:=k L (by simp) o ho hd;exact⟨hk,⟨L,o',hf,hn,h1,fun vs=>h2▸hd vs⟩,qH hr fun b hb=>k b (by simp[hb])⟩
theorem AH{M:Model}{A:Around}{E:Value->Shared->Prop}{s:Shared}{base:Heap}{env:Env}{outer:List Env}{L e:Addr}{cls a0 fl:Value}{Q:Unit->Shared->Prop}
  (hfr:A.frames=some (env::outer)) (hf:env.frame=some L) (hkb:base.StaysIn s.heap) (hen:base.get? e=none) (hl:s.heap.FunFrames base (env::outer)) (ht:s.heap.TracedAtW base e cls a0 fl)
  (hQ:∀h',Heap.FlyingW base outer e cls a0 h'->s.heap.UpToSlots h'->Q () {s with heap:=h'}):wpAny M A (leaving env (.ref e)) Q E s:=by
 by_cases hfl:fl=rawInt L
 ·subst hfl;unfold leaving;refine wpAny_bind (wpAny_noteFrame_againW hf ht (wpAny_landsW (l:=env::outer) ⟨hkb,hen,hl,ht⟩ fun h' fl' up=>?_));obtain⟨k1,k2,⟨_,_,k3⟩,k4⟩:=fl';exact hQ h' ⟨k1,k2,k3,k4⟩ up
 ·obtain⟨oe,vs,T,oT,ts,he,⟨hcls,h0⟩,hd,h1,hnT,hTe,hT,hdT,h3⟩:=ht;subst hcls;have sz:3<ts.size:=(Array.getElem?_eq_some_iff.mp h3).1;have away:∀b,b≠T->(s.heap.update T (Obj.mapFields (·.setIfInBounds 3 Value.none))).get? b=s.heap.get? b:=fun b hb=>Heap.get?_update_other _ _ hb.symm
  have apart:∀b o,s.heap.get? b=some o->(∀ws,o.data≠ .fields ws)->b≠T:=fun b o hb nf z=>nf ts (by rw[z,hT]at hb;cases hb;exact hdT)
  unfold leaving noteFrame;simp only[hf];refine wpAny_bind (wpAny_bind (wpAny_field he hd h1 ?_));rw[if_pos (by simp:(Value.ref T !=Value.none)=true)];refine wpAny_bind (wpAny_field hT hdT h3 ?_);rw[if_neg (by simpa using hfl)];refine wpAny_bind (wpAny_setField hT hdT sz (wpAny_newEntryW hfr ?fr hf ((away e hTe.symm).trans he) ?st hen hd (Array.getElem?_eq_some_iff.mp h1).1 h0 fun h' left=>?fin));case fr=>exact hl.of_keeps fun b o hb nf=>⟨o,(away b (apart b o hb nf)).trans hb,rfl⟩
  case st=>exact fun b o hb=>(away b fun z=>by rw[z,hnT]at hb;cases hb).trans (hkb b o hb)
  case fin=>obtain⟨k1,⟨_,_,k2⟩,k3,k4⟩:=left;exact hQ h' ⟨k1,hen,k2,k3⟩ fun b o hb nf=>k4 b o ((away b (apart b o hb nf)).trans hb) nf
noncomputable abbrev tX(X:Cx)(s:Shared)(H:Hp)(scope:Scope)(cenv:Env)(fp:List Addr)(EC:Addr->Prop):Cx:=
 (X.blk s H scope cenv fp).qO fun e s'=>∃ae C,e=.ref ae/\Fly X.stack fp H s ae C s'/\EC C/\∃m,s'.heap.Ns cenv.locals m
section
variable {P:Program}{w:World}{K:W.Frag}{mg:Str->Option Value}{base:Heap}{N:List Str}{qual:Str}{scope0:Scope}{f:Addr}{cd:Value}{A:Around}{outer:List Env}{s0:Shared}{H0:Hp}{E:XK}
theorem FO{X:Cx}{s:Shared}{H:Hp}{scope:Scope}{cenv:Env}{fp:List Addr}(hk:HOk X.prog X.w H s.heap){E':Value->Prop}:Passes CXf (tX X s H scope cenv fp fun C=>E' (.ref C)) (fun c _ _=>E' c):=by
 intro pins σ H1 s1 e s' I h;obtain⟨ae,C,rfl,⟨⟨a0,fl⟩,slot,os,bare⟩,hE⟩:=h;have fl2:Heap.FlyingW (fZ s.heap H (frs X.stack++fp)) X.stack ae (.ref C) a0 s'.heap:=
  W.flyingW_base (fun b o q=>by
   obtain⟨z1,z2,z3,_⟩:=stays I hk (ex:=fp) (fun _ z=>z) q;exact gH z1 z2 (by rw[nF];exact z3)) fl
 refine⟨ae,C,rfl,⟨⟨a0,fl2⟩,fun b hb o q=>?_,os.trans I.os,bare⟩,hE,?_⟩
 ·obtain⟨sl1,q1⟩:=jV I (show b∈frs X.stack from hb) (fun z=>I.ok.B2 b z hb) q;obtain⟨sl2,q2⟩:=slot b hb _ q1;exact⟨sl2,q2⟩
 ·obtain⟨m,⟨oL,es,ep,hoL,hdL,r⟩,_⟩:=I.loc;have hnf:cenv.locals∉frs X.stack:=fun z=>by obtain⟨_,o,ho,_⟩:=I.ok.kA.mem (b:=cenv.locals) z;exact absurd (Heap.lt_size ho) (Nat.not_lt.mpr I.ok.above)
  have hid:j9 (H1 cenv.locals)=false:=by have z:H1 cenv.locals=none:=I.free;rw[z];rfl
  exact⟨m,oL,es,ep,fl.1 _ _ (gH hoL hid (by rw[nF];exact hnf)),hdL,r⟩
theorem FW(hok0:HOk P w H0 s0.heap){pins:List (Addr×Obj)}{σ:L2.St}{H3:Hp}{s3:Shared}{fp:List Addr}{scope:Scope}{cl:List (Str×Addr)}{use:Option (Value->Sem Unit)}{Qf:Value->Shared->Prop}{acc e:Value}{s':Shared}
  (I3:Inv (cxF P w K mg base N qual scope0 f cd A outer s0 H0 E) pins σ H3 s3) (hfp:∀b∈fp,mM (cxF P w K mg base N qual scope0 f cd A outer s0 H0 E) pins H3 b)
  (hx:∃ae C,e=.ref ae/\Fly (cxF P w K mg base N qual scope0 f cd A outer s0 H0 E).stack fp H3 s3 ae C s'/\E (.ref C) none H0/\∃m,s'.heap.Ns s3.heap.objs.size m):
  notedBy (model P w) (cxF P w K mg base N qual scope0 f cd A outer s0 H0 E).A (compEnvC scope cl s3.heap.objs.size (cxF P w K mg base N qual scope0 f cd A outer s0 H0 E).env)
   (fun e s'=>compPost (model P w) (cxF P w K mg base N qual scope0 f cd A outer s0 H0 E).A (cxF P w K mg base N qual scope0 f cd A outer s0 H0 E).xe use Qf acc s3.heap.objs.size (.error e) s') e s':=by
 obtain⟨ae,C,rfl,⟨⟨a0,fl⟩,slot,os,bare⟩,hE,m,hn⟩:=hx;have low:∀b o,(fZ s0.heap H0 (frs outer++[])).get? b=some o->b<s0.heap.objs.size:=fun b o q=>Heap.lt_size (xP q).1
 have fl2:Heap.FlyingW (fZ s0.heap H0 (frs outer++[])) (cxF P w K mg base N qual scope0 f cd A outer s0 H0 E).stack ae (.ref C) a0 s'.heap:=
  W.flyingW_base (fun b o q=>by
   obtain⟨z1,z2,z3,_⟩:=stays I3 hok0 (ex:=[]) (fun _ z=>z) q;refine gH z1 z2 fun z=>(List.mem_append.mp z).elim z3 fun z=>?_
   rcases(hfp b z).2.2.2.1 with y|y
   ·exact nomatch y
   ·exact absurd (low b o q) (Nat.not_lt.mpr y)) fl
 show wpAny (model P w) _ (noteFrame (.ref ae) (cxF P w K mg base N qual scope0 f cd A outer s0 H0 E).env) _ _ _
 refine wpAny_looks_onW (L:=s0.heap.objs.size) (outer:=outer) I3.ok.frames rfl fl2 fun h1 held up1=>?_
 have goal:∃m,h1.Ns s3.heap.objs.size m/\∀h',Heap.SameBut s3.heap.objs.size h1 h'->∀cenv:Env,cenv.locals=s3.heap.objs.size ->
   wpAny (model P w) (cxF P w K mg base N qual scope0 f cd A outer s0 H0 E).A (PySem.passOn "comprehension.variables-let-go" (.ref ae) cenv:Sem Value) (fun _ _=>False) (cxF P w K mg base N qual scope0 f cd A outer s0 H0 E).xe {s' with heap:=h'}:=by
  have hn1:=up1.ns hn;refine⟨m,hn1,fun h2 sb cenv _=>?_⟩;obtain⟨oL,es,ep,hoL,hdL,_⟩:=hn1;obtain⟨f1,f2,f3,oe,vs,T,oT,ts,he,hc,hd,h1',hnT,hTe,hT,hdT,h3⟩:=held;have nC:∀b o,h1.get? b=some o->(∃ws,o.data=.fields ws)->b≠s3.heap.objs.size:=fun b o q ⟨ws,z⟩ y=>by rw[y,hoL]at q;cases q;rw[hdL]at z;cases z
  have he2:h2.get? ae=some oe:=(sb.2 ae (nC ae oe he ⟨vs,hd⟩)).trans he;have hT2:h2.get? T=some oT:=(sb.2 T (nC T oT hT ⟨ts,hdT⟩)).trans hT;have sz:3<ts.size:=(Array.getElem?_eq_some_iff.mp h3).1;unfold PySem.passOn setFlight;refine wpAny_bind (wpAny_field he2 hd h1' ?_);rw[if_neg (by simp:¬((Value.ref T==Value.none)=true))];refine wpAny_bind (wpAny_bind (wpAny_field he2 hd h1' ?_));rw[if_pos (by simp:(Value.ref T !=Value.none)=true)];refine wpAny_setField hT2 hdT sz (wpAny_throw ?_);have away:∀b,b≠T->(h2.update T (Obj.mapFields (·.setIfInBounds 3 (cenv.frame.elim Value.none fun f=>rawInt f)))).get? b=h2.get? b:=fun b hb=>Heap.get?_update_other _ _ hb.symm
  have fr:∀b∈frs (cxF P w K mg base N qual scope0 f cd A outer s0 H0 E).stack,b≠s3.heap.objs.size:=fun b hb=>by obtain⟨_,o,q,_⟩:=I3.stack.mem (b:=b) hb;exact Nat.ne_of_lt (Heap.lt_size q)
  have nT:∀b o,h1.get? b=some o->(∀ws,o.data≠ .fields ws)->b≠T:=fun b o q nf y=>nf ts (by rw[y,hT]at q;cases q;exact hdT)
  refine AH (base:=fZ s0.heap H0 (frs outer++[])) (L:=s0.heap.objs.size) (outer:=outer) (cls:=.ref C) (a0:=a0) (fl:=cenv.frame.elim Value.none fun f=>rawInt f) I3.ok.frames rfl ?st f2 ?fr ?tr fun h4 fl4 up4=>?fin
  case st=>intro b o q;have l1:=low b o q;have l2:b≠s3.heap.objs.size:=Nat.ne_of_lt (Nat.lt_of_lt_of_le l1 I3.sz);rw[away b fun z=>by rw[z,hnT]at q;cases q];exact(sb.2 b l2).trans (f1 b o q)
  case fr=>exact qH f3 fun b hb o q nf=>⟨o,(away b (nT b o q nf)).trans ((sb.2 b (fr b hb)).trans q),rfl⟩
  case tr=>exact⟨oe,vs,T,_,_,(away ae hTe.symm).trans he2,hc,hd,h1',hnT,hTe,Heap.get?_update_self _ hT2 (Obj.isFreed_of_fields (Obj.data_mapFields hdT _)),Obj.data_mapFields hdT _,by simp[sz]⟩
  case fin=>
   refine⟨ae,C,rfl,⟨⟨_,fl4⟩,fun b hb o q=>?_,os.trans I3.os,bare⟩,hE⟩;have hbs:b∈frs (cxF P w K mg base N qual scope0 f cd A outer s0 H0 E).stack:=by
    show b∈frs (_::outer)
    unfold frs;rw[List.filterMap_cons];exact List.mem_cons_of_mem _ hb
   obtain⟨sl1,q1⟩:=jV I3 hb (by intro z;exact nomatch z) q;obtain⟨sl2,q2⟩:=slot b hbs _ q1;obtain⟨o3,q3,nf⟩:=(fl.2.2.1.mem (b:=b) hbs).2;rw[q2]at q3;cases q3;obtain⟨sl3,q4⟩:=up1 b _ q2 nf;have q5:=(away b (nT b _ q4 nf)).trans ((sb.2 b (fr b hbs)).trans q4);obtain⟨sl4,q6⟩:=up4 b _ q5 nf;exact⟨sl4,q6⟩
 cases use<;>exact goal
end
end L3
namespace L3
open PySem PySem.Spec PyProof.Rows L2
section
variable {P:Program}{w:World}{K:W.Frag}{mg:Str->Option Value}{base:Heap}{N:List Str}{qual:Str}{scope0:Scope}{f:Addr}{cd:Value}{A:Around}{outer:List Env}{s0:Shared}{H0:Hp}{E:XK}
theorem xW{X:Cx}(hX:X=cxF P w K mg base N qual scope0 f cd A outer s0 H0 E)(hok0:HOk P w H0 s0.heap){pins:List (Addr×Obj)}{s:Shared}{σ:L2.St}{H:Hp}{Q:VK}{elt tg iter:Expr}{scope:Scope}{own:List (Str×Nat)}{pos pos':Pos}{wi:TI}{g:TG}{te:TE}{use:Option (Value->Sem Unit)}{Qf:Value->Shared->Prop}
  (hN:X.N.Nodup) (I:Inv X pins σ H s) (hi:L2.PI X tg iter wi) (ok:oA X.N X.env.scope scope own)
  (hg:∀(s:Shared)(H:Hp)(C:Addr)(cl:List (Str×Addr))(fp:List Addr),PG (tX X s H scope (compEnvC scope cl C X.env) fp fun C=>E (.ref C) none H0) tg g)
  (he:∀(s:Shared)(H:Hp)(C:Addr)(cl:List (Str×Addr))(fp:List Addr),HOk X.prog X.w H s.heap->PE (tX X s H scope (compEnvC scope cl C X.env) fp fun C=>E (.ref C) none H0) elt te) (hs:∀x,foldedSetIterable iter X.env x=pure x)
  (h:tLc wi g EW te (own.map (·.2)) σ H Q)
  (hRR:∀D C s' m H',Inv X pins σ H' s'->Q (.ref D) H'->s'.heap.Ns C m->mM X pins H' C->compPost (model X.prog X.w) X.A X.xe use Qf (.ref D) C (.ok .next) s'):
  wpAny (model X.prog X.w) X.A (comprehension (.ListComp elt [⟨tg,iter,[],0⟩] scope pos) scope X.env pos' (newList []) false (eval iter X.env) use) Qf X.xe s:=by
 have hfree:∀y∈scope.names,y.2=.free->∃c,X.env.cells.lookup y.1=some c:=fun y hy e=>by
  rcases ok.free y hy e with k|k
  ·exact I.ok.has _ (.inl k)
  ·exact I.ok.has _ (.inr k)
 refine wpAny_comprehension_free (use:=use) rfl hs (mI hfree) ok.kind (fun y hy e=>by rw[ok.uniq y hy,e])
  (thn (hi pins s σ H _ I h) fun xv s1 hx=>thn hx fun itv s2 h2=>?_)
 obtain⟨it,fp,tn,J,H2,e,I2,T,st2,f2,q⟩:=h2;subst e;refine wpAny_newObj_type (qC ?_) (by show 0<=sizeLine;decide);generalize hD:s2.heap.objs.size=D;have hDn:H2 D=none:=I2.hok.fresh (Nat.le_of_eq hD);obtain⟨W,⟨m0,w0⟩,turn⟩:=q D hDn;generalize hs3:({s2 with heap:=s2.heap.push {cls:=.type "list",data:=.seq ([]:List Value).toArray}}:Shared)=s3;have I3:Inv X pins σ (upd H2 D (.lst [])) s3:=by rw[<- hs3];refine I2.laid (t':=s2.toks) (fun b o e=>Heap.get?_push_of_some _ e) (Nat.le_of_eq hD) ⟨Nat.zero_le _,[],0,.nil,?_⟩;rw[<- hD];exact Heap.get?_push_size _ rfl
 have h3:s3.heap=s2.heap.push {cls:=.type "list",data:=.seq ([]:List Value).toArray}:=by rw[<- hs3]
 have sz:∀b∈fp,b<s2.heap.objs.size:=fun b hb=>by obtain⟨o,e,_⟩:=T.obj _ _ st2 b hb;exact Heap.lt_size e
 have f3:∀b∈fp,mM X pins (upd H2 D (.lst [])) b/\b<s3.heap.objs.size:=fun b hb=>by have hlt:=sz b hb;refine⟨⟨?_,(f2 b hb).2⟩,by rw[h3,Heap.size_push];exact Nat.lt_succ_of_lt hlt⟩;rw[aA (by rw[<- hD];exact Nat.ne_of_lt hlt)];exact(f2 b hb).1
 have st3:tn 0 s3.heap:=T.keep _ _ _ st2 fun b _ o e=>by rw[h3];exact Heap.get?_push_of_some _ e
 have I4':=qL I3 ok hN f3;have pg:=hg s3 (upd H2 D (.lst [])) s3.heap.objs.size (cellsFrom (s3.heap.objs.size+1) scope.names (bF X.env.cells scope.names [])) fp;have pe:=he s3 (upd H2 D (.lst [])) s3.heap.objs.size (cellsFrom (s3.heap.objs.size+1) scope.names (bF X.env.cells scope.names [])) fp I3.hok;show codeAny _ _ (.compStart (.ListComp elt [⟨tg,iter,[],0⟩] scope pos) 0 (.ref it) (.ref D) (compEnvC scope (cellsFrom (s3.heap.objs.size+1) scope.names (bF X.env.cells scope.names [])) s3.heap.objs.size X.env)) (compPost (model X.prog X.w) X.A X.xe use Qf (.ref D) s3.heap.objs.size) {s3 with heap:=pushCells (s3.heap.push {cls:=.type "dict",data:=.dict #[]}) scope.names}
 have nfp:∀b∈fp,(upd H2 D (.lst [])) b=none:=fun b hb=>(f3 b hb).1.1
 generalize hcl:cellsFrom (s3.heap.objs.size+1) scope.names (bF X.env.cells scope.names [])=cl at I4' pg pe ⊢;have noted:∀e s',(tX X s3 (upd H2 D (.lst [])) scope (compEnvC scope cl s3.heap.objs.size X.env) fp fun C=>E (.ref C) none H0).xe e s' ->
   notedBy (model X.prog X.w) X.A (compEnvC scope cl s3.heap.objs.size X.env) (fun e s'=>compPost (model X.prog X.w) X.A X.xe use Qf (.ref D) s3.heap.objs.size (.error e) s') e s':=fun e s' hx=>by
  subst hX;exact FW hok0 I3 (fun b hb=>(f3 b hb).1) hx
 generalize hce:compEnvC scope cl s3.heap.objs.size X.env=ce at I4' pg pe noted ⊢;have cL:ce.locals=s3.heap.objs.size:=by subst hce;rfl
 have I4:Inv (tX X s3 (upd H2 D (.lst [])) scope ce fp fun C=>E (.ref C) none H0) [] (wipe σ (own.map (·.2))) (upd H2 D (.lst [])) {s3 with heap:=pushCells (s3.heap.push {cls:=.type "dict",data:=.dict #[]}) scope.names}:=I4'.qO _;generalize hH3:upd H2 D (.lst [])=H3 at I3 I4 pg pe w0 nfp f3 noted;generalize hs4:({s3 with heap:=pushCells (s3.heap.push {cls:=.type "dict",data:=.dict #[]}) scope.names}:Shared)=s4 at I4 ⊢;have st4:tn 0 s4.heap:=T.keep _ _ _ st3 fun b _ o e=>by rw[<- hs4];exact pushCells_keeps _ _ _ _ (Heap.get?_push_of_some _ e)
 generalize hB:tX X s3 H3 scope ce fp (fun C=>E (.ref C) none H0)=B at I4 pg pe noted;have calm:B.calm=true:=by subst hB hX;rfl
 have stat:∀{σ':L2.St}{H':Hp}{s':Shared},Inv B [] σ' H' s'->(∀b∈fp,H' b=none)->∀b∈fp,mM B [] H' b:=fun{σ' H' s'} I' hn b hb=>by subst hB;exact⟨hn b hb,(I'.ok.exf b hb).1,I'.ok.B2 b hb,.inl hb,fun x c e=>(I'.ok.exf b hb).2 x c e,fun p hp=>absurd (show p∈([]:List (Addr×Obj))++[]from hp) (by simp)⟩
 have eP:B.prog=X.prog:=by subst hB;rfl
 have eW:B.w=X.w:=by subst hB;rfl
 have eK:B.K=X.K:=by subst hB;rfl
 have eA:B.A=X.A:=by subst hB;rfl
 have loop:codeAny (model X.prog X.w) X.A (.compLoop (.ListComp elt [⟨tg,iter,[],0⟩] scope pos) 0 (.ref it) (.ref D) ce) (compPost (model X.prog X.w) X.A X.xe use Qf (.ref D) s3.heap.objs.size) s4:=by
  refine nX (fun n s'=>∃i H',Inv B [] (wipe σ (own.map (·.2))) H' s'/\tn i s'.heap/\(∀b∈fp,H' b=none)/\W i n H') ?_ m0 ⟨0,H3,I4,st4,nfp,w0⟩;rintro n s5 ⟨i,H5,I5,st5,n5,w5⟩;rcases turn i n H5 w5 with⟨stop,qq⟩|⟨go,Nx,hNx,step⟩
  ·have td:=T.done B eP eW eK calm i [] s5 _ H5 (fun _ _=>False) I5 (stat I5 n5) st5 stop;rw[eA]at td;refine vJ td fun r s6 ⟨hr,I6⟩=>?_
   subst hr;have I7:Inv X pins σ H5 s6:=by subst hB;exact I3.CC (ch:=fp) I6.os I6.base I6.hok I6.bare fun b hb=>⟨(f3 b hb).1.2.2.2.1,(f3 b hb).1.2.1,(f3 b hb).1.2.2.2.2.1,(f3 b hb).1.2.2.2.2.2⟩
   have nC:H5 s3.heap.objs.size=none:=by subst hB;have z:H5 ce.locals=none:=I6.free;rw[cL]at z;exact z
   obtain⟨m,hn⟩:∃m,s6.heap.Ns s3.heap.objs.size m:=by subst hB;obtain⟨m,hn,_⟩:=I6.loc;have hn:s6.heap.Ns ce.locals m:=hn;rw[cL]at hn;exact⟨m,hn⟩
   exact hRR D s3.heap.objs.size s6 m H5 I7 qq hn (I3.AZ (Nat.le_refl _) nC)
  ·have ti:=T.item B eP eW eK calm i [] s5 _ H5 (fun _ _=>False) I5 (stat I5 n5) st5 go;rw[eA]at ti;refine vJ ti fun r s6 ⟨u,hr,h6⟩=>?_
   subst hr;refine vJ h6 fun _ s7 ⟨x,H7,I7,r7,y7,st7,n7⟩=>?_
   have I7':=I7.pinned (stat I7 n7) (T.obj _ _ st7);have pg':=pg _ s7 _ H7 x u _ I7' r7 (step x H7 y7);rw[eP,eW,eA]at pg';have ee:B.env=ce:=by subst hB;rfl
   rw[ee]at pg';refine wpAny_mono pg' (fun _ s8 ⟨σ8,H8,I8,hw8,q8⟩=>?_) noted;have fin:∀{s':Shared}{H':Hp},Inv B ([]++oU fp s7.heap) σ8 H' s'->Nx H'->∃m,m<n/\∃i H',Inv B [] (wipe σ (own.map (·.2))) H' s'/\tn i s'.heap/\(∀b∈fp,H' b=none)/\W i m H':=fun{s' H'} I' nx=>by
    obtain⟨m',hm,w'⟩:=hNx H' nx;have pin':∀b∈fp,∀o,s7.heap.get? b=some o->s'.heap.get? b=some o/\H' b=none:=fun b hb o e=>
     let z:=I'.pin (b,o) (List.mem_append_right _ (List.mem_append_right _ (j6 hb e)))
     ⟨z.1,z.2.1⟩
    have hl:(wipe σ (own.map (·.2))).length=σ8.length:=by rw[<- hw8,gQ]
    refine⟨m',hm,i+1,H',(I'.jR (pins:=[])).weak hl (fun j v e=>?_),T.keep _ _ _ st7 fun b hb o e=>(pin' b hb o e).1,fun b hb=>?_,w'⟩
    ·rw[<- hw8]at e;exact(kZ e).1
    ·obtain⟨o,e,_⟩:=T.obj _ _ st7 b hb;exact(pin' b hb o e).2
   refine wpAny_pure ?_;have q8:(if true=true then te σ8 H8 fun y H4=>∃acc,H4 D=some (.lst acc)/\acc.length<sizeLine/\Nx (upd H4 D (.lst (acc++[y])))else Nx H8):=q8;simp only[if_true]at q8 ⊢;have pe':=pe _ s8 σ8 H8 _ I8 q8;rw[eP,eW,eA,ee]at pe';refine wpAny_mono pe' (fun z s10 ⟨yv,H10,I10,r10,acc,hD10,hz10,nx⟩=>?_) noted;have ap:=GZ (E:=notedBy (model X.prog X.w) X.A ce fun e s'=>compPost (model X.prog X.w) X.A X.xe use Qf (.ref D) s3.heap.objs.size (.error e) s') (Q:=fun _ s₅=>∃m,m<n/\∃i H',Inv B [] (wipe σ (own.map (·.2))) H' s₅/\tn i s₅.heap/\(∀b∈fp,H' b=none)/\W i m H') I10 hD10 hz10 r10 fun s11 I11=>fin I11 nx
   rw[eP,eW,eA]at ap;exact ap
 exact codeAny_compStart_list loop (T.self X.A 0 _ _ _ st4 loop)
theorem KN(hok0:HOk P w H0 s0.heap){elt tg iter:Expr}{scope:Scope}{own:List (Str×Nat)}{pos:Pos}{wi:TI}{g:TG}{te:TE}(hc:(cxF P w K mg base N qual scope0 f cd A outer s0 H0 E).calm=true)(hN:N.Nodup)
  (hi:L2.PI (cxF P w K mg base N qual scope0 f cd A outer s0 H0 E) tg iter wi) (ok:oA N scope0 scope own)
  (hg:∀(s:Shared)(H:Hp)(C:Addr)(cl:List (Str×Addr))(fp:List Addr),PG (tX (cxF P w K mg base N qual scope0 f cd A outer s0 H0 E) s H scope (compEnvC scope cl C (cxF P w K mg base N qual scope0 f cd A outer s0 H0 E).env) fp fun C=>E (.ref C) none H0) tg g)
  (he:∀(s:Shared)(H:Hp)(C:Addr)(cl:List (Str×Addr))(fp:List Addr),HOk P w H s.heap->PE (tX (cxF P w K mg base N qual scope0 f cd A outer s0 H0 E) s H scope (compEnvC scope cl C (cxF P w K mg base N qual scope0 f cd A outer s0 H0 E).env) fp fun C=>E (.ref C) none H0) elt te)
  (hs:∀x,foldedSetIterable iter (cxF P w K mg base N qual scope0 f cd A outer s0 H0 E).env x=pure x:=by intro _;rfl):
  PE (cxF P w K mg base N qual scope0 f cd A outer s0 H0 E) (.ListComp elt [⟨tg,iter,[],0⟩] scope pos) (tLc wi g EW te (own.map (·.2))):=by
 intro pins s σ H Q I h;rw[eval_ListComp];refine xW rfl hok0 hN I hi ok hg he hs h fun D C s' m H' I' q hn f=>⟨m,hn,fun h'' sb=>?_⟩
 obtain⟨f0,f1,f2,f3,f4,f5⟩:=f;exact⟨.ref D,H',I'.turned (t':=s'.toks) (fun b o hb e=>(sb.2 b hb).trans e) f0 f1 f3 f4 f5,rfl,q⟩
theorem uH(hok0:HOk P w H0 s0.heap){i:Nat}{y:Str}{py:Pos}{elt tg iter:Expr}{scope:Scope}{own:List (Str×Nat)}{pos spos:Pos}{wi:TI}{g:TG}{te:TE}(hc:(cxF P w K mg base N qual scope0 f cd A outer s0 H0 E).calm=true)(hN:N.Nodup)(hy:N[i]? =some y)(hyl:scope0.names.lookup y=some .local)
  (hsw:swapsWith (.ListComp elt [⟨tg,iter,[],0⟩] scope pos) (some (.Name y py)) spos.line (cxF P w K mg base N qual scope0 f cd A outer s0 H0 E).env=pure true)
  (hi:L2.PI (cxF P w K mg base N qual scope0 f cd A outer s0 H0 E) tg iter wi) (ok:oA N scope0 scope own)
  (hg:∀(s:Shared)(H:Hp)(C:Addr)(cl:List (Str×Addr))(fp:List Addr),PG (tX (cxF P w K mg base N qual scope0 f cd A outer s0 H0 E) s H scope (compEnvC scope cl C (cxF P w K mg base N qual scope0 f cd A outer s0 H0 E).env) fp fun C=>E (.ref C) none H0) tg g)
  (he:∀(s:Shared)(H:Hp)(C:Addr)(cl:List (Str×Addr))(fp:List Addr),HOk P w H s.heap->PE (tX (cxF P w K mg base N qual scope0 f cd A outer s0 H0 E) s H scope (compEnvC scope cl C (cxF P w K mg base N qual scope0 f cd A outer s0 H0 E).env) fp fun C=>E (.ref C) none H0) elt te)
  (hs:∀x,foldedSetIterable iter (cxF P w K mg base N qual scope0 f cd A outer s0 H0 E).env x=pure x:=by intro _;rfl):
  PS (cxF P w K mg base N qual scope0 f cd A outer s0 H0 E) (.Assign [.Name y py] (.ListComp elt [⟨tg,iter,[],0⟩] scope pos) spos) (CW (tLc wi g EW te (own.map (·.2))) (lT i)):=by
 generalize hX:cxF P w K mg base N qual scope0 f cd A outer s0 H0 E=X at*;have hN':X.N.Nodup:=by subst hX;exact hN
 have hy':X.N[i]? =some y:=by subst hX;exact hy
 have hyl':X.env.scope.names.lookup y=some .local:=by subst hX;exact hyl
 have ok':oA X.N X.env.scope scope own:=by subst hX;exact ok
 intro pins s σ H D I h;rw[exec_Assign_Name_used _ _ _ _ hsw];refine wpAny_bind (wpAny_standAt (wpAny_bind ?_));show wpAny _ X.A (do let _<- comprehension (.ListComp elt [⟨tg,iter,[],0⟩] scope pos) scope X.env (firstIterPos [⟨tg,iter,[],0⟩] pos) (newList []) false (eval iter X.env) (some (assign (.Name y py) X.env))) _ _ s
 have h:tLc wi g EW te (own.map (·.2)) σ H (fun x H1=>lT i x σ H1 D.nx):=h;refine wpAny_bind (thn (xW (Qf:=fun _ s'=>SP X pins D .next s') hX.symm hok0 hN' I hi ok' hg (fun s H C cl fp hk=>he s H C cl fp (by subst hX;exact hk)) hs h fun L C s' m H' I' q hn f=>?_) fun _ s' hq=>wpAny_pure (wpAny_pure hq));show wpAny _ _ (assign (.Name y py) X.env (.ref L)) _ _ _
 refine wpAny_assign_Name (oM (v:=V.ref L) I' hN' hy' (.inl hyl') rfl (fun s2 I2 ⟨a,sb,ha⟩=>?_) (.inr hyl'));obtain⟨f0,f1,f2,f3,f4,f5⟩:=f;have haC:C≠a:=by
  rcases ha with z|z
  ·rw[z];exact f1
  ·exact fun e=>f4 y a z e.symm
 refine⟨m,hn.sameBut sb haC,fun h3 sb3=>?_⟩;exact⟨_,H',I2.turned (t':=s2.toks) (fun b o hb e=>(sb3.2 b hb).trans e) f0 f1 f3 f4 f5,q⟩
end
end L3
namespace L3
open PySem PySem.Spec PyProof.Rows L2
theorem T2.upd{H:Hp}{v:V}{p:Int×Int}{D:Addr}{xs:List V}{o:HO}(h:T2 H v p)(hD:H D=some (.lst xs)):T2 (L2.upd H D o) v p:=by obtain⟨a,e,q⟩:=h;exact⟨a,e,by rw[aA (eT q hD (by intro z;cases z))];exact q⟩
theorem T3.upd{H:Hp}{v:V}{p:Int×Int×Int}{D:Addr}{xs:List V}{o:HO}(h:T3 H v p)(hD:H D=some (.lst xs)):T3 (L2.upd H D o) v p:=by obtain⟨a,e,q⟩:=h;exact⟨a,e,by rw[aA (eT q hD (by intro z;cases z))];exact q⟩
theorem LT.upd{H:Hp}{b D:Addr}{zs:List PI}{xs:List V}{o:HO}(h:LT H (.ref b) zs)(hD:H D=some (.lst xs))(n:b≠D):LT (L2.upd H D o) (.ref b) zs:=by obtain⟨a,ys,e,q,pr⟩:=h;cases e;exact⟨b,ys,rfl,by rw[aA n];exact q,aJ (fun _ _ z=>z.upd hD) pr⟩
theorem LLI.apart{H:Hp}{p:Addr}{xs:List V}(hp:H p=some (.lst xs)){v:V}(hv:v∈xs){row:List Int}(h:LI H v row):∃b,v=.ref b/\b≠p/\H b=some (.lst (row.map V.int)):=by obtain⟨b,rfl,q⟩:=h;refine⟨b,rfl,fun z=>?_,q⟩;rw[z,hp]at q;have q:=HO.lst.inj (Option.some.inj q);rw[q]at hv;obtain⟨n,_,e⟩:=List.mem_map.mp hv;cases e
theorem eS{α β:Type}{R:α->β->Prop}:∀{l:List α}{m:List β},Paired R l m->Paired R l.dropLast m.dropLast
 |_,_,.nil=>.nil
 |_,_,.cons _ .nil=>.nil
 |_,_,.cons r (.cons q t)=>.cons r (eS (.cons q t))
theorem lA{α β:Type}{R:α->β->Prop}:∀{l:List α}{m:List β},Paired R l m->Paired (fun a b=>a∈l/\b∈m/\R a b) l m
 |_,_,.nil=>.nil
 |_,_,.cons r t=>.cons ⟨by simp,by simp,r⟩ (aJ (fun _ _ ⟨h1,h2,h3⟩=>⟨List.mem_cons_of_mem _ h1,List.mem_cons_of_mem _ h2,h3⟩) (lA t))
theorem nI{α:Type}{a:α}:∀{l:List α},a∈l.dropLast->a∈l
 |[],h=>by cases h
 |[_],h=>by cases h
 |x::y::r,h=>by
  rcases List.mem_cons.mp h with rfl|h
  ·simp
  ·exact List.mem_cons_of_mem _ (nI h)
end L3
namespace L3
open PySem PySem.Spec PyProof.Rows L2
theorem GJ{K:W.Frag}{a:Addr}{xs:List V}{g:TG}{tb:TS}{D:Ends}{σ:L2.St}{H:Hp}(Pv:Nat->L2.St->Hp->Prop)(h0:Pv 0 σ H)(hl:∀i σ H,i<=xs.length->Pv i σ H->SqL K H a xs)
  (hs:∀i x σ H T,xs[i]? =some x->Pv i σ H->H T=none->g (.ref T) σ (upd H T (.tup [.int (i:Nat),x])) fun σ2 H2=>tb {D with nx:=Pv (i+1),ct:=Pv (i+1),bk:=D.nx} σ2 H2) (hd:∀σ H,Pv xs.length σ H->D.nx σ H):
  ∃W:Nat->Nat->L2.St->Hp->Prop,(∃m,W 0 m σ H)/\∀i m σ H,W i m σ H ->
   ((Ite K a).stop i H/\D.nx σ H)\/((Ite K a).go i H/\∃N:L2.St->Hp->Prop,(∀σ' H',N σ' H'->∃m',m'<m/\W (i+1) m' σ' H')/\∀x H',(Ite K a).yld i H x H'->g x σ H' fun σ2 H2=>tb {D with nx:=N,ct:=N,bk:=D.nx} σ2 H2):=by
 refine⟨fun i m σ H=>m=xs.length - i/\i<=xs.length/\Pv i σ H,⟨xs.length,by simp,Nat.zero_le _,h0⟩,?_⟩;rintro i m σ H ⟨rfl,hi,p⟩;have q:=hl i σ H hi p;by_cases hlt:i<xs.length
 ·refine .inr ⟨⟨xs,xs[i],q,by simp[hlt]⟩,Pv (i+1),fun σ' H' p'=>⟨xs.length - (i+1),by omega,rfl,hlt,p'⟩,fun x H' y=>?_⟩;obtain⟨T,z,rfl,hT,rfl,y⟩:=y;exact hs i z σ H T (y xs q) p hT
 ·have e:i=xs.length:=by omega
  subst e;exact .inl ⟨⟨xs,q,Nat.le_refl _⟩,hd σ H p⟩
theorem kC{d:Addr}{od:Obj}{kvs:List (List Key×V)}{g:TG}{tb:TS}{D:Ends}{σ:L2.St}{H:Hp}(Pv:Nat->L2.St->Hp->Prop)(h0:Pv 0 σ H)(hl:∀i σ H,Pv i σ H->H d=some (.frz od (.dT kvs)))
  (hs:∀i k v q σ H,kvs[i]? =some (k,v)->H q=some (.tup (k.map kV))->Pv i σ H->g (.ref q) σ H fun σ2 H2=>tb {D with nx:=Pv (i+1),ct:=Pv (i+1),bk:=D.nx} σ2 H2) (hd:∀σ H,Pv kvs.length σ H->D.nx σ H):
  ∃W:Nat->Nat->L2.St->Hp->Prop,(∃m,W 0 m σ H)/\∀i m σ H,W i m σ H ->
   ((zE d od kvs).stop i H/\D.nx σ H)\/((zE d od kvs).go i H/\∃N:L2.St->Hp->Prop,(∀σ' H',N σ' H'->∃m',m'<m/\W (i+1) m' σ' H')/\∀x H',(zE d od kvs).yld i H x H'->g x σ H' fun σ2 H2=>tb {D with nx:=N,ct:=N,bk:=D.nx} σ2 H2):=by
 refine⟨fun i m σ H=>m=kvs.length - i/\i<=kvs.length/\Pv i σ H,⟨kvs.length,by simp,Nat.zero_le _,h0⟩,?_⟩;rintro i m σ H ⟨rfl,hi,p⟩;have q:=hl i σ H p;by_cases hlt:i<kvs.length
 ·refine .inr ⟨⟨q,hlt⟩,Pv (i+1),fun σ' H' p'=>⟨kvs.length - (i+1),by omega,rfl,hlt,p'⟩,fun x H' y=>?_⟩;obtain⟨rfl,k,v,b,hk,rfl,hb⟩:=y;exact hs i k v b σ H' hk hb p
 ·have e:i=kvs.length:=by omega
  subst e;exact .inl ⟨⟨q,Nat.le_refl _⟩,hd σ H p⟩
theorem IW{d:Addr}{od:Obj}{kvs:List (List Key×V)}{g:TG}{tt:TT}{te:TE}{vs:List Nat}{σ:L2.St}{H1:Hp}{D:Addr}{Qd:Hp->Prop}(Pv:Nat->Hp->Prop)(h0:Pv 0 (upd H1 D (.lst [])))(hl:∀i H,Pv i H->H d=some (.frz od (.dT kvs)))
  (hs:∀i k v q H,kvs[i]? =some (k,v)->H q=some (.tup (k.map kV))->Pv i H->g (.ref q) (wipe σ vs) H fun σ2 H2=>wipe σ2 vs=wipe σ vs/\tt σ2 H2 fun b H3=>
   if b=true then te σ2 H3 fun y H4=>∃acc,H4 D=some (.lst acc)/\acc.length<sizeLine/\Pv (i+1) (upd H4 D (.lst (acc++[y])))else Pv (i+1) H3) (hd:∀H,Pv kvs.length H->Qd H):
  ∃W:Nat->Nat->Hp->Prop,(∃m,W 0 m (upd H1 D (.lst [])))/\∀i m H,W i m H ->
   ((zE d od kvs).stop i H/\Qd H)\/((zE d od kvs).go i H/\∃Nx:Hp->Prop,(∀H',Nx H'->∃m',m'<m/\W (i+1) m' H')/\∀x H',(zE d od kvs).yld i H x H'->g x (wipe σ vs) H' fun σ2 H2=>wipe σ2 vs=wipe σ vs/\tt σ2 H2 fun b H3=>
    if b=true then te σ2 H3 fun y H4=>∃acc,H4 D=some (.lst acc)/\acc.length<sizeLine/\Nx (upd H4 D (.lst (acc++[y])))else Nx H3):=by
 refine⟨fun i m H=>m=kvs.length - i/\i<=kvs.length/\Pv i H,⟨kvs.length,by simp,Nat.zero_le _,h0⟩,?_⟩;rintro i m H ⟨rfl,hi,p⟩;have q:=hl i H p;by_cases hlt:i<kvs.length
 ·refine .inr ⟨⟨q,hlt⟩,Pv (i+1),fun H' p'=>⟨kvs.length - (i+1),by omega,rfl,hlt,p'⟩,fun x H' y=>?_⟩;obtain⟨rfl,k,v,b,hk,rfl,hb⟩:=y;exact hs i k v b H' hk hb p
 ·have e:i=kvs.length:=by omega
  subst e;exact .inl ⟨⟨q,Nat.le_refl _⟩,hd H p⟩
theorem a9.unlock{H H2:Hp}{d:Addr}{od:Obj}{u:HO}(h:H d=some u)(e:a9 (L2.upd H d (.frz od u)) H2):a9 H (L2.upd H2 d u):=fun b o q=>by
 by_cases hb:b=d
 ·subst hb;rw[a7];rw[h]at q;exact q
 ·rw[aA hb];exact e b o (by rw[aA hb];exact q)
theorem T2.qP{H:Hp}{v:V}{p:Int×Int}{D:Addr}{u o:HO}(h:T2 H v p)(hD:H D=some u)(hu:∀xs,u≠ .tup xs):T2 (L2.upd H D o) v p:=by obtain⟨a,e,q⟩:=h;exact⟨a,e,by rw[aA (eT q hD (fun z=>hu _ z.symm))];exact q⟩
theorem T3.qP{H:Hp}{v:V}{p:Int×Int×Int}{D:Addr}{u o:HO}(h:T3 H v p)(hD:H D=some u)(hu:∀xs,u≠ .tup xs):T3 (L2.upd H D o) v p:=by obtain⟨a,e,q⟩:=h;exact⟨a,e,by rw[aA (eT q hD (fun z=>hu _ z.symm))];exact q⟩
theorem GX{xs:List V}{k:Nat}{v:V}(hk:k<xs.length)(h:xs[if k=0 then xs.length - 1 else k - 1]? =some v):atI xs ((k:Int) - 1)=some v:=by
 by_cases h0:k=0
 ·subst h0;rw[if_pos rfl]at h;unfold atI ixN;rw[if_neg (by omega),if_pos (by omega)];show xs[(((0:Nat):Int) - 1+(xs.length:Int)).toNat]? =some v
  rw[show(((0:Nat):Int) - 1+(xs.length:Int)).toNat=xs.length - 1 by omega];exact h
 ·rw[if_neg h0]at h;exact bQ (by omega) (by rw[show((k:Int) - 1).toNat=k - 1 by omega];exact h)
end L3
namespace L3
open PySem PySem.Spec PyProof.Rows L2
def CS(C:List (Nat×Nat)):List (PI×V):=C.map fun c=>(RM.iP c,.bl true)
theorem lM(C:List (Nat×Nat)):(CS C).map (·.1)=C.map RM.iP:=by simp[CS]
theorem fT{a b:Nat×Nat}(h:RM.iP a=RM.iP b):a=b:=by unfold RM.iP at h;have h1:=congrArg Prod.fst h;have h2:=congrArg Prod.snd h;simp at h1 h2;exact Prod.ext (by omega) (by omega)
theorem CH(C:List (Nat×Nat))(c:Nat×Nat)(h:c∉C):RM.dD (CS C) (RM.iP c) (.bl true)=CS (C++[c]):=by
 rw[RM.fM]
 ·simp[CS]
 ·rw[lM];intro z;obtain⟨d,hd,e⟩:=List.mem_map.mp z;exact h (fT e▸hd)
theorem pQ(C:List (Nat×Nat)):(CS C).length=C.length:=by simp[CS]
theorem LV(C:List (Nat×Nat))(q:PI):(RM.aK (CS C) q).isSome=true↔q∈C.map RM.iP:=by rw[RM.aV,lM]
end L3
namespace L3
open PySem PySem.Spec PySem.Calls PyProof.Rows L2
structure jN(h:Heap)(d:Addr)(o:Obj)(es:Array DictEntry)(ep:Nat):Prop where
 at_:h.get? d=some o
 ex:o.ExactDict
 dat:o.data=.dict es ep
theorem jN.ty{s:Shared}{d:Addr}{o:Obj}{es:Array DictEntry}{ep:Nat}(e:jN s.heap d o es ep):s.TypeIs (.ref d) "dict" :=⟨o,e.at_,e.ex.1⟩
theorem jN.to{h h':Heap}{d:Addr}{o:Obj}{es:Array DictEntry}{ep:Nat}(e:jN h d o es ep)(k:∀q,h.get? d=some q->h'.get? d=some q):jN h' d o es ep:=⟨k _ e.at_,e.ex,e.dat⟩
section
variable {X:Cx}{pins:List (Addr×Obj)}{σ:L2.St}{H:Hp}{s:Shared}{a:Addr}{kvs:List (List Key×V)}
theorem nS(I:Inv X pins σ H s)(e:Rd H a (.dT kvs)):(a==sysModules)=false/\kvs.length<=sizeLine/\∃o es ep,jN s.heap a o es ep/\es.size=kvs.length/\
  ∀(i:Nat)(en:DictEntry),es[i]? =some en->∃k v q,kvs[i]? =some (k,v)/\en.key=.ref q/\H q=some (.tup (k.map kV))/\RelV v en.val:=by
 obtain⟨z,hs,xs,kt,o,es,ep,ho,hx,hdat,hes,_,_⟩:=kG I.hok e;refine⟨hs,z,o,es,ep,⟨ho,hx,hdat⟩,?_,fun i en hen=>?_⟩
 ·rw[size_of_entries hes,<- Paired.length kt]
 ·rw[entry_at hes i]at hen;cases hxs:xs[i]? with
  |none=>rw[hxs]at hen;cases hen
  |some x=>rw[hxs]at hen;obtain⟨⟨k,v⟩,hk,e1,e2,e3⟩:=iL kt hxs;cases hen;exact⟨k,v,x.2.1,hk,rfl,e2,e3⟩
end
section
variable {prog:Program}{w:World}{A:Around}{E:Value->Shared->Prop}{s:Shared}{d:Addr}{o:Obj}{es:Array DictEntry}{ep:Nat}
theorem AD(hs:(d==sysModules)=false):MeetsIn prog w (Builtin.«dict.__len__» ⟨[.ref d],[]⟩) fun _ R s=>∃o es ep,jN s.heap d o es ep/\R (.ok (.ret (.int es.size s.toks))) {s with toks:=s.toks+1}:=
 .of_wp fun A R s q=>by
  obtain⟨o,es,ep,e,hR⟩:=q;show wpAny _ _ (dictSize d>>=fun _=>_) _ _ s
  delta dictSize
  exact wpAny_bind (wpAny_bind (wpAny_dictEntries e.at_ e.dat (wpAny_pure (show wpAny _ _ (Builtin.Dict.pendingCount d>>=fun _=>_) _ _ s from wpAny_bind (wpAny_pendingCount_other hs (wpAny_ret_mkInt (by rw[Nat.add_zero];exact hR)))))))
theorem DH{Q:Value->Shared->Prop}(hs:(d==sysModules)=false)(e:jN s.heap d o es ep)(hf:(es.size:Int)<2^63)(hQ:Q (.int es.size (s.toks+1)) {s with toks:=s.toks+1+1}):
  wpAny (model prog w) A (Builtin.«len» ⟨[.ref d],[]⟩) (fun fin s'=>∃r,fin=.done (.ret r)/\Q r s') E s:=by
 delta Builtin.«len»
 refine wpAny_bind (m:=oneArg "len" _) (wpAny_pure (wpAny_bind (m:=callSpecial? (.ref d) (Str.ofString "__len__")) (wpAny_callSpecial?_slot (name:=Str.ofString "__len__") e.ty F.slot_dict_len (call_meetsIn F.slot_dict_len e.ty F.entry_dict_len (F.args_dict_len_1 _) (AD hs) ⟨o,es,ep,e,?_⟩))));show wpAny _ _ _ _ _ {s with toks:=s.toks+1}
 refine wpAny_bind (wpAny_holding (wpAny_pure (wpAny_bind (wpAny_letGo ?_))));have n1:¬(((es.size:Nat):Int)<0):=by omega
 have n2:¬(((es.size:Nat):Int)>=2^63):=by omega
 show wpAny _ _ (if((es.size:Nat):Int)<0 then _ else if((es.size:Nat):Int)>=2^63 then _ else _) _ _ _
 rw[if_neg n1,if_neg n2];exact wpAny_bind (wpAny_mkInt (wpAny_pure ⟨_,rfl,hQ⟩))
theorem K2(hh:A.handled=none)(I:Addr)(hne:d≠I)(hx:o.ExactDict)(hdat:o.data=.dict es ep):Walks prog w A I [I,d] [I] es.size (fun i v=>∃en,es[i]? =some en/\v=en.key) (fun i h=>h.IsKeyIter I d i es.size ep/\jN h d o es ep) where
 sub:=fun b hb=>by rw[List.mem_singleton]at hb;rw[hb];exact List.mem_cons_self
 frame:=fun _ _ _ st k=>⟨st.1.at fun q e=>k I List.mem_cons_self q e,st.2.to fun q e=>k d (List.mem_cons_of_mem _ List.mem_cons_self) q e⟩
 item:=fun i s Q E hi st hQ=>by
  have he:es[i]? =some es[i]:=Array.getElem?_eq_getElem hi;refine lS st.1 st.2.at_ hdat rfl he fun h' it' sb=>?_
  exact hQ _ h' s.toks ⟨_,he,rfl⟩ ⟨it',st.2.to fun q e=>(sb.2 d hne).trans e⟩ fun b q hb e=>(sb.2 b (fun z=>hb (z▸List.mem_cons_self))).trans e
 done:=fun s Q E st hQ=>j5 hh st.1 st.2.at_ hdat rfl (Nat.le_refl _) fun h' eb=>hQ h' s.toks fun b q hb e=>eb b q (fun z=>hb (z▸List.mem_cons_self)) e
 self:=fun _ _ _ _ st hQ=>wpAny_pyIter_keyiter st.1 hQ
theorem MD(hs:(d==sysModules)=false)(hx:o.ExactDict)(hdat:o.data=.dict es ep):W.KdlSrc prog w "dict" d d es.size (fun i v=>∃en,es[i]? =some en/\v=en.key) (fun h=>jN h d o es ep) where
 type:=fun _ e=>e.ty
 there:=fun _ e=>⟨Heap.lt_size e.at_,Heap.lt_size e.at_⟩
 keep:=fun _ _ e k=>e.to fun q z=>k d (.inl rfl) q z
 notList:=by decide
 notTuple:=by decide
 hint:=fun _ _ _ _ e hq=>W.kdl_hint_dict e.ty hq
 iter:=fun A s hh e=>⟨_,_,fun _ _ hq=>pA hs e.at_ e.ex e.dat hq,K2 hh _ (Nat.ne_of_lt (Heap.lt_size e.at_)) hx hdat,⟨⟨_,Heap.get?_push_size _ rfl,rfl,rfl⟩,e.to fun q z=>Heap.get?_push_of_some _ z⟩⟩
end
noncomputable def kX(H:Hp)(qs:List V)(kvs:List (List Key×V)):Prop:=Paired (fun v (kv:List Key×V)=>∃q,v=.ref q/\H q=some (.tup (kv.1.map kV))) qs kvs
theorem BW{H:Hp}{kvs:List (List Key×V)}:∀{us:List Value},us.length=kvs.length->(∀(j:Nat)(u:Value),us[j]? =some u->∃k v q,kvs[j]? =some (k,v)/\u=.ref q/\H q=some (.tup (k.map kV)))->∃qs,Vals qs us/\kX H qs kvs:=by
 induction kvs with
 |nil=>intro us hl _;exact⟨[],by rw[List.eq_nil_of_length_eq_zero hl];exact .nil,.nil⟩
 |cons kv r ih=>
  intro us hl hu;match us,hl with
  |u::us,hl=>
   obtain⟨k,v,q,e1,e2,e3⟩:=hu 0 u rfl;obtain⟨qs,h1,h2⟩:=ih (us:=us) (by simpa using hl) fun j x hx=>by simpa using hu (j+1) x (by simpa using hx)
   have e1:kv=(k,v):=by simpa using e1
   exact⟨.ref q::qs,.cons e2 h1,.cons ⟨q,rfl,by rw[e1];exact e3⟩ h2⟩
section
variable {X:Cx}
theorem lJ:jM X (.builtin "len") (fun xs H Q=>∃a kvs,xs=[V.ref a]/\Rd H a (.dT kvs)/\Q (.int kvs.length) H):=by intro pins s σ H xs us Q I r h;obtain⟨a,kvs,rfl,ha,q⟩:=h;obtain⟨u,rfl,ru⟩:=vals1 r;cases ru;obtain⟨hs,hz,o,es,ep,e,sz,_⟩:=nS I ha;have hn:=m9;exact Calls.call_function_entry kind_len plain_len entry_len (args_len1 _) (DH hs e (by rw[sz];omega) ⟨.int kvs.length,H,I.tok _,⟨_,by rw[sz]⟩,q⟩)
theorem B9(hc:X.calm=true):jM X (.type "list") (fun xs H Q=>∃a kvs,xs=[V.ref a]/\Rd H a (.dT kvs)/\∀l qs,H l=none->kX H qs kvs->Q (.ref l) (upd H l (.lst qs))):=by
 intro pins s σ H xs us Q I r h;obtain⟨a,kvs,rfl,ha,q⟩:=h;obtain⟨u,rfl,ru⟩:=vals1 r;cases ru;obtain⟨hs,hz,o,es,ep,e,sz,en⟩:=nS I ha;refine W.kdl_call (MD hs e.ex e.dat) (I.ok.hd hc) e (by rw[sz];exact hz) fun h' tk acc c kp hl it=>?_
 obtain⟨qs,v1,v2⟩:=BW (H:=H) (kvs:=kvs) (us:=acc.toList) (by rw[Array.length_toList,it.1,sz]) fun j x hx=>by obtain⟨n,hn,e2⟩:=it.2 j x (by rw[<- Array.getElem?_toList];exact hx);obtain⟨k,v,p,e3,e4,e5,_⟩:=en j n hn;exact⟨k,v,p,e3,e2.trans e4,e5⟩
 have hlen:qs.length<=sizeLine:=by rw[pairs_len v2];exact hz
 exact⟨.ref s.heap.objs.size,_,I.laid (a:=s.heap.objs.size) (o:=.lst qs) kp (Nat.le_refl _) ⟨hlen,acc.toList,c,v1,by rw[Array.toArray_toList];exact hl⟩,rfl,q _ qs (I.hok.fresh (Nat.le_refl _)) v2⟩
end
end L3
namespace L3
open PySem PySem.Spec PyProof.Rows L2
theorem zH(C:List (Nat×Nat))(q:PI):(RM.aK (CS C) q).isSome=decide (q∈RM.iW C):=by rw[Bool.eq_iff_iff,LV,decide_eq_true_iff];rfl
theorem mU{i:Nat}{x:V}(h:([.int 0,.int 1,.int 2,.int 3]:List V)[i]? =some x):i<4/\x=.int (i:Nat):=by
 have hi:i<4:=(List.getElem?_eq_some_iff.mp h).1;refine⟨hi,?_⟩;have cs:i=0\/i=1\/i=2\/i=3:=by omega
 rcases cs with rfl|rfl|rfl|rfl<;>(cases h;rfl)
theorem not_true{b:Bool}(h:¬b=true):b=false:=by simpa using h
def tQ(H:Hp)(p:Addr):Nat:=match H p with|some (.lst xs)=>xs.length|_=>0
def lO(H:Hp)(p:Addr):Nat:=match H p with|some (.dT kvs)=>kvs.length|_=>0
theorem lF{H:Hp}{p:Addr}{xs:List V}(h:H p=some (.lst xs)):tQ H p=xs.length:=by unfold tQ;rw[h]
theorem BU{H:Hp}{p:Addr}{kvs:List (List Key×V)}(h:H p=some (.dT kvs)):lO H p=kvs.length:=by unfold lO;rw[h]
theorem xV{H:Hp}{p:Addr}{kvs:List (PI×V)}(h:D2 H p kvs):lO H p=kvs.length:=by rw[BU h,eB]
theorem G3{H:Hp}{p:Addr}{kvs:List (PI3×V)}(h:D3 H p kvs):lO H p=kvs.length:=by rw[BU h,eB]
theorem E7(xs:List V):E8 xs none (some 1)=xs.take 1:=by
 unfold E8;cases xs with
 |nil=>rfl
 |cons x r=>
  have e:HT.sIx (x::r).length (x::r).length (some 1)=1:=by simp[HT.sIx]
  have e0:HT.sIx (x::r).length 0 none=0:=by simp[HT.sIx]
  rw[e,e0];rfl
theorem xZ{H:Hp}{qs:List V}{kvs:List (PI×V)}(h:kX H qs (kvF k2 kvs)):Paired (T2 H) qs (kvs.map (·.1)):=by
 unfold kX kvF at h;induction kvs generalizing qs with
 |nil=>cases h;exact .nil
 |cons x r ih=>
  rw[List.map_cons]at h;cases h with
  |cons h t=>exact .cons h (ih t)
theorem sG{kvs:List (PI×V)}{i:Nat}{k:List Key}{v:V}(h:(kvF k2 kvs)[i]? =some (k,v)):∃p,kvs[i]? =some (p,v)/\k=k2 p:=by
 unfold kvF at h;rw[List.getElem?_map]at h;cases e:kvs[i]? with
 |none=>rw[e]at h;cases h
 |some x=>rw[e]at h;cases h;exact⟨x.1,rfl,rfl⟩
theorem AI{kvs:List (PI3×V)}{i:Nat}{k:List Key}{v:V}(h:(kvF k3 kvs)[i]? =some (k,v)):∃p,kvs[i]? =some (p,v)/\k=k3 p:=by
 unfold kvF at h;rw[List.getElem?_map]at h;cases e:kvs[i]? with
 |none=>rw[e]at h;cases h
 |some x=>rw[e]at h;cases h;exact⟨x.1,rfl,rfl⟩
end L3
namespace L3
open PySem PySem.Spec PyProof.Rows L2
def IV{κ:Type}(l:List (κ×Int)):List (κ×V):=l.map fun x=>(x.1,V.int x.2)
theorem jH{κ:Type}(l:List (κ×Int)):(IV l).map (·.1)=l.map (·.1):=by simp[IV]
theorem fB{κ:Type}(l:List (κ×Int)):(IV l).length=l.length:=by simp[IV]
theorem fW{κ:Type}[DecidableEq κ](k:κ):∀l:List (κ×Int),RM.aK (IV l) k=(RM.aK l k).map V.int
 |[]=>rfl
 |x::r=>by
  show RM.aK ((x.1,V.int x.2)::IV r) k=_
  rw[RM.cD,RM.cD,fW k r];by_cases e:x.1=k
  ·rw[if_pos e,if_pos e];rfl
  ·rw[if_neg e,if_neg e]
theorem t9{κ:Type}[DecidableEq κ](k:κ)(v:Int)(l:List (κ×Int)):RM.dD (IV l) k (.int v)=IV (RM.dD l k v):=by
 unfold RM.dD;have e:((IV l).any fun x=>decide (x.1=k))=l.any fun x=>decide (x.1=k):=by unfold IV;rw[List.any_map];rfl
 rw[e];split
 ·unfold IV;rw[List.map_map,List.map_map];apply List.map_congr_left;intro x _;simp only[Function.comp];split<;>rfl
 ·simp[IV]
theorem zF{κ:Type}[DecidableEq κ](k:κ)(l:List (κ×Int)):(RM.aK (IV l) k).isSome=(RM.aK l k).isSome:=by rw[fW];cases RM.aK l k<;>rfl
theorem a9.both{H H1:Hp}{c:Addr}{x:HO}(e:a9 H H1):a9 (L2.upd H c x) (L2.upd H1 c x):=fun b o h=>by
 by_cases hb:b=c
 ·subst hb;rw[a7]at h ⊢;exact h
 ·rw[aA hb]at h ⊢;exact e b o h
theorem gG{H:Hp}{c h:Addr}{o:HO}{u:HO}(hc:H c=some u)(hh:H h=none):(L2.upd H c o) h=none:=by rw[aA (aG hc hh).symm];exact hh
end L3
namespace L3
open PySem PySem.Spec PyProof.Rows L2
def But(a:Addr)(H H':Hp):Prop:=∀b u,b≠a->H b=some u->H' b=some u
theorem But.refl(a:Addr)(H:Hp):But a H H:=fun _ _ _ h=>h
theorem But.trans{a:Addr}{H H1 H2:Hp}(x:But a H H1)(y:But a H1 H2):But a H H2:=fun b u n h=>y b u n (x b u n h)
theorem a9.but{a:Addr}{H H':Hp}(e:a9 H H'):But a H H':=fun b u _ h=>e b u h
theorem But.here{a:Addr}{H H1:Hp}{o:HO}(x:But a H H1):But a H (L2.upd H1 a o):=fun b u n h=>by rw[aA n];exact x b u n h
theorem But.put{a x:Addr}{H H1:Hp}{o:HO}(e:But a H H1)(h:H x=none):But a H (L2.upd H1 x o):=fun b u n q=>by rw[aA (aG q h)];exact e b u n q
theorem T2.but{a:Addr}{H H':Hp}{v:V}{p:PI}{u:HO}(h:T2 H v p)(e:But a H H')(ha:H a=some u)(hu:∀xs,u≠ .tup xs):T2 H' v p:=by obtain⟨b,rfl,q⟩:=h;exact⟨b,rfl,e b _ (eT q ha (fun z=>hu _ z.symm)) q⟩
theorem But.same{a:Addr}{H0 H H':Hp}(e:But a H H')(s:a9 H0 H)(ha:H0 a=none):a9 H0 H':=fun b u q=>e b u (aG q ha) (s b u q)
theorem qX{p:Prop}{i:Decidable p}(h:(!@decide p i)=true):¬p:=fun z=>by rw[decide_eq_true z]at h;cases h
theorem nG{p:Prop}{i:Decidable p}(h:¬(!@decide p i)=true):p:=by
 by_cases z:p
 ·exact z
 ·rw[decide_eq_false z]at h;exact absurd rfl h
def KS{κ:Type}(l:List κ):List (κ×V):=l.map fun p=>(p,V.bl true)
theorem wN{κ:Type}(l:List κ):(KS l).map (·.1)=l:=by simp[KS,Function.comp_def]
theorem BG{κ:Type}(l:List κ):(KS l).length=l.length:=by simp[KS]
theorem HE{κ:Type}[DecidableEq κ](l:List κ)(k:κ):(RM.aK (KS l) k).isSome=decide (k∈l):=by rw[Bool.eq_iff_iff,RM.aV,wN,decide_eq_true_iff]
theorem JQ{κ:Type}[DecidableEq κ]{l:List κ}{k:κ}(h:k∉l):RM.dD (KS l) k (.bl true)=KS (l++[k]):=by rw[RM.fM _ (by rw[wN];exact h)];simp[KS]
end L3
namespace L3
open PySem PySem.Spec PyProof.Rows L2
def ixs(l:List Int):List (Int ⊕ List Nat):=l.map Sum.inl
def leI(a b:List Int):Prop:=lexLt itemOrd (ixs b) (ixs a)=false
abbrev dY:Nat->Bool:=fun _=>false
theorem lR:∀{ks:List Int}{us:List Value}(i:Nat),Vals (ks.map V.int) us->tupItems dY i us=some (ixs ks)
 |[],us,i,r=>by rw[List.map_nil]at r;cases r;rfl
 |k::ks,us,i,r=>by
  rw[List.map_cons]at r;cases r with
  |cons h t=>
   obtain⟨tk,rfl⟩:=h;show(if dY i=true then none else(tupItems dY (i+1) _).map (Sum.inl k::·))=_
   rw[if_neg (show¬dY i=true from Bool.false_ne_true),lR (i+1) t];rfl
section
variable {X:Cx}{pins:List (Addr×Obj)}{σ:L2.St}{H:Hp}{s:Shared}
theorem L5(I:Inv X pins σ H s){b:Addr}{ks:List Int}(h:H b=some (.tup (ks.map V.int))):G.tupKeyC s.heap dY (.ref b)=some (ixs ks):=by
 obtain⟨its,rv,⟨o,ho,hc,n,hd⟩,_⟩:=I.tuple (SqT.of (K:=X.K) h);have e1:G.isTupObj s.heap (.ref b)=true:=by
  show(match s.heap.get? b with|some o=>(match o.cls with| .type n=>n== "tuple" |_=>false)|none=>false)=true
  rw[ho];show(match o.cls with| .type n=>n== "tuple" |_=>false)=true
  rw[hc];rfl
 have e2:tupKey s.heap dY (.ref b)=some (ixs ks):=by
  show(match s.heap.get? b with|some o=>(match o.data with| .seq xs _=>tupItems dY 0 xs.toList|_=>none)|none=>none)=_
  rw[ho];show(match o.data with| .seq xs _=>tupItems dY 0 xs.toList|_=>none)=_
  rw[hd];exact lR 0 rv
 unfold G.tupKeyC;rw[if_pos e1,e2]
theorem K3(I:Inv X pins σ H s){b:Addr}{ks:List Int}(h:H b=some (.tup (ks.map V.int)))(hne:ks≠[]):∃f,TupOf s.heap dY (.ref b) f:=by
 obtain⟨its,rv,⟨o,ho,hc,n,hd⟩,_⟩:=I.tuple (SqT.of (K:=X.K) h);cases ks with
 |nil=>exact absurd rfl hne
 |cons k ks=>
  rw[List.map_cons]at rv;cases rv with
  |cons r t=>obtain⟨tk,rfl⟩:=r;exact⟨.int k tk,b,o,_,n,rfl,ho,hc,hd,rfl,fun _=>⟨k,tk,rfl⟩,fun z=>nomatch z⟩
theorem BI(I:Inv X pins σ H s){kf:Addr->List Int}:∀{bs as:List Addr},Paired (fun b a=>H b=some (.tup ((kf a).map V.int))) bs as->(∀a∈as,kf a≠[])->∃fs,TupsOf s.heap dY (bs.map Value.ref) fs/\fs.length=bs.length
 |_,_,.nil,_=>⟨[],.nil,rfl⟩
 |_,_,.cons h t,hne=>by
  obtain⟨fs,h1,h2⟩:=BI I t fun a ha=>hne a (List.mem_cons_of_mem _ ha)
  obtain⟨f,hf⟩:=K3 I h (hne _ List.mem_cons_self);exact⟨f::fs,.cons hf h1,by rw[List.length_cons,List.length_cons,h2]⟩
end
def rr(p:Addr×Addr):Keyed:=(.ref p.1,.ref p.2)
def adr:Value->Addr
 | .ref a=>a
 |_=>0
def un(p:Keyed):Addr×Addr:=(adr p.1,adr p.2)
theorem r6:∀(bs as:List Addr),(bs.map Value.ref).zip (as.map Value.ref)=(bs.zip as).map rr
 |[],as=>rfl
 |b::bs,[]=>rfl
 |b::bs,a::as=>by
  show(Value.ref b,Value.ref a)::(bs.map Value.ref).zip (as.map Value.ref)=rr (b,a)::(bs.zip as).map rr
  rw[r6 bs as];rfl
theorem uM{α β:Type}{R:α->β->Prop}:∀{l:List α}{m:List β},Paired R l m->∀p∈l.zip m,R p.1 p.2
 |_,_,.nil,p,h=>by cases h
 |_,_,.cons r t,p,h=>by
  rcases List.mem_cons.mp h with rfl|h
  ·exact r
  ·exact uM t p h
theorem BH{α β:Type}:∀{l:List α}{m:List β},l.length=m.length->(l.zip m).map (·.2)=m
 |[],[],_=>rfl
 |a::l,b::m,h=>by
  show b::(l.zip m).map (·.2)=b::m
  rw[BH (by simpa using h)]
theorem F5{h:Heap}{kf:Addr->List Int}{bs as:List Addr}{xs:Array Keyed}(hl:bs.length=as.length)(hk:∀p∈bs.zip as,G.tupKeyC h dY (.ref p.1)=some (ixs (kf p.2)))
  (hp:xs.Perm ((bs.map Value.ref).toArray.zip (as.map Value.ref).toArray)) (hs:SortedToK (G.tupKindC h dY) xs xs.size):
  ∃out:List Addr,(xs.map (·.2)).toList=out.map Value.ref/\out.Perm as/\out.Pairwise fun a b=>leI (kf a) (kf b):=by
 have hp2:xs.toList.Perm ((bs.zip as).map rr):=by have:=Array.perm_iff_toList_perm.mp hp;rw[ksk_zip,List.toList_toArray,r6]at this;exact this
 have e0:xs.toList=(xs.toList.map un).map rr:=by
  rw[List.map_map]
  conv=>lhs;rw[<- List.map_id xs.toList]
  apply List.map_congr_left;intro p hpm;obtain⟨q,_,rfl⟩:=List.mem_map.mp (hp2.mem_iff.mp hpm);rfl
 have hp3:(xs.toList.map un).Perm (bs.zip as):=by
  have:=hp2.map un;rw[List.map_map]at this;have e:(bs.zip as).map (un∘rr)=bs.zip as:=by
   conv=>rhs;rw[<- List.map_id (bs.zip as)]
   rfl
  rw[e]at this;exact this
 refine⟨(xs.toList.map un).map (·.2),?_,?_,?_⟩
 ·rw[Array.toList_map]
  conv=>lhs;rw[e0]
  rw[List.map_map,List.map_map,List.map_map,List.map_map];rfl
 ·have:=hp3.map (·.2);rw[BH hl]at this;exact this
 ·rw[List.pairwise_map,List.pairwise_iff_getElem];intro i j hi hj hij;have hi':i<xs.size:=by simpa using hi
  have hj':j<xs.size:=by simpa using hj
  have q:=hs i j (Nat.le_of_lt hij) hj';have kk:∀(n:Nat)(hn:n<xs.size)(hn2:n<(xs.toList.map un).length),KK (G.tupKindC h dY) xs n=ixs (kf ((xs.toList.map un)[n].2)):=by
   intro n hn hn2;have hm:(xs.toList.map un)[n]∈bs.zip as:=hp3.mem_iff.mp (List.getElem_mem hn2);have hk2:=hk _ hm;have ex:xs[n]=rr ((xs.toList.map un)[n]):=by
    have h1:xs.toList[n]'(by simpa using hn)=rr ((xs.toList.map un)[n]):=by
     have:xs.toList[n]? =((xs.toList.map un).map rr)[n]? :=by rw[<- e0]
     rw[List.getElem?_eq_getElem (by simpa using hn),List.getElem?_map,List.getElem?_eq_getElem hn2]at this;exact Option.some.inj this
    rw[<- h1];simp
   show(match xs[n]? with|some p=>((G.tupKindC h dY).keyOf p.1).getD (G.tupKindC h dY).dflt|none=>(G.tupKindC h dY).dflt)=_
   rw[Array.getElem?_eq_getElem hn,ex];show(G.tupKeyC h dY (.ref _)).getD []=_
   rw[hk2];rfl
  rw[kk i hi' hi,kk j hj' hj]at q;exact q
section
variable {X:Cx}{pins:List (Addr×Obj)}{σ:L2.St}{H:Hp}{s:Shared}{k:Nat}{f:Addr}{fd:FuncData}{par:Str}{sp:Sp}
theorem KD{Q:VK}{us:List Value}{vs:List V}(F:bM X.prog X.w X.K X.mg X.base CX0 k f fd [par] sp)(hr:cQ k X.A.in1.in1)(hb:Binds X.K fd [par] [])(I:Inv X pins σ H s)(r:Vals vs us)(h:sp vs H Q E0):
  wpAny (model X.prog X.w) X.A.in1.in1 (call (.ref f) us) (EP X pins σ Q) (fun _ _=>False) s:=by
 have hl:(us++[]).length=[par].length:=by rw[List.append_nil,<- r.length];exact F.len _ _ _ _ h
 refine wpAny_call (codeAny_mono (F.run X.A.in1.in1 X.stack s H ⟨us,[]⟩ (us++[]) vs Q E0 hr I.GP.in1.in1 (hb s us I.kIn hl) (by rw[List.append_nil];exact r) h) fun o s' hq=>?_);cases o with
 |error e=>exact hq.elim
 |ok fl=>
  cases fl with
  |ret u=>exact I.after hq
  |next=>exact hq.elim
  |brk=>exact hq.elim
  |cont=>exact hq.elim
theorem EV{L kS:Addr}{od:Obj}{e1:Nat}{ks:List V}{out:List Addr}{st:SortSt}{P:PySem.Fin->Shared->Prop}(I:Inv X pins σ H s)(hL:H L=some (.frz od (.lst [])))(hn:∀o' u',X.H_0 L≠some (.frz o' u'))(ho:od=seqObj "list" #[] e1)
  (hK:H kS=some (.lst ks)) (hne:kS≠L) (eo:((arrOf st).map (·.2)).toList=out.map Value.ref) (hz:out.length<=sizeLine) (hf:failedOf st=none)
  (h:∀s',Inv X pins σ (upd (upd (upd H kS (.lst [])) L (.lst [])) L (.lst (out.map V.ref))) s'->P (.done (.ret .none)) s'):wpAny (model X.prog X.w) X.A.in1.in1 (ksk_tail L false e1 (.ref kS) st) P X.xe s:=by
 obtain⟨zk,itk,nk,rk,lk,ek⟩:=I.DD hK;have I1:=I.DE (t':=s.toks) (its':=[]) (f:=fun _=>#[]) hK ek rfl .nil (Nat.zero_le _);have hL1:(upd H kS (.lst [])) L=some (.frz od (.lst [])):=by rw[aA hne.symm];exact hL
 have eL:(s.heap.update kS (Obj.mapSeq fun _=>#[])).get? L=some (seqObj "list" #[] e1):=by rw[<- ho];exact(I1.hok L _ hL1).1
 have I2:=I1.unlock hL1 hn;have eo2:(arrOf st).map (·.2)=(out.map Value.ref).toArray:=by rw[<- eo,Array.toArray_toList]
 have rv:∀l:List Addr,Vals (l.map V.ref) (l.map Value.ref):=fun l=>by
  induction l with
  |nil=>exact .nil
  |cons a l ih=>exact .cons rfl ih
 have I3:=I2.DE (t':=s.toks) (its:=[]) (its':=out.map Value.ref) (f:=fun _=>if false=true then((arrOf st).map (·.2)).reverse else(arrOf st).map (·.2)) a7 eL (by rw[if_neg Bool.false_ne_true];exact eo2) (rv out) (by rw[List.length_map];exact hz);unfold ksk_tail;dsimp only;refine wpAny_bind (listUpdate_at ek rfl ?_ (by rw[List.size_toArray,<- lk];exact zk) (Nat.zero_le _));refine wpAny_bind (wpAny_letGo (wpAny_bind (seqEpoch_at eL rfl ?_)));refine wpAny_bind (listUpdate_at eL rfl ?_ (Nat.zero_le _) (by rw[if_neg Bool.false_ne_true,eo2,List.size_toArray,List.length_map];omega));rw[hf];simp only[bne_self_eq_false,Bool.false_eq_true,if_false];exact wpAny_pure (h _ I3)
end
end L3
namespace L3
open PySem PySem.Spec PyProof.Rows L2
section
variable {X:Cx}{pins:List (Addr×Obj)}{σ:L2.St}{H:Hp}{s:Shared}{k:Nat}{f:Addr}{fd:FuncData}{par:Str}{sp:Sp}{kf:Addr->List Int}
theorem u6:∀l:List Addr,Vals (l.map V.ref) (l.map Value.ref)
 |[]=>.nil
 |_::l=>.cons rfl (u6 l)
theorem JE{L kS:Addr}{od:Obj}{e1:Nat}{bs as:List Addr}{P:PySem.Fin->Shared->Prop}(I:Inv X pins σ H s)(hL:H L=some (.frz od (.lst [])))(hn:∀o' u',X.H_0 L≠some (.frz o' u'))(ho:od=seqObj "list" #[] e1)
  (hK:H kS=some (.lst (bs.map V.ref))) (hne:kS≠L) (hp:Paired (fun b a=>H b=some (.tup ((kf a).map V.int))) bs as) (hk:∀a∈as,kf a≠[]) (hz:as.length<=sizeLine)
  (h:∀(out:List Addr)(s':Shared),out.Perm as->(out.Pairwise fun a b=>leI (kf a) (kf b))->Inv X pins σ (upd (upd (upd H kS (.lst [])) L (.lst [])) L (.lst (out.map V.ref))) s'->P (.done (.ret .none)) s'):
  wpAny (model X.prog X.w) X.A.in1.in1 (ksk_end L false (as.map Value.ref).toArray e1 (.ref kS) (bs.map Value.ref).toArray) P X.xe s:=by
 have hl:=pairs_len hp;have hkey:∀p∈bs.zip as,G.tupKeyC s.heap dY (.ref p.1)=some (ixs (kf p.2)):=fun p hm=>L5 I (uM hp p hm)
 have zs:((bs.map Value.ref).toArray.zip (as.map Value.ref).toArray).size=as.length:=by rw[Array.size_zip,List.size_toArray,List.size_toArray,List.length_map,List.length_map,hl,Nat.min_self]
 have fin:∀st:SortSt,(arrOf st).Perm ((bs.map Value.ref).toArray.zip (as.map Value.ref).toArray)->SortedToK (G.tupKindC s.heap dY) (arrOf st) (arrOf st).size->failedOf st=none->wpAny (model X.prog X.w) X.A.in1.in1 (ksk_tail L false e1 (.ref kS) st) P X.xe s:=by intro st h1 h2 h3;obtain⟨out,e,pm,pw⟩:=F5 hl hkey h1 h2;exact EV I hL hn ho hK hne e (by rw[pm.length_eq];exact hz) h3 fun s' I'=>h out s' pm pw I'
 unfold ksk_end;dsimp only;simp only[Bool.false_eq_true,if_false];by_cases h2:(as.map Value.ref).toArray.size<2
 ·rw[if_pos h2,if_pos h2];refine wpAny_bind (wpAny_pure ?_);rw[StateT.run_pure];refine wpAny_bind (wpAny_pure (fin (SortSt.mk' general' ((bs.map Value.ref).toArray.zip (as.map Value.ref).toArray) #[] 7 none) (Array.Perm.refl _) ?_ rfl));intro i j hij hj;have hj2:j<((bs.map Value.ref).toArray.zip (as.map Value.ref).toArray).size:=hj;rw[zs]at hj2;rw[List.size_toArray,List.length_map]at h2;have e:i=j:=by omega
  rw[e];exact KeyOrd.kle_refl _
 ·rw[if_neg h2,if_neg h2];rw[List.size_toArray,List.length_map]at h2;obtain⟨fs,ht,hfl⟩:=BI I hp hk;refine wpAny_bind (tup_kind (by omega) ht ?_);refine wpAny_bind (wpAny_mono (G.wpS_sortRunsSt (κ:=G.tupKindC s.heap dY) (kd:=tuples' true) (a₀:=(bs.map Value.ref).toArray.zip (as.map Value.ref).toArray) (st:=SortSt.mk' (tuples' true) ((bs.map Value.ref).toArray.zip (as.map Value.ref).toArray) #[] 7 none)
   (Q:=fun _ st=>(arrOf st).Perm ((bs.map Value.ref).toArray.zip (as.map Value.ref).toArray)/\SortedToK (G.tupKindC s.heap dY) (arrOf st) (arrOf st).size/\failedOf st=none)
   (G.tupC_ltAt true (G.KeepsTups.refl _)) (fun p hm=>?_) ⟨Array.Perm.refl _,rfl,rfl⟩ rfl (Stable.refl _) (by rw[zs];omega) fun st a1 a2 a3 _=>⟨a1,by rw[a1.size_eq];exact a3,a2⟩) ?_ fun _ _ e=>e)
  ·rw[ksk_zip,List.toList_toArray,r6]at hm;obtain⟨q,hq,rfl⟩:=List.mem_map.mp hm;exact⟨_,hkey q hq⟩
  ·rintro⟨⟨⟩,st⟩ s' ⟨rfl,h1,h3,h4⟩;exact fin st h1 h3 h4
theorem F7{L kS:Addr}{od:Obj}{e1:Nat}{as:List Addr}{P:PySem.Fin->Shared->Prop}{H0:Hp}(F:bM X.prog X.w X.K X.mg X.base CX0 k f fd [par] sp)(hr:cQ k X.A.in1.in1)(hb:Binds X.K fd [par] [])(I:Inv X pins σ H s)
  (hL:H0 L=some (.frz od (.lst []))) (hn:∀o' u',X.H_0 L≠some (.frz o' u')) (ho:od=seqObj "list" #[] e1) (hs0:a9 H0 H) (hK0:H0 kS=none) (hK:H kS=some (.lst [])) (hk:∀a∈as,kf a≠[]) (hz:as.length<=sizeLine)
  (turn:∀a∈as,∀H2,a9 H0 H2->sp [.ref a] H2 (fun r H3=>a9 H2 H3/\∃b,r=.ref b/\H3 b=some (.tup ((kf a).map V.int))) E0)
  (h:∀(out:List Addr)(H':Hp)(s':Shared),out.Perm as->(out.Pairwise fun a b=>leI (kf a) (kf b))->(∀b u,b≠L->H0 b=some u->H' b=some u)->H' L=some (.lst (out.map V.ref))->Inv X pins σ H' s'->P (.done (.ret .none)) s'):
  wpAny (model X.prog X.w) X.A.in1.in1 (ksk_rest L (.ref f) false (as.map Value.ref).toArray e1 (.ref kS)) P X.xe s:=by
 have hne:kS≠L:=(aG hL hK0).symm;unfold ksk_rest;refine wpAny_bind (wpAny_rule ?_);rw[List.forIn_toArray];refine wpAny_bind (ksk_fold (fun i s'=>∃(H':Hp)(bs:List Addr),Inv X pins σ H' s'/\a9 H0 H'/\H' kS=some (.lst (bs.map V.ref))/\Paired (fun b a=>H' b=some (.tup ((kf a).map V.int))) bs (as.take i)) (as.map Value.ref) 0 s ⟨H,[],I,hs0,hK,.nil⟩ ?_ ?_)
 ·rintro j x s' hx ⟨H',bs,I',s2,h2,pr⟩;rw[Nat.zero_add]at pr ⊢;rw[List.getElem?_map]at hx;obtain⟨a,ha,rfl⟩:∃a,as[j]? =some a/\x=.ref a:=by
   cases e:as[j]? with
   |none=>rw[e]at hx;cases hx
   |some a=>rw[e]at hx;exact⟨a,rfl,(Option.some.inj hx).symm⟩
  have hj:j<as.length:=(List.getElem?_eq_some_iff.mp ha).1;refine wpAny_bind (wpAny_attempt (wpAny_mono (KD F hr hb I' (vs:=[.ref a]) (.cons rfl .nil) (turn a (List.mem_of_getElem? ha) H' s2)) (fun v s3 q=>?_) fun _ _ z=>z.elim));obtain⟨v',H3,I3,rel,s3',b,rfl,hb3⟩:=q;cases rel;have h3:=s3' _ _ h2;obtain⟨zk,itk,nk,rk,lk,ek⟩:=I3.DD h3;have lb:=pairs_len pr;rw[List.length_take]at lb;rw[List.length_map]at lk;have eik:=iZ rk;dsimp only;refine wpAny_bind (listUpdate_at ek rfl ?_ (by rw[List.size_toArray];omega) (by rw[Array.size_push,List.size_toArray];omega));have I4:=I3.DE (t':=s3.toks) (its:=itk) (its':=itk++[.ref b]) (f:=(·.push (.ref b))) (ys:=(bs++[b]).map V.ref) h3 ek (by simp) (by rw[List.map_append];exact rk.append (.cons rfl .nil)) (by rw[List.length_map,List.length_append];simp;omega);refine wpAny_pure ⟨rfl,_,bs++[b],I4,a9.put (a9.trans s2 s3') hK0,a7,?_⟩;have keepT:∀(b':Addr)(xs:List V),H3 b'=some (.tup xs)->(upd H3 kS (.lst ((bs++[b]).map V.ref))) b'=some (.tup xs):=fun b' xs e=>by rw[aA (eT e h3 (by intro z;cases z))];exact e
  rw[RM.take_snoc ha];exact bD (R:=fun b' a'=>(upd H3 kS (.lst ((bs++[b]).map V.ref))) b'=some (.tup ((kf a').map V.int))) (keepT _ _ hb3) (aJ (fun b' a' e=>keepT _ _ (s3' _ _ e)) pr)
 ·rintro s' ⟨H',bs,I',s2,h2,pr⟩;rw[Nat.zero_add,List.length_map,List.take_of_length_le (Nat.le_refl _)]at pr;obtain⟨zk,itk,nk,rk,lk,ek⟩:=I'.DD h2;have eik:=iZ rk;subst eik;refine wpAny_bind (listItems_at ek rfl ?_);refine JE I' (s2 _ _ hL) hn ho h2 hne pr hk hz fun out s3 pm pw I3=>h out _ s3 pm pw (fun b u nb e=>?_) a7 I3
  rw[aA nb,aA nb,aA (aG e hK0)];exact s2 _ _ e
theorem F2{L:Addr}{as:List Addr}{P:PySem.Fin->Shared->Prop}(F:bM X.prog X.w X.K X.mg X.base CX0 k f fd [par] sp)(hr:cQ k X.A.in1.in1)(hb:Binds X.K fd [par] [])(I:Inv X pins σ H s)
  (hL:H L=some (.lst (as.map V.ref))) (hk:∀a∈as,kf a≠[])
  (turn:∀a∈as,∀H2,But L H H2->sp [.ref a] H2 (fun r H3=>a9 H2 H3/\∃b,r=.ref b/\H3 b=some (.tup ((kf a).map V.int))) E0)
  (h:∀(out:List Addr)(H':Hp)(s':Shared),out.Perm as->(out.Pairwise fun a b=>leI (kf a) (kf b))->But L H H'->H' L=some (.lst (out.map V.ref))->Inv X pins σ H' s'->P (.done (.ret .none)) s'):
  wpAny (model X.prog X.w) X.A.in1.in1 (ksk_tree L (.ref f) false) P X.xe s:=by
 obtain⟨z,its,n,r,hl,e⟩:=I.DD hL;have ei:=iZ r;subst ei;rw[List.length_map]at z;have I1:=I.DE (t':=s.toks) (its':=[]) (f:=fun _=>#[]) hL e rfl .nil (Nat.zero_le _);obtain⟨e1,he1⟩:∃e1,(s.heap.update L (Obj.mapSeq fun _=>#[])).get? L=some (seqObj "list" #[] e1):=⟨_,get?_update_seq e fun _=>#[]⟩
 have hn:=I1.uQ a7 trivial;obtain⟨od,I2⟩:=I1.lock a7 trivial;have eod:od=seqObj "list" #[] e1:=by have q:=(I2.hok L _ a7).1;rw[he1]at q;exact(Option.some.inj q).symm
 have b2:But L H (upd (upd H L (.lst [])) L (.frz od (.lst []))):=((But.refl L H).here).here;have hL2:(upd (upd H L (.lst [])) L (.frz od (.lst []))) L=some (.frz od (.lst [])):=a7;generalize (upd (upd H L (.lst [])) L (.frz od (.lst [])))=H2 at I2 b2 hL2;unfold ksk_tree;refine wpAny_bind (listItems_at e rfl ?_);refine wpAny_bind (listUpdate_at e rfl ?_ (by rw[List.size_toArray,List.length_map];exact z) (Nat.zero_le _));refine wpAny_bind (seqEpoch_at he1 rfl ?_);refine wpAny_bind (wpAny_newTuple ?_ (by rw[List.toList_toArray,List.length_map];exact z));have I3:Inv X pins σ H2 {s with heap:=(s.heap.update L (Obj.mapSeq fun _=>#[])).push {cls:=.type "tuple",data:=.seq (as.map Value.ref).toArray.toList.toArray}}:=I2.kept (t':=s.toks) fun b u q=>Heap.get?_push_of_some _ q
 refine wpAny_bind (wpAny_newList ?_ (Nat.zero_le _));refine wpAny_holding ?_;have fr:=I3.fresh;have I4:=I3.Q2 (t':=s.toks) (ys:=[]) (its:=[]) .nil (Nat.zero_le _);refine F7 F hr hb I4 hL2 hn eod (a9.upd fr) fr a7 hk z (fun a ha H3 s3=>turn a ha H3 (b2.trans (a9.but s3))) fun out H' s' pm pw bt hL' I'=>h out H' s' pm pw (b2.trans bt) hL' I'
end
end L3
namespace L3
open PySem PySem.Spec PyProof.Rows L2
section
variable {prog:Program}{w:World}{A:Around}{E:Value->Shared->Prop}{s:Shared}{d:Addr}{o:Obj}{es:Array DictEntry}{ep:Nat}
theorem GV{Q:List Value->Shared->Prop}(hs:(d==sysModules)=false)(hh:A.handled=none)(e:jN s.heap d o es ep)(hz:es.size<=sizeLine)
  (h:∀(vs:List Value) h' tk,vs.length=es.size->(∀(j:Nat)(v:Value),vs[j]? =some v->∃en,es[j]? =some en/\v=en.key)->(∀b q,s.heap.get? b=some q->h'.get? b=some q)->Q vs {s with heap:=h',toks:=tk}):wpAny (model prog w) A (collect (.ref d)) Q E s:=by
 have hd:d<s.heap.objs.size:=Heap.lt_size e.at_
 delta collect
 refine wpAny_bind (wpAny_runValue (codeAny_builtin entry_proto_collect' ?_));show wpAny _ _ (newList []>>=fun l=>again (.builtin "list.__iadd__" ⟨[l,.ref d],[]⟩)) _ _ s
 refine wpAny_bind (wpAny_newList (wpAny_pure ⟨Code.quiet_builtin _ (by decide+kernel),codeAny_builtin entry_list_iadd' ?_⟩) (Nat.zero_le _));have e2:jN (s.heap.push {cls:=.type "list",data:=.seq #[]}) d o es ep:=e.to fun q z=>Heap.get?_push_of_some _ z
 have hS:(s.heap.push {cls:=.type "list",data:=.seq #[]}).get? s.heap.objs.size=some {cls:=.type "list",data:=.seq #[] 0}:=Heap.get?_push_size _ rfl;rw[Around.under_plainId (show plainId "list.__iadd__" =true by decide+kernel) _];show wpAny _ _ (Builtin.List.listExtendWith (.ref s.heap.objs.size) (.ref d) (.ref s.heap.objs.size)) _ _ {s with heap:=s.heap.push {cls:=.type "list",data:=.seq #[]}}
 refine W.kdl_extend (R:=fun r s'=>match r with| .ok (.ret v)=>wpAny (model prog w) A (match v with| .ref a=>(do let o<- load a;match o.data with| .seq xs _=>pure xs.toList|_=>unsupported "internal:collect")|_=>unsupported "internal:collect") Q E s'| .ok _=>False| .error e=>E e s') (s:={s with heap:=s.heap.push {cls:=.type "list",data:=.seq #[]}}) (MD hs e.ex e.dat) hh e2 s.heap.objs.size (Nat.ne_of_gt hd) (Nat.ne_of_gt hd) (.ref s.heap.objs.size) 0 hS (fun h' tk acc c kp hl it=>?_) hz;show wpAny (model prog w) A (load s.heap.objs.size>>= _) Q E _
 refine wpAny_bind (wpAny_load hl ?_);refine wpAny_pure (h acc.toList h' tk (by rw[Array.length_toList];exact it.1) (fun j v z=>it.2 j v (by rw[<- Array.getElem?_toList];exact z)) fun b q z=>?_);exact kp b q (Nat.ne_of_lt (Heap.lt_size z)) (Heap.get?_push_of_some _ z)
end
section
variable {X:Cx}{pins:List (Addr×Obj)}{σ:L2.St}{H:Hp}{s:Shared}{k:Nat}{f:Addr}{fd:FuncData}{par:Str}{sp:Sp}{kf:Addr->List Int}
theorem rG{l:Addr}{as:List Addr}{Q:VK}(F:bM X.prog X.w X.K X.mg X.base CX0 k f fd [par] sp)(hr:cQ k X.A.in1.in1)(hb:Binds X.K fd [par] [])(I:Inv X pins σ H s)(hz:as.length<=sizeLine)
  (col:∀Q':List Value->Shared->Prop,(∀h' tk,(∀b q,s.heap.get? b=some q->h'.get? b=some q)->Q' (as.map Value.ref) {s with heap:=h',toks:=tk})->wpAny (model X.prog X.w) X.A.in1 (collect (.ref l)) Q' X.xe s)
  (hk:∀a∈as,kf a≠[]) (turn:∀a∈as,∀H2,a9 H H2->sp [.ref a] H2 (fun r H3=>a9 H2 H3/\∃b,r=.ref b/\H3 b=some (.tup ((kf a).map V.int))) E0)
  (h:∀(L:Addr)(out:List Addr)(H':Hp),H L=none->out.Perm as->(out.Pairwise fun a b=>leI (kf a) (kf b))->a9 H H'->H' L=some (.lst (out.map V.ref))->Q (.ref L) H'):
  wpAny (model X.prog X.w) X.A (call (.builtin "sorted") [.ref l] [(Str.ofString "key",.ref f)]) (EP X pins σ Q) X.xe s:=by
 refine call_function_entry_kw kind_sorted plain_sorted entry_sorted (ksk_s1 _ _) ?_
 delta Builtin.«sorted»
 refine wpAny_bind (m:=checkCount "sorted" 1 1 _) (wpAny_pure (wpAny_bind (col _ fun h1 tk1 k1=>?_)));refine wpAny_bind (wpAny_newList ?_ (by rw[List.length_map];exact hz));have I1:Inv X pins σ H {s with heap:=h1,toks:=tk1}:=I.kept k1;have fr:=I1.fresh;have I2:=I1.Q2 (t':=tk1) (u6 as) (by rw[List.length_map];exact hz);have hty:({s with heap:=h1.push {cls:=.type "list",data:=.seq (as.map Value.ref).toArray},toks:=tk1}:Shared).TypeIs (.ref h1.objs.size) "list" :=⟨_,Heap.get?_push_size _ rfl,rfl⟩;refine wpAny_bind (wpAny_holding (wpAny_call_entry_kw slot_list_sort hty entry_list_sort ?_ (ksk_l1 _ _)));show wpAny (model X.prog X.w) X.A.in1.in1 (Builtin.«list.sort» ⟨[.ref h1.objs.size],[(Str.ofString "key",.ref f)]⟩) _ _ _
 rw[ksk_t1];refine F2 F hr hb I2 a7 hk (fun a ha H2 b2=>turn a ha H2 (But.same b2 (a9.upd fr) fr)) fun out H' s' pm pw bt hL I'=>?_
 exact⟨_,rfl,wpAny_pure ⟨_,rfl,.ref h1.objs.size,H',I',rfl,h _ out H' fr pm pw (But.same bt (a9.upd fr) fr) hL⟩⟩
end
noncomputable def M3(K:W.Frag)(sp:Sp)(t:TA):TE:=fun σ H Q=>t σ H fun vs H1=>∃(l:Addr)(as:List Addr)(kf:Addr->List Int),vs=[.ref l]/\SqL K H1 l (as.map V.ref)/\(∀a∈as,kf a≠[])/\
 (∀a∈as,∀H2,a9 H1 H2->sp [.ref a] H2 (fun r H3=>a9 H2 H3/\∃b,r=.ref b/\H3 b=some (.tup ((kf a).map V.int))) E0)/\
 ∀(L:Addr)(out:List Addr)(H':Hp),H1 L=none->out.Perm as->(out.Pairwise fun a b=>leI (kf a) (kf b))->a9 H1 H'->H' L=some (.lst (out.map V.ref))->Q (.ref L) H'
noncomputable def K6(sp:Sp)(t:TA):TE:=fun σ H Q=>t σ H fun vs H1=>∃(d:Addr)(kvs:List (List Key×V)),vs=[.ref d]/\Rd H1 d (.dT kvs)/\∀as:List Addr,kX H1 (as.map V.ref) kvs->∃kf:Addr->List Int,(∀a∈as,kf a≠[])/\
 (∀a∈as,∀H2,a9 H1 H2->sp [.ref a] H2 (fun r H3=>a9 H2 H3/\∃b,r=.ref b/\H3 b=some (.tup ((kf a).map V.int))) E0)/\
 ∀(L:Addr)(out:List Addr)(H':Hp),H1 L=none->out.Perm as->(out.Pairwise fun a b=>leI (kf a) (kf b))->a9 H1 H'->H' L=some (.lst (out.map V.ref))->Q (.ref L) H'
theorem uS{H:Hp}:∀{qs:List V}{kvs:List (List Key×V)},kX H qs kvs->∃as:List Addr,qs=as.map V.ref
 |_,_,.nil=>⟨[],rfl⟩
 |_,_,.cons ⟨q,e,_⟩ t=>by obtain⟨as,rfl⟩:=uS t;exact⟨q::as,by rw[e];rfl⟩
section
variable {X:Cx}{k:Nat}{y par:Str}{sp:Sp}{e:Expr}{ta:TA}{p p2 p3 pos:Pos}
theorem uK{Qs:VK->List V->Hp->Prop}(hg:Gl X "sorted")(hm:X.mg "sorted" =none)(hy:Gl X y){f:Addr}(hmf:X.mg y=some (.ref f))(ha:PA X [e] ta)(hdy:(y==("__debug__" : Str))=false)
  (run:∀(pins:List (Addr×Obj))(s:Shared)(σ:L2.St)(H:Hp)(vs:List V)(us:List Value)(Q:VK),Inv X pins σ H s->Vals vs us->Qs Q vs H->wpAny (model X.prog X.w) X.A (call (.builtin "sorted") us [(Str.ofString "key",.ref f)]) (EP X pins σ Q) X.xe s)
  (h1:backTo pos (starEach [e] X.env)=(false,eval e X.env)::backTo pos (starEach [] X.env)) (h2:(backTo pos (starEach [e] X.env)).any (·.1)=false):
  PE X (.Call (.Name "sorted" p) [e] [⟨some "key",.Name y p2,p3⟩] pos) (fun σ H Q=>ta σ H (Qs Q)):=by
 intro pins s σ H Q I h;refine wpAny_Call_Name_kw (p8 I hg hm (show bootBuiltins "sorted" =some (.builtin "sorted") by rfl) ?_);refine callWith_kw (thn (ha pos pins s σ H (Qs Q) I h) fun us s1 ⟨vs,H1,I1,r,q⟩=>?_) h1 h2;refine kws_cons (j7 I1 hy hmf (kws_nil ?_) hdy);exact run pins _ σ H1 vs us Q I1 r q
theorem FH(D:aR X.prog X.w X.K X.mg X.base CX0 k y [par] sp)(hr:cQ (k+2) X.A)(hg:Gl X "sorted")(hm:X.mg "sorted" =none)(hy:Gl X y)(ha:PA X [e] ta)(hdy:(y==("__debug__" : Str))=false:=by decide)
  (h1:backTo pos (starEach [e] X.env)=(false,eval e X.env)::backTo pos (starEach [] X.env):=by rfl) (h2:(backTo pos (starEach [e] X.env)).any (·.1)=false:=by rfl):
  PE X (.Call (.Name "sorted" p) [e] [⟨some "key",.Name y p2,p3⟩] pos) (M3 X.K sp ta):=by
 obtain⟨f,fd,F,hmf,hkf,hb⟩:=D.ex;refine uK (Qs:=fun Q vs H1=>∃(l:Addr)(as:List Addr)(kf:Addr->List Int),vs=[.ref l]/\SqL X.K H1 l (as.map V.ref)/\(∀a∈as,kf a≠[])/\(∀a∈as,∀H2,a9 H1 H2->sp [.ref a] H2 (fun r H3=>a9 H2 H3/\∃b,r=.ref b/\H3 b=some (.tup ((kf a).map V.int))) E0)/\
  ∀(L:Addr)(out:List Addr)(H':Hp),H1 L=none->out.Perm as->(out.Pairwise fun a b=>leI (kf a) (kf b))->a9 H1 H'->H' L=some (.lst (out.map V.ref))->Q (.ref L) H') hg hm hy hmf ha hdy (fun pins s σ H vs us Q I r q=>?_) h1 h2
 obtain⟨l,as,kf,rfl,hs,hk,turn,fin⟩:=q;obtain⟨u,rfl,ru⟩:=vals1 r;cases ru;obtain⟨its,rv,pl,hz⟩:=I.list hs;have ei:=iZ rv;subst ei;rw[List.length_map]at hz;refine rG F (hr.in1.in1) hb I hz (fun Q' q=>collect_list pl.isList (q _ s.toks fun b o z=>?_) (by rw[List.length_map];exact hz)) hk turn fin;rw[Heap.get?_update_ne _ _ _ _ (Nat.ne_of_lt (Heap.lt_size z))];exact Heap.get?_push_of_some _ z
theorem FI(hc:X.calm=true)(D:aR X.prog X.w X.K X.mg X.base CX0 k y [par] sp)(hr:cQ (k+2) X.A)(hg:Gl X "sorted")(hm:X.mg "sorted" =none)(hy:Gl X y)(ha:PA X [e] ta)(hdy:(y==("__debug__" : Str))=false:=by decide)
  (h1:backTo pos (starEach [e] X.env)=(false,eval e X.env)::backTo pos (starEach [] X.env):=by rfl) (h2:(backTo pos (starEach [e] X.env)).any (·.1)=false:=by rfl):
  PE X (.Call (.Name "sorted" p) [e] [⟨some "key",.Name y p2,p3⟩] pos) (K6 sp ta):=by
 obtain⟨f,fd,F,hmf,hkf,hb⟩:=D.ex;refine uK (Qs:=fun Q vs H1=>∃(d:Addr)(kvs:List (List Key×V)),vs=[.ref d]/\Rd H1 d (.dT kvs)/\∀as:List Addr,kX H1 (as.map V.ref) kvs->∃kf:Addr->List Int,(∀a∈as,kf a≠[])/\(∀a∈as,∀H2,a9 H1 H2->sp [.ref a] H2 (fun r H3=>a9 H2 H3/\∃b,r=.ref b/\H3 b=some (.tup ((kf a).map V.int))) E0)/\
  ∀(L:Addr)(out:List Addr)(H':Hp),H1 L=none->out.Perm as->(out.Pairwise fun a b=>leI (kf a) (kf b))->a9 H1 H'->H' L=some (.lst (out.map V.ref))->Q (.ref L) H') hg hm hy hmf ha hdy (fun pins s σ H vs us Q I r q=>?_) h1 h2
 obtain⟨d,kvs,rfl,hd,q⟩:=q;obtain⟨u,rfl,ru⟩:=vals1 r;cases ru;obtain⟨hs,hz,o,es,ep,en,sz,hen⟩:=nS I hd;obtain⟨qs,hqs⟩:∃qs:List V,Vals qs (es.toList.map (·.key))/\kX H qs kvs:=BW (by rw[List.length_map,Array.length_toList,sz]) fun j u hu=>by
  rw[List.getElem?_map,Array.getElem?_toList]at hu;cases e:es[j]? with
  |none=>rw[e]at hu;cases hu
  |some n=>rw[e]at hu;obtain⟨k,v,q,a1,a2,a3,_⟩:=hen j n e;exact⟨k,v,q,a1,by rw[<- a2];exact(Option.some.inj hu).symm,a3⟩
 obtain⟨as,rfl⟩:=uS hqs.2;obtain⟨kf,hk,turn,fin⟩:=q as hqs.2;have ei:=iZ hqs.1;have hla:as.length=es.size:=by have:=congrArg List.length ei;rw[List.length_map,List.length_map,Array.length_toList]at this;exact this.symm
 refine rG F (hr.in1.in1) hb I (by rw[hla,sz];exact hz) (fun Q' q=>GV hs (I.ok.hd hc) en (by rw[sz];exact hz) fun vs h' tk hl hv kp=>?_) hk turn fin;have ev:vs=as.map Value.ref:=by
  rw[<- ei];apply List.ext_getElem?;intro j;cases e:vs[j]? with
  |none=>have:=List.getElem?_eq_none_iff.mp e;rw[List.getElem?_eq_none_iff.mpr (by rw[List.length_map,Array.length_toList,<- hl];exact this)]
  |some v=>obtain⟨n,hn,rfl⟩:=hv j v e;rw[List.getElem?_map,Array.getElem?_toList,hn];rfl
 rw[ev];exact q h' tk kp
end
end L3
namespace L3
open PySem PySem.Spec PyProof.Rows L2
noncomputable def pairOf(H:Hp)(a:Addr):PI:=match H a with|some (.tup [.int x,.int y])=>(x,y)|_=>(0,0)
def hJ(H:Hp)(a:Addr):List Int:=[(pairOf H a).2,(pairOf H a).1]
theorem uN{H:Hp}{a:Addr}{p:PI}(h:H a=some (.tup [.int p.1,.int p.2])):pairOf H a=p:=by unfold pairOf;rw[h]
theorem IU{H:Hp}{a b:Addr}(h:leI (hJ H a) (hJ H b)):RM.fY (pairOf H a) (pairOf H b):=by unfold leI hJ ixs at h;generalize pairOf H a=p at h ⊢;generalize pairOf H b=q at h ⊢;unfold RM.fY;simp[PyProof.Rows.lexLt,itemLt]at h;omega
theorem rX{H:Hp}:∀{as:List Addr}{ps:List PI},Paired (T2 H) (as.map V.ref) ps->ps=as.map (pairOf H)
 |[],ps,h=>by cases h;rfl
 |a::as,ps,h=>by
  rw[List.map_cons]at h;cases h with
  |cons t r=>obtain⟨b,e,hb⟩:=t;cases e;rw[List.map_cons,uN hb,<- rX r]
theorem rO{H:Hp}:∀{as:List Addr},(∀a∈as,T2 H (.ref a) (pairOf H a))->Paired (T2 H) (as.map V.ref) (as.map (pairOf H))
 |[],_=>.nil
 |a::as,h=>.cons (h a List.mem_cons_self) (rO fun b hb=>h b (List.mem_cons_of_mem _ hb))
theorem xJ{H:Hp}{as:List Addr}{ps:List PI}(h:Paired (T2 H) (as.map V.ref) ps):∀a∈as,T2 H (.ref a) (pairOf H a):=by
 induction as generalizing ps with
 |nil=>intro a ha;cases ha
 |cons b as ih=>
  rw[List.map_cons]at h;cases h with
  |cons t r=>
   intro a ha;rcases List.mem_cons.mp ha with rfl|ha
   ·obtain⟨c,e,hc⟩:=t;cases e;exact⟨a,rfl,by rw[uN hc];exact hc⟩
   ·exact ih r a ha
theorem pU{H:Hp}{as out:List Addr}{ps:List PI}(h:Paired (T2 H) (as.map V.ref) ps)(hp:out.Perm as)(hs:out.Pairwise fun a b=>leI (hJ H a) (hJ H b)):
  ∃ys,Paired (T2 H) (out.map V.ref) ys/\ys.Perm ps/\ys.Pairwise RM.fY:=by
 have ht:=xJ h;refine⟨out.map (pairOf H),rO fun a ha=>ht a (hp.mem_iff.mp ha),?_,?_⟩
 ·rw[rX h];exact hp.map _
 ·rw[List.pairwise_map];exact hs.imp fun z=>IU z
end L3
namespace L3
open PySem PySem.Spec PyProof.Rows L2
def dP(p:PI):PyData:=.tuple [.int p.1,.int p.2]
def dW(w:List PI):PyData:=.list (w.map dP)
def dWs(ws:List (List PI)):PyData:=.list (ws.map dW)
theorem UT{K:W.Frag}{H:Hp}{v:V}{p:PI}(h:T2 H v p):Dp K H v (dP p):=by obtain⟨a,rfl,ha⟩:=h;exact .tup (SqT.of ha) (.cons (.int _) (.cons (.int _) .nil))
theorem B4{K:W.Frag}{H:Hp}{α:Type}{R:V->α->Prop}{f:α->PyData}(hf:∀v a,R v a->Dp K H v (f a)):∀{xs:List V}{ys:List α},Paired R xs ys->tD K H xs (ys.map f)
 |_,_,.nil=>.nil
 |_,_,.cons r t=>.cons (hf _ _ r) (B4 hf t)
theorem US{K:W.Frag}{H:Hp}{v:V}{w:List PI}(h:LT H v w):Dp K H v (dW w):=by obtain⟨a,xs,rfl,ha,pr⟩:=h;exact .lst (SqL.of ha) (B4 (fun _ _ t=>UT t) pr)
theorem JZ{K:W.Frag}{H:Hp}{v:V}{ws:List (List PI)}(h:LLT H v ws):Dp K H v (dWs ws):=by obtain⟨a,xs,rfl,ha,pr⟩:=h;exact .lst (SqL.of ha) (B4 (fun _ _ t=>US t) pr)
theorem mH{α:Type}[DecidableEq α]{f:α->PyData}(hf:∀a b,PyData.eqv (f a) (f b)=decide (a=b)):∀xs ys:List α,PyData.eqvAll (xs.map f) (ys.map f)=decide (xs=ys)
 |[],[]=>by simp[PyData.eqvAll]
 |[],_::_=>by simp[PyData.eqvAll]
 |_::_,[]=>by simp[PyData.eqvAll]
 |x::xs,y::ys=>by rw[List.map_cons,List.map_cons,PyData.eqvAll,hf,mH hf xs ys];rw[Bool.eq_iff_iff];simp
theorem QD(a b:PI):PyData.eqv (dP a) (dP b)=decide (a=b):=by unfold dP;simp only[PyData.eqv,PyData.eqvAll,Bool.and_true];rw[Bool.eq_iff_iff];simp[Prod.ext_iff]
theorem QC(a b:List PI):PyData.eqv (dW a) (dW b)=decide (a=b):=by unfold dW;rw[PyData.eqv];exact mH QD a b
theorem LG(a b:List (List PI)):PyData.eqv (dWs a) (dWs b)=decide (a=b):=by unfold dWs;rw[PyData.eqv];exact mH QC a b
theorem vV{α:Type}{f:α->PyData}(hf:∀a,PyData.canLay0 (f a)=true):∀xs:List α,PyData.canLayAll0 (xs.map f)=true
 |[]=>by simp[PyData.canLayAll0]
 |x::xs=>by rw[List.map_cons,PyData.canLayAll0,hf,vV hf xs];rfl
theorem pH{α:Type}{f:α->PyData}{n:Nat}(hf:∀a,PyData.depth (f a)<=n):∀xs:List α,PyData.depthAll (xs.map f)<=n
 |[]=>by simp[PyData.depthAll]
 |x::xs=>by rw[List.map_cons,PyData.depthAll];have h1:=hf x;have h2:=pH hf xs;omega
theorem uA(ws:List (List PI)):SeqAt.shaped (dWs ws)=true:=by
 have l1:∀p,PyData.canLay0 (dP p)=true:=fun p=>by simp[dP,PyData.canLay0,PyData.canLayAll0]
 have l2:∀w,PyData.canLay0 (dW w)=true:=fun w=>by unfold dW;rw[PyData.canLay0];exact vV l1 w
 have d1:∀p,PyData.depth (dP p)<=1:=fun p=>by simp[dP,PyData.depth,PyData.depthAll]
 have d2:∀w,PyData.depth (dW w)<=2:=fun w=>by unfold dW;rw[PyData.depth];have:=pH d1 w;omega
 unfold SeqAt.shaped dWs;rw[PyData.canLay0,vV l2 ws,PyData.depth];have:=pH d2 ws;simp;omega
end L3
namespace L3
open PySem PySem.Spec PySem.Calls PyProof.Rows L2
section
variable {prog:Program}{w:World}{A:Around}{E:Value->Shared->Prop}{s:Shared}{d:Addr}{o:Obj}{es:Array DictEntry}{ep:Nat}
theorem vT(hs:(d==sysModules)=false):MeetsIn prog w (Builtin.«dict.items» ⟨[.ref d],[]⟩) (fun _ R s=>(∃o es ep,jN s.heap d o es ep)/\R (.ok (.ret (.ref s.heap.objs.size))) {s with heap:=s.heap.push {cls:=.type "dict_items",data:=.fields #[.ref d]}}):=
 .of_wp fun A R s q=>by
  obtain⟨⟨o,es,ep,e⟩,hR⟩:=q
  delta Builtin.«dict.items»
  refine wpAny_bind (show wpAny _ _ (Builtin.Dict.noArgs _ _) _ _ s from ?_)
  delta Builtin.Dict.noArgs
  refine wpAny_bind (wpAny_notOrdered_dict e.ty (show wpAny _ _ (pure d) _ _ s from wpAny_pure (show wpAny _ _ (Builtin.Dict.showsAll d>>=fun _=>_) _ _ s from ?_)))
  delta Builtin.Dict.showsAll
  rw[if_neg (show¬(d==sysModules)=true by rw[hs];exact Bool.false_ne_true)];exact wpAny_bind (wpAny_pure (wpAny_bind (wpAny_newObj_type (wpAny_pure ⟨_,rfl,hR⟩))))
theorem yA{v:Addr}{Q:Value->Shared->Prop}(hv:s.heap.IsItemsView v d)(e:jN s.heap d o es ep)
  (hQ:Q (.ref s.heap.objs.size) {s with heap:=s.heap.push {cls:=.type "dict_itemiterator",data:=.fields #[.none,.bool false,.ref d,.int 0 0,.int es.size 0,.int ep 0,.none,.none]}}):wpAny (model prog w) A (pyIter (.ref v)) Q E s:=by
 obtain⟨vo,v1,v2,v3⟩:=id hv;refine wpAny_pyIter_slot hv.typeIs F.slot_dict_items_iter (wpAny_call_entry F.slot_dict_items_iter hv.typeIs F.entry_dict_items_iter (show wpAny _ _ (Builtin.«dict_items.__iter__» _) _ _ _ from ?_) (F.args_dict_items_iter_1 _))
 delta Builtin.«dict_items.__iter__»
 refine wpAny_bind (wpAny_pure (wpAny_bind (show wpAny _ _ (Builtin.Dict_items.dictOf _) _ _ _ from ?_)))
 delta Builtin.Dict_items.dictOf
 refine wpAny_bind (wpAny_field v1 v3 (x:=.ref d) rfl (wpAny_pure (wpAny_bind (show wpAny _ _ (Builtin.Dict_items.newIterator _ _) _ _ _ from ?_))))
 delta Builtin.Dict_items.newIterator
 refine wpAny_bind (wpAny_dictEntries e.at_ e.dat (wpAny_bind (wpAny_dictEpoch e.at_ e.dat ?_)));have own:Builtin.Dict_items.ownsTuple "dict_itemiterator" =true:=by rfl
 simp only[own,if_true];refine wpAny_newObj_type (wpAny_pure ⟨_,rfl,"dict_itemiterator",_,⟨_,Heap.get?_push_size _ rfl,rfl⟩,F.slot_dict_itemiterator_next.lookup,(by simpa[rawInt,Builtin.Dict_items.ownedTupleFields]using hQ)⟩) ?_;simp only[sizeOk,Builtin.Dict_items.ownedTupleFields,List.size_toArray,List.length_append,List.length_cons,List.length_nil,sizeLine_eq]<;>omega
theorem A8{it:Addr}{i:Nat}{en:DictEntry}{k0 v0:Value}{Q:Option Value->Shared->Prop}(hit:IsItemIter s.heap it d i es.size ep k0 v0)(e:jN s.heap d o es ep)(hx:es[i]? =some en)
  (hQ:∀h',IsItemIterOut h' it d (i+1) es.size ep en.key en.val s.heap.objs.size->h'.get? s.heap.objs.size=some {cls:=.type "tuple",data:=.seq #[en.key,en.val]}->h'.objs.size=s.heap.objs.size+1->(∀b q,b≠it->s.heap.get? b=some q->h'.get? b=some q)->Q (some (.ref s.heap.objs.size)) {s with heap:=h'}):
  wpAny (model prog w) A (pyNext (.ref it)) Q E s:=by
 obtain⟨g0,gn,dr,tk,os⟩:=s;have ty:Shared.TypeIs ⟨g0,gn,dr,tk,os⟩ (.ref it) "dict_itemiterator" :=⟨_,hit,rfl⟩
 delta pyNext
 refine wpAny_bind (wpAny_attempt (wpAny_callSpecial?_slot (name:=Str.ofString "__next__") ty F.slot_dict_itemiterator_next (wpAny_call_entry F.slot_dict_itemiterator_next ty F.entry_dict_itemiterator_next ?_ (F.args_dict_itemiterator_next_1 _))));refine wpAny_bind (wpAny_pure (wpAny_bind (wpAny_bind ?_)));first|refine wpAny_bind (wpAny_typeNameOfWhole_itemiter ty (wpAny_pure (wpAny_bind (wpAny_fieldsOf hit rfl ?_))))|refine wpAny_bind (wpAny_typeNameOf_itemiter ty (wpAny_pure (wpAny_bind (wpAny_fieldsOf hit rfl ?_))))
 have own:Builtin.Dict_items.ownsTuple "dict_itemiterator" =true:=by rfl
 simp only[own,if_true];show wpAny _ _ (if(Value.ref d==Value.none)=true then _ else _) _ _ ⟨g0,gn,dr,tk,os⟩
 have nn:¬((Value.ref d==Value.none)=true):=Bool.false_ne_true;rw[if_neg nn];refine wpAny_bind (wpAny_pure (wpAny_bind (wpAny_dictEntries e.at_ e.dat ?_)));rw[if_neg (show¬ _ by simp)];refine wpAny_bind (wpAny_pure (wpAny_bind (wpAny_dictEpoch e.at_ e.dat ?_)));rw[if_neg (show¬ _ by simp)];obtain⟨lt,hen⟩:=Array.getElem?_eq_some_iff.mp hx;have i0:¬((i:Int)<0):=by omega
 refine wpAny_pure ?_;simp only[i0,if_false,Int.toNat_natCast,Array.getElem?_eq_getElem lt,hen];refine wpAny_bind ?_;first|refine wpAny_bind (wpAny_typeNameOfWhole_itemiter ty (wpAny_pure (wpAny_bind (wpAny_isOneOf_itemiter ty ?_))))|refine wpAny_bind (wpAny_typeNameOf_itemiter ty (wpAny_pure (wpAny_bind (wpAny_isOneOf_itemiter ty ?_))))
 show wpAny _ _ (setField (.ref it) 3 (rawInt ((i:Int)+1))>>=fun _=>_) _ _ ⟨g0,gn,dr,tk,os⟩
 refine wpAny_bind (wpAny_setField_rec hit (by simp) fun g1 a1 b1=>?_);replace b1:Heap.SameBut it g0 g1:=b1;replace a1:IsItemIter g1 it d (i+1) es.size ep k0 v0:=by
  have ei:((i+1:Nat):Int)=(i:Int)+1:=by omega
  show _=_
  rw[ei];simpa[rawInt]using a1
 have ty1:Shared.TypeIs ⟨g1,gn,dr,tk,os⟩ (.ref it) "dict_itemiterator" :=⟨_,a1,rfl⟩;refine wpAny_bind (wpAny_holding (wpAny_bind (wpAny_isOneOf_itemiter ty1 (wpAny_bind (wpAny_isOneOf_itemiter ty1 ?_)))));show wpAny _ _ (Builtin.Dict_items.pairFromOwner (.ref it) 6 en.key en.val) _ _ ⟨g1,gn,dr,tk,os⟩
 delta Builtin.Dict_items.pairFromOwner
 refine wpAny_bind (wpAny_newTuple ?_);have a2:IsItemIter (g1.push {cls:=.type "tuple",data:=.seq #[en.key,en.val]}) it d (i+1) es.size ep k0 v0:=Heap.get?_push_of_some _ a1;have z1:g1.objs.size=g0.objs.size:=b1.1;have il:it<g0.objs.size:=Heap.lt_size hit;have t2:(g1.push {cls:=.type "tuple",data:=.seq #[en.key,en.val]}).get? g0.objs.size=some {cls:=.type "tuple",data:=.seq #[en.key,en.val]}:=by rw[<- z1];exact Heap.get?_push_size _ rfl
 have z2:(g1.push {cls:=.type "tuple",data:=.seq #[en.key,en.val]}).objs.size=g0.objs.size+1:=by rw[Heap.size_push,z1]
 have k2:∀b q,b≠it->g0.get? b=some q->(g1.push {cls:=.type "tuple",data:=.seq #[en.key,en.val]}).get? b=some q:=fun b q hb z=>Heap.get?_push_of_some _ (b1.extBut b q hb z)
 show wpAny _ _ (Builtin.Dict_items.ownedTupleIsFree (.ref it)>>=fun _=>_) _ _ ⟨g1.push {cls:=.type "tuple",data:=.seq #[en.key,en.val]},gn,dr,tk,os⟩
 rw[z1];generalize (g1.push {cls:=.type "tuple",data:=.seq #[en.key,en.val]})=g2 at a2 t2 z2 k2 ⊢;refine wpAny_bind (show wpAny _ _ (Builtin.Dict_items.ownedTupleIsFree _) _ _ _ from ?_)
 delta Builtin.Dict_items.ownedTupleIsFree
 refine wpAny_bind (wpAny_field a2 rfl (x:=.none) rfl (wpAny_pure ?_));simp only[if_true];refine wpAny_bind (wpAny_field a2 rfl (x:=k0) rfl (wpAny_bind (wpAny_field a2 rfl (x:=v0) rfl ?_)));refine wpAny_bind (wpAny_setField_rec a2 (by simp) fun g3 a3 b3=>?_);replace b3:Heap.SameBut it g2 g3:=b3;replace a3:IsItemIter g3 it d (i+1) es.size ep en.key v0:=a3;refine wpAny_bind (wpAny_setField_rec a3 (by simp) fun g4 a4 b4=>?_);replace b4:Heap.SameBut it g3 g4:=b4;replace a4:IsItemIter g4 it d (i+1) es.size ep en.key en.val:=a4;refine wpAny_bind (wpAny_setField_rec a4 (by simp) fun g5 a5 b5=>?_);replace b5:Heap.SameBut it g4 g5:=b5;replace a5:IsItemIterOut g5 it d (i+1) es.size ep en.key en.val g0.objs.size:=a5;refine wpAny_bind (wpAny_setField_rec a5 (by simp) fun g6 a6 b6=>?_);replace b6:Heap.SameBut it g5 g6:=b6;replace a6:IsItemIterOut g6 it d (i+1) es.size ep en.key en.val g0.objs.size:=a6;have kp:∀b q,b≠it->g2.get? b=some q->g6.get? b=some q:=fun b q hb z=>b6.extBut b q hb (b5.extBut b q hb (b4.extBut b q hb (b3.extBut b q hb z)))
 refine wpAny_bind (wpAny_letGo (wpAny_pure (wpAny_pure ⟨_,rfl,wpAny_pure (hQ g6 a6 (kp _ _ (Nat.ne_of_gt il) t2) ?_ fun b q hb z=>kp b q hb (k2 b q hb z))⟩)));show g6.objs.size=g0.objs.size+1
 rw[b6.1,b5.1,b4.1,b3.1,z2]
end
end L3
namespace L3
open PySem PySem.Spec PySem.Calls PyProof.Rows L2
section
variable {prog:Program}{w:World}{A:Around}{E:Value->Shared->Prop}{s:Shared}{d:Addr}{o:Obj}{es:Array DictEntry}{ep:Nat}
theorem AL{it:Addr}{i:Nat}{k0 v0:Value}{Q:Option Value->Shared->Prop}(hh:A.handled=none)(hit:IsItemIter s.heap it d i es.size ep k0 v0)(e:jN s.heap d o es ep)(hge:es.size<=i)
  (hQ:∀h',Heap.ExtBut it s.heap h'->Q none {s with heap:=h'}):wpAny (model prog w) A (pyNext (.ref it)) Q E s:=by
 have ty:s.TypeIs (.ref it) "dict_itemiterator" :=⟨_,hit,rfl⟩
 delta pyNext
 refine wpAny_bind (wpAny_attempt (wpAny_callSpecial?_slot (name:=Str.ofString "__next__") ty F.slot_dict_itemiterator_next (wpAny_call_entry F.slot_dict_itemiterator_next ty F.entry_dict_itemiterator_next ?_ (F.args_dict_itemiterator_next_1 _))));refine wpAny_bind (wpAny_pure (wpAny_bind (wpAny_bind ?_)));first|refine wpAny_bind (wpAny_typeNameOfWhole_itemiter ty (wpAny_pure (wpAny_bind (wpAny_fieldsOf hit rfl ?_))))|refine wpAny_bind (wpAny_typeNameOf_itemiter ty (wpAny_pure (wpAny_bind (wpAny_fieldsOf hit rfl ?_))))
 have own:Builtin.Dict_items.ownsTuple "dict_itemiterator" =true:=by rfl
 simp only[own,if_true];show wpAny _ _ (if(Value.ref d==Value.none)=true then _ else _) _ _ s
 have nn:¬((Value.ref d==Value.none)=true):=Bool.false_ne_true;rw[if_neg nn];refine wpAny_bind (wpAny_pure (wpAny_bind (wpAny_dictEntries e.at_ e.dat ?_)));rw[if_neg (show¬ _ by simp)];refine wpAny_bind (wpAny_pure (wpAny_bind (wpAny_dictEpoch e.at_ e.dat ?_)));rw[if_neg (show¬ _ by simp)];have i0:¬((i:Int)<0):=by omega
 refine wpAny_pure ?_;simp only[i0,if_false,Int.toNat_natCast,Array.getElem?_eq_none hge];refine wpAny_bind ?_;first|refine wpAny_bind (wpAny_typeNameOfWhole_itemiter ty (wpAny_pure (show wpAny _ _ (setField (.ref it) 2 .none>>=fun _=>_) _ _ s from wpAny_bind (wpAny_setField hit rfl (by simp) ?_))))|refine wpAny_bind (wpAny_typeNameOf_itemiter ty (wpAny_pure (show wpAny _ _ (setField (.ref it) 2 .none>>=fun _=>_) _ _ s from wpAny_bind (wpAny_setField hit rfl (by simp) ?_))))
 show wpAny _ _ (newExc (.type "StopIteration") []>>= _) _ _ _
 refine wpAny_bind ?_;simp only[newExc,newTuple];refine wpAny_bind (wpAny_newObj_type ?_ (by size_fits));refine wpAny_bind (m:=firstArgMember _ _) (wpAny_of_eq (a:=Value.none) (by first|rfl|(simp only[firstArgMember];rfl)) ?_);refine wpAny_newObj_type ?_ (by size_fits);simp only[raiseNew];refine wpAny_bind (wpAny_handled ?_);rw[show A.in1.handled=none from hh];refine wpAny_bind (wpAny_pure (wpAny_throw ?_));refine wpAny_bind (wpAny_isInstance (T:= "StopIteration") (b:=true) ⟨_,Heap.get?_push_size _ rfl,rfl⟩ isSubtype_stop ?_);exact wpAny_pure (hQ _ (((Heap.SameBut.update ..).extBut.push _).push _))
end
noncomputable def HF(d:Addr)(o:Obj)(kvs:List (List Key×V)):It:=
 ⟨fun i H=>H d=some (.frz o (.dT kvs))/\i<kvs.length,fun i H x H'=>∃T k v q,kvs[i]? =some (k,v)/\H q=some (.tup (k.map kV))/\x=.ref T/\H T=none/\H'=upd H T (.tup [.ref q,v]),fun i H=>H d=some (.frz o (.dT kvs))/\kvs.length<=i⟩
section
variable {P:Program}{w:World}{K:W.Frag}{d:Addr}{o:Obj}{es:Array DictEntry}{ep:Nat}
theorem yX{X:Cx}{pins:List (Addr×Obj)}{σ:L2.St}{H:Hp}{s:Shared}{kvs:List (List Key×V)}(I:Inv X pins σ H s)(h:H d=some (.frz o (.dT kvs)))(hod:o.data=.dict es ep):jN s.heap d o es ep/\es.size=kvs.length/\∀(i:Nat)(en:DictEntry),es[i]? =some en->∃k v q,kvs[i]? =some (k,v)/\en.key=.ref q/\H q=some (.tup (k.map kV))/\RelV v en.val:=by
 obtain⟨_,_,o',es',ep',e,sz,en⟩:=nS I (.inr ⟨o,h⟩);have e0:=(I.hok d _ h).1;have eo:o'=o:=by have:=e.at_;rw[e0]at this;exact(Option.some.inj this).symm
 subst eo;obtain⟨rfl,rfl⟩:=nU hod e.dat;exact⟨e,sz,en⟩
theorem wV{kvs:List (List Key×V)}{elts:List Expr}{kk:Nat}{tpos:Pos}(it:Addr)(hod:o.data=.dict es ep):Turn P w K (.Tuple elts kk tpos) (HF d o kvs) [it] it (fun i h=>∃k0 v0,IsItemIter h it d i kvs.length ep k0 v0) where
 mem:=by simp
 obj:=fun i h st b hb=>by
  have e:b=it:=by simpa using hb
  subst e;obtain⟨_,_,e⟩:=st;exact⟨_,e,fun v z=>nomatch z⟩
 keep:=fun i h h' st k=>let⟨k0,v0,e⟩:=st;⟨k0,v0,k it (by simp) _ e⟩
 item:=by
  intro X hP hw hK hc i pins s σ H E I hf st hg;subst hP hw hK;obtain⟨hd,hi⟩:=hg;obtain⟨e,sz,ent⟩:=yX I hd hod;obtain⟨k0,v0,he⟩:=st;rw[<- sz]at he hi;obtain⟨k,v,q,hkv,hkey,hq,rv⟩:=ent i es[i] (Array.getElem?_eq_getElem hi);have hlt:it<s.heap.objs.size:=Heap.lt_size he;refine A8 he e (Array.getElem?_eq_getElem hi) fun h' ho hT hz hk=>?_
  refine⟨_,rfl,wpAny_letOwnedTupleGo_items (s:={s with heap:=h'}) ho fun h'' he' sb=>?_⟩;have hT2:h''.get? s.heap.objs.size=some {cls:=.type "tuple",data:=.seq #[es[i].key,es[i].val]}:=(sb.2 _ (Nat.ne_of_gt hlt)).trans hT;have new:cW X.prog X.w (upd H s.heap.objs.size (.tup [.ref q,v])) h'' s.heap.objs.size (.tup [.ref q,v]):=⟨by show 2<=sizeLine;decide,[es[i].key,es[i].val],.cons hkey (.cons rv .nil),⟨_,hT2,rfl,_,rfl⟩⟩;have I1:Inv X pins σ (upd H s.heap.objs.size (.tup [.ref q,v])) {s with heap:=h''}:=I.u7 (t':=s.toks) (ch:=[it]) (fun b ob hb z=>(sb.2 b (by simpa using hb)).trans (hk b ob (by simpa using hb) z)) hf (Nat.le_refl _) new;refine⟨.ref s.heap.objs.size,_,I1,rfl,⟨_,k,v,q,hkv,hq,rfl,I.hok.fresh (Nat.le_refl _),rfl⟩,⟨_,_,by rw[<- sz];exact he'⟩,fun b hb=>?_⟩;have eb:b=it:=by simpa using hb
  rw[eb,aA (Nat.ne_of_lt hlt)];exact(hf it (by simp)).1
 done:=by intro X hP hw hK hc i pins s σ H E I hf st hg;subst hP hw hK;obtain⟨hd,hi⟩:=hg;obtain⟨f0,f1,f2,f3,f4,f5⟩:=hf it (by simp);obtain⟨e,sz,ent⟩:=yX I hd hod;obtain⟨k0,v0,he⟩:=st;rw[<- sz]at he hi;exact AL (I.ok.hd hc) he e hi fun h' eb=>⟨rfl,I.turned (t':=s.toks) (fun b ob hb z=>eb b ob hb z) f0 f1 f3 f4 f5⟩
 self:=fun A i s Q E st h=>let⟨_,_,e⟩:=st;W.kcp_self e h
end
noncomputable def J1(td:TE):TI:=fun σ H R=>td σ H fun x H1=>∃d o kvs,x=.ref d/\H1 d=some (.frz o (.dT kvs))/\R (HF d o kvs) H1
section
variable {X:Cx}{e:Expr}{td:TE}{apos cpos:Pos}
theorem uJ{elts:List Expr}{kk:Nat}{tpos:Pos}(he:PE X e td)(hbase:attributeBase e "items" X.env (eval e X.env)=eval e X.env:=by rfl)(hline:(apos.endLine==cpos.line)=true:=by rfl):L2.PI X (.Tuple elts kk tpos) (.Call (.Attribute e "items" apos) [] [] cpos) (J1 td):=by
 intro pins s σ H R I h;refine wpAny_Call_method (T:= "dict") (id:= "dict.items") hbase rfl hline F.plainAttrs_dict F.slot_dict_items F.type_dict_items (thn (he pins s σ H _ I h) fun u s1 ⟨x,H1,I1,rx,d,o,kvs,ex,hd,q⟩=>?_);subst ex;obtain rfl:u=Value.ref d:=rx;obtain⟨hs,_,o',es,ep,en,sz,_⟩:=nS I1 (.inr ⟨o,hd⟩);have eo:o'=o:=by have:=en.at_;rw[(I1.hok d _ hd).1]at this;exact(Option.some.inj this).symm
 subst eo;refine⟨en.ty,fun b z=>by cases z;exact⟨o',en.at_,en.ex.2.1⟩,?_⟩;have I2:Inv X pins σ H1 {s1 with heap:=s1.heap.push {cls:=.type "dict_items",data:=.fields #[.ref d]}}:=I1.kept (t':=s1.toks) fun b ob q=>Heap.get?_push_of_some _ q
 have en2:jN (s1.heap.push {cls:=.type "dict_items",data:=.fields #[.ref d]}) d o' es ep:=en.to fun q z=>Heap.get?_push_of_some _ z
 have fin:wpAny (model X.prog X.w) X.A (pyIter (.ref s1.heap.objs.size)) (PIE X pins σ (.Tuple elts kk tpos) R) X.xe {s1 with heap:=s1.heap.push {cls:=.type "dict_items",data:=.fields #[.ref d]}}:=by refine yA ⟨_,Heap.get?_push_size _ rfl,rfl,rfl⟩ en2 (zW (tk:=s1.toks) I2 _ (wV _ en.dat) ⟨.none,.none,?_⟩ q);rw[<- sz];exact Heap.get?_push_size _ rfl
 show wpAny _ _ (callWith cpos (.builtin "dict.items") [.ref d] [] []) _ X.xe s1
 exact method_meetsIn F.slot_dict_items F.entry_dict_items rfl (PySem.evalArgs_none ⟨rfl,en.ty,F.args_dict_items_1 _,_,vT hs,⟨o',es,ep,en⟩,fin⟩)
end
theorem uV{d:Addr}{od:Obj}{kvs:List (List Key×V)}{g:TG}{tb:TS}{D:Ends}{σ:L2.St}{H:Hp}(Pv:Nat->L2.St->Hp->Prop)(h0:Pv 0 σ H)(hl:∀i σ H,Pv i σ H->H d=some (.frz od (.dT kvs)))
  (hs:∀i k v q T σ H,kvs[i]? =some (k,v)->H q=some (.tup (k.map kV))->H T=none->Pv i σ H->g (.ref T) σ (upd H T (.tup [.ref q,v])) fun σ2 H2=>tb {D with nx:=Pv (i+1),ct:=Pv (i+1),bk:=D.nx} σ2 H2) (hd:∀σ H,Pv kvs.length σ H->D.nx σ H):
  ∃W:Nat->Nat->L2.St->Hp->Prop,(∃m,W 0 m σ H)/\∀i m σ H,W i m σ H ->
   ((HF d od kvs).stop i H/\D.nx σ H)\/((HF d od kvs).go i H/\∃N:L2.St->Hp->Prop,(∀σ' H',N σ' H'->∃m',m'<m/\W (i+1) m' σ' H')/\∀x H',(HF d od kvs).yld i H x H'->g x σ H' fun σ2 H2=>tb {D with nx:=N,ct:=N,bk:=D.nx} σ2 H2):=by
 refine⟨fun i m σ H=>m=kvs.length - i/\i<=kvs.length/\Pv i σ H,⟨kvs.length,by simp,Nat.zero_le _,h0⟩,?_⟩;rintro i m σ H ⟨rfl,hi,p⟩;have q:=hl i σ H p;by_cases hlt:i<kvs.length
 ·refine .inr ⟨⟨q,hlt⟩,Pv (i+1),fun σ' H' p'=>⟨kvs.length - (i+1),by omega,rfl,hlt,p'⟩,fun x H' y=>?_⟩;obtain⟨T,k,v,b,hk,hb,rfl,hT,rfl⟩:=y;exact hs i k v b T σ H hk hb hT p
 ·have e:i=kvs.length:=by omega
  subst e;exact .inl ⟨⟨q,Nat.le_refl _⟩,hd σ H p⟩
end L3
namespace L3
open PySem PySem.Spec PySem.Calls PyProof.Rows L2
section
variable {prog:Program}{w:World}{A:Around}{E:Value->Shared->Prop}
abbrev TK(prog:Program)(w:World):HeapKind prog w (List Key):=tupleKind (bW prog w)
theorem qY{h0 h:Heap}{ks:List Key}{a:Addr}(k:∀b q,h0.get? b=some q->h.get? b=some q)(x:(TK prog w).is h0 ks a):(TK prog w).is h ks a:=by obtain⟨o,its,n,ho,r⟩:=x;exact⟨o,its,n,k _ _ ho,r⟩
theorem nV{h h':Heap}{S:Addr}{acc:List (List Key×Addr×Value)}(m:h.DictOfH (TK prog w) S acc)(hS:∀q,h.get? S=some q->h'.get? S=some q)(hk:∀x∈acc,(TK prog w).is h' x.1 x.2.1):h'.DictOfH (TK prog w) S acc:=by obtain⟨o,es,ep,a1,a2,a3,a4,_,a6⟩:=m;exact⟨o,es,ep,hS _ a1,a2,a3,a4,hk,a6⟩
noncomputable def gT(acc rest:List (List Key×Addr×Value)):List (List Key×Addr×Value):=rest.foldl (fun a q=>storedH a q.1 q.2.1 q.2.2) acc
theorem rD(acc:List (List Key×Addr×Value))(k:List Key)(a:Addr)(v:Value):(storedH acc k a v).length<=acc.length+1:=by unfold storedH;split<;>simp
theorem JW{R:Result->Shared->Prop}{S I l:Addr}{items:Array Value}{res:Value}{h0:Heap}(hh:A.handled=none)(hu:A.in1.units<cLine)(hIS:S≠I)(hl0:h0.IsList l items)(hS0:∀b q,h0.get? b=some q->b≠S)(hI0:∀b q,h0.get? b=some q->b≠I):
  ∀(rest:List (List Key×Addr×Value))(i:Nat)(acc:List (List Key×Addr×Value))(ix:Int)(t:Tok)(s:Shared),items.size=i+rest.length->acc.length+rest.length<=sizeLine->(∀x∈acc,(TK prog w).is h0 x.1 x.2.1) ->
   (∀(j:Nat)(q:List Key×Addr×Value),rest[j]? =some q->∃b:Addr,items[i+j]? =some (.ref b)/\IsTup h0 b #[.ref q.2.1,q.2.2]/\(TK prog w).is h0 q.1 q.2.1) ->
   (∀b q,h0.get? b=some q->s.heap.get? b=some q)->s.heap.IsListIter I l i->s.heap.DictOfH (TK prog w) S acc ->
   (∀h' tk,h'.DictOfH (TK prog w) S (gT acc rest)->(∀b q,h0.get? b=some q->h'.get? b=some q)->R (.ok (.ret res)) {s with heap:=h',toks:=tk}) ->
   codeAny (model prog w) A (.builtin "dict.update.loop" ⟨[.ref S,.ref I,.int ix t,res],[]⟩) R s
 |[],i,acc,ix,t,s,hsz,hln,hacc,ht,k0,hit,hm,hR=>by
  have hl:s.heap.IsList l items:=hl0.at fun q z=>k0 _ _ z
  refine codeAny_builtin wR ?_;rw[Around.under_plainId jS _];show wpAny _ A.in1 (pyNext (.ref I)>>= _) _ _ s
  refine wpAny_bind (wpAny_pyNext_list_end (A:=A.in1) hh hit hl (by first|exact Array.getElem?_eq_none (Nat.le_of_eq hsz)|(simp at hsz;simp;omega)) fun h' he=>?_);show wpAny _ A.in1 (Builtin.Dict.addKeywords S []>>= _) _ _ _
  have k1:∀b q,h0.get? b=some q->h'.get? b=some q:=fun b q z=>he b q (hI0 b q z) (k0 b q z)
  exact wpAny_bind (wpAny_pure (wpAny_pure (hR h' s.toks (nV hm (fun q z=>he S q hIS z) fun x hx=>qY k1 (hacc x hx)) k1)))
 |q::rest,i,acc,ix,t,s,hsz,hln,hacc,ht,k0,hit,hm,hR=>by
  obtain⟨b,hb,htup,hk⟩:=ht 0 q rfl;have hl:s.heap.IsList l items:=hl0.at fun q z=>k0 _ _ z
  rw[List.length_cons]at hsz hln;refine codeAny_builtin wR ?_;rw[Around.under_plainId jS _];show wpAny _ A.in1 (pyNext (.ref I)>>= _) _ _ s
  refine wpAny_bind (wpAny_pyNext_list_item (x:=.ref b) hit hl (by simpa using hb) fun h1 hit1 hs1=>?_);have k1:∀b q,h0.get? b=some q->h1.get? b=some q:=fun b q z=>(hs1.2 b (hI0 b q z)).trans (k0 b q z)
  have hm1:h1.DictOfH (TK prog w) S acc:=nV hm (fun q z=>(hs1.2 S hIS).trans z) fun x hx=>qY k1 (hacc x hx)
  obtain⟨o,ho,hc,n,hd⟩:=id htup;have ho1:=k1 _ _ ho;show wpAny _ A.in1 (holding [Value.ref b] _>>= _) _ _ _
  refine wpAny_bind (wpAny_holding (wpAny_bind (wpAny_tryCatch ?_)));unfold Builtin.Dict.pairItems;refine wpAny_bind (wpAny_typeOf (T:= "tuple") ⟨o,ho1,hc⟩ ?_);rw[if_pos (by first|decide|rfl|simp)];refine wpAny_bind (wpAny_seqItems ho1 hd (wpAny_pure ?_));show wpAny _ A.in1 (holding [Value.ref q.2.1,q.2.2] (dictSet S (.ref q.2.1) q.2.2)) _ _ _
  refine wpAny_holding (wpAny_dictSet_heap (knd:=TK prog w) (k:=q.1) hu (qY k1 hk) hm1 (fun h2 hm2 hs2=>?_) (by omega));have k2:∀b q,h0.get? b=some q->h2.get? b=some q:=fun b q z=>(hs2.2 b (hS0 b q z)).trans (k1 b q z)
  refine wpAny_pure ⟨plainId_quiet jS _,JW (items:=items) hh hu hIS hl0 hS0 hI0 rest (i+1) (storedH acc q.1 q.2.1 q.2.2) (ix+1) 0 _ (show items.size=i+1+rest.length by omega) ?_ (fun x hx=>?_) (fun j q' e=>?_) k2 ?_ hm2 fun h' tk hd' k=>hR h' tk hd' k⟩
  ·have z:=rD acc q.1 q.2.1 q.2.2;omega
  ·unfold storedH at hx;split at hx
   ·obtain⟨y,hy,rfl⟩:=List.mem_map.mp hx;unfold putAt;split
    ·exact hacc y hy
    ·exact hacc y hy
   ·rcases List.mem_append.mp hx with hx|hx
    ·exact hacc x hx
    ·rw[List.mem_singleton.mp hx];exact hk
  ·obtain⟨b',a1,a2,a3⟩:=ht (j+1) q' (by simpa using e);exact⟨b',by rw[show i+1+j=i+(j+1) by omega];exact a1,a2,a3⟩
  ·exact hit1.at fun o' e=>(hs2.2 I (Ne.symm hIS)).trans e
theorem z4{s:Shared}{l:Addr}{ol:Obj}{items:Array Value}{n:Nat}{prs:List (List Key×Addr×Value)}{Q:Value->Shared->Prop}(hh:A.handled=none)(hu:A.in1.in1.units<cLine)(hl:s.heap.get? l=some ol)(hc:ol.cls=.type "list")(hd:ol.dict=none)
  (hdat:ol.data=.seq items n) (hsz:items.size=prs.length) (hln:prs.length<=sizeLine)
  (ht:∀(j:Nat)(q:List Key×Addr×Value),prs[j]? =some q->∃b:Addr,items[j]? =some (.ref b)/\IsTup s.heap b #[.ref q.2.1,q.2.2]/\(TK prog w).is s.heap q.1 q.2.1)
  (h:∀h' tk,h'.DictOfH (TK prog w) s.heap.objs.size (gT [] prs)->(∀b o,s.heap.get? b=some o->h'.get? b=some o)->Q (.ref s.heap.objs.size) {s with heap:=h',toks:=tk}):
  wpAny (model prog w) A (call (.type "dict") [.ref l]) Q E s:=by
 refine callType_codes (Q₁:=fun obj s₁=>obj=.ref s.heap.objs.size/\s₁={s with heap:=s.heap.push {cls:=.type "dict",data:=.dict #[]}}) PySem.F.kt_called_dict (PySem.F.kt_typeCall_dict_1 _) PySem.F.entry_dict_init (kt_code_dict_new _ ⟨rfl,rfl⟩) ?_;rintro obj s₁ ⟨rfl,rfl⟩;have hnew:(s.heap.push {cls:=.type "dict",data:=.dict #[]}).DictOfH (TK prog w) s.heap.objs.size []:=Heap.DictOfH.new s.heap;have k0:∀b o,s.heap.get? b=some o->(s.heap.push {cls:=.type "dict",data:=.dict #[]}).get? b=some o:=fun b o e=>Heap.get?_push_of_some _ e
 refine⟨hnew.typeIs,PySem.F.args_dict_init_2 _ _,?_⟩;unfold Builtin.«dict.__init__»;refine wpAny_bind ?_;unfold Builtin.Dict.selfAndRest;refine wpAny_bind (wpAny_notOrdered_dict hnew.typeIs ?_);show wpAny _ _ (pure (s.heap.objs.size,[Value.ref l])) _ _ _
 refine wpAny_pure ?_;show wpAny _ _ (Builtin.Dict.updateFrom "dict.__init__" s.heap.objs.size (.ref l) [] .none) _ _ _
 unfold Builtin.Dict.updateFrom;refine wpAny_bind (wpAny_typeOf (T:= "list") ⟨ol,k0 _ _ hl,hc⟩ ?_);rw[if_pos (by first|decide|rfl|simp)];refine wpAny_bind (DA (k0 _ _ hl) hc hdat hd hh fun h1 tk1 hk1=>?_);rw[if_pos (show(none:Option Value).isNone=true from rfl)];refine wpAny_bind (wpAny_rule ?_);have hl1:h1.IsList l items:=⟨ol,hk1 _ _ (k0 _ _ hl),hc,n,hdat⟩;have hS1:s.heap.objs.size<h1.objs.size:=by have e:(s.heap.push {cls:=.type "dict",data:=.dict #[]}).get? s.heap.objs.size=some {cls:=.type "dict",data:=.dict #[]}:=Heap.get?_push_size _ rfl;exact Heap.lt_size (hk1 _ _ e)
 refine wpAny_bind (wpAny_pyIter_list hl1 ?_);have k2:∀b o,h1.get? b=some o->(h1.push {cls:=.type "list_iterator",data:=.fields #[.ref l,.int 0 0]}).get? b=some o:=fun b o e=>Heap.get?_push_of_some _ e
 have kk:∀b o,s.heap.get? b=some o->(h1.push {cls:=.type "list_iterator",data:=.fields #[.ref l,.int 0 0]}).get? b=some o:=fun b o e=>k2 _ _ (hk1 _ _ (k0 _ _ e))
 have key:=JW (prog:=prog) (w:=w) (A:=A.in1) (R:=wants (fun r s₂=>r=.none/\Q (.ref s.heap.objs.size) s₂) E) (S:=s.heap.objs.size) (I:=h1.objs.size) (l:=l) (items:=items) (res:=Value.none) (h0:=s.heap) hh hu (Nat.ne_of_lt hS1)
  ⟨ol,hl,hc,n,hdat⟩ (fun b q z=>Nat.ne_of_lt (Heap.lt_size z)) (fun b q z=>Nat.ne_of_lt (Nat.lt_trans (Heap.lt_size z) hS1)) prs 0 [] 0 0
  {s with heap:=h1.push {cls:=.type "list_iterator",data:=.fields #[.ref l,.int 0 0]},toks:=tk1} (by rw[hsz,Nat.zero_add]) (by rw[List.length_nil,Nat.zero_add];exact hln) (fun x hx=>nomatch hx)
  (fun j q e=>by rw[Nat.zero_add];exact ht j q e) kk ⟨_,Heap.get?_push_size _ rfl,rfl,rfl⟩ (nV hnew (fun q z=>k2 _ _ (hk1 _ _ z)) fun x hx=>nomatch hx)
  (fun h' tk hd' k=>⟨rfl,h h' tk hd' k⟩)
 first
  |exact wpAny_pure ⟨plainId_quiet jS _,key⟩
  |exact wpAny_bind (wpAny_pure (wpAny_pure ⟨plainId_quiet jS _,key⟩))
end
noncomputable def gS(kvs more:List (List Key×V)):List (List Key×V):=more.foldl (fun acc kv=>putK acc kv.1 kv.2) kvs
theorem wM{H:Hp}:∀{more:List (List Key×V)}{prs:List (List Key×Addr×Value)}{kvs:List (List Key×V)}{acc:List (List Key×Addr×Value)},KT H more prs->KT H kvs acc->KT H (gS kvs more) (gT acc prs)
 |_,_,_,_,.nil,r=>r
 |kv::_,q::_,kvs,acc,.cons ⟨e1,e2,e3⟩ t,r=>by
  show KT H (gS (putK kvs kv.1 kv.2) _) (gT (storedH acc q.1 q.2.1 q.2.2) _)
  refine wM t ?_;have:=r.put kv.1 e2 e3;rw[e1]at this ⊢;exact this
theorem oR:∀(more kvs:List (List Key×V)),(gS kvs more).length<=kvs.length+more.length
 |[],kvs=>by simp[gS]
 |kv::r,kvs=>by
  have h1:=oR r (putK kvs kv.1 kv.2);have h2:=k7 kvs kv.1 kv.2;show(gS (putK kvs kv.1 kv.2) r).length<=_
  rw[List.length_cons];omega
section
variable {X:Cx}
theorem BA(hcalm:X.calm=true)(hu:X.A.units+2<cLine):jM X (.type "dict") (fun xs H Q=>∃(a:Addr)(ps:List Addr)(kvs:List (List Key×V)),xs=[.ref a]/\SqL X.K H a (ps.map V.ref)/\Paired (fun p (kv:List Key×V)=>∃q,H p=some (.tup [.ref q,kv.2])/\H q=some (.tup (kv.1.map kV))) ps kvs/\
  ∀p,H p=none->Q (.ref p) (upd H p (.dT (gS [] kvs)))):=by
 intro pins s σ H xs us Q I r h;obtain⟨a,ps,kvs,ex,hq,hp,h⟩:=h;subst ex;obtain⟨u,eu,rx⟩:=vals1 r;subst eu;cases rx;obtain⟨its,rv,pl,hz⟩:=I.list hq;have ei:=iZ rv;subst ei;rw[List.length_map]at hz;have hpr:∀{ps:List Addr}{kvs:List (List Key×V)},Paired (fun p (kv:List Key×V)=>∃q,H p=some (.tup [.ref q,kv.2])/\H q=some (.tup (kv.1.map kV))) ps kvs ->
   ∃prs:List (List Key×Addr×Value),KT H kvs prs/\prs.length=ps.length/\∀(j:Nat)(q:List Key×Addr×Value),prs[j]? =some q->∃b,ps[j]? =some b/\IsTup s.heap b #[.ref q.2.1,q.2.2]/\(TK X.prog X.w).is s.heap q.1 q.2.1:=by
  intro ps kvs hp;induction hp with
  |nil=>exact⟨[],.nil,rfl,fun j q e=>by simp at e⟩
  | @cons p kv ps kvs hq t ih=>
   obtain⟨prs,r1,r2,r3⟩:=ih;obtain⟨b,hb1,hb2⟩:=hq;obtain⟨its,rv,ht,_⟩:=I.tuple (SqT.of (K:=X.K) hb1);obtain⟨u,y,ei,ru,ry⟩:=vals2 rv;subst ei;cases (show u=Value.ref b from ru);refine⟨(kv.1,b,y)::prs,.cons ⟨rfl,hb2,ry⟩ r1,by rw[List.length_cons,List.length_cons,r2],fun j q e=>?_⟩;cases j with
   |zero=>have e':(kv.1,b,y)=q:=Option.some.inj e;subst e';exact⟨p,rfl,ht,k9 I.hok hb2⟩
   |succ j=>obtain⟨c,e1,e2,e3⟩:=r3 j q (by simpa using e);exact⟨c,by simpa using e1,e2,e3⟩
 obtain⟨prs,rel,hl,hpr⟩:=hpr hp;obtain⟨o,n,ho,hc,hd,hdat⟩:=pl;refine z4 (prs:=prs) (I.ok.hd hcalm) hu ho hc hd hdat (by simp[hl]) (by rw[hl];exact hz) (fun j q' e=>?_) fun h' tk hd' k=>?_
 ·obtain⟨b,e1,e2,e3⟩:=hpr j q' e;exact⟨b,by simp[e1],e2,e3⟩
 ·have hm:(s.heap.objs.size==sysModules)=false:=beq_eq_false_iff_ne.mpr (Nat.ne_of_gt I.big);have hlen:(gS [] kvs).length<=sizeLine:=by have h1:=oR kvs [];have h2:=pairs_len hp;rw[List.length_nil]at h1;omega
  have kt:=wM rel (.nil:KT H [] []);obtain⟨q,es,ep,hq',h2,h3,h4,_,h5⟩:=hd';refine⟨.ref s.heap.objs.size,_,I.laid (a:=s.heap.objs.size) (o:=.dT (gS [] kvs)) k (Nat.le_refl _) ⟨hlen,hm,_,kt.keeps fun c ys ec=>?_,q,es,ep,hq',h2,h3,h4,h5⟩,rfl,h _ (I.hok.fresh (Nat.le_refl _))⟩;rw[aA (aG ec (I.hok.fresh (Nat.le_refl _)))];exact ec
end
end L3
namespace L3
open PySem PySem.Spec PyProof.Rows L2
theorem L6{A:Around}{k:Nat}(hr:cQ k A):A.units+2<cLine:=Nat.lt_of_le_of_lt (Nat.add_le_add_left (by decide:2<=64) _) hr.units
theorem BK{H:Hp}:∀{xs:List V}{ps:List PI},Paired (T2 H) xs ps->∃as:List Addr,xs=as.map V.ref
 |_,_,.nil=>⟨[],rfl⟩
 |_,_,.cons ⟨a,e,_⟩ t=>by obtain⟨as,rfl⟩:=BK t;exact⟨a::as,by rw[e];rfl⟩
theorem DU{α:Type}{l:List α}{i:Nat}{x:α}(h:l[i]? =some x):i<l.length:=(List.getElem?_eq_some_iff.mp h).1
end L3
namespace L3
open PySem PySem.Spec PyProof.Rows L2
theorem rT{κ:Type}[DecidableEq κ]{kf:κ->List Key}(hk:∀p q,kf p=kf q->p=q):∀(more kvs:List (κ×V)),gS (kvF kf kvs) (kvF kf more)=kvF kf (RM.bS kvs more)
 |[],kvs=>rfl
 |x::r,kvs=>by
  show gS (putK (kvF kf kvs) (kf x.1) x.2) (kvF kf r)=kvF kf (RM.bS (RM.dD kvs x.1 x.2) r)
  rw[zU hk,rT hk r]
theorem D6{L:List PI}(h:L.Nodup):gS [] (kvF k2 (KS L))=kvF k2 (KS L):=by have e:=rT (kf:=k2) (fun _ _=>AK) (KS L) [];rw[RM.pM (KS L) [] (by rw[wN];exact h) (by intro k _ z;cases z),List.nil_append]at e;exact e
def cnt(σ:L2.St)(i:Nat):Nat:=match σ[i]? with|some (some (.int k))=>k.toNat|_=>0
theorem T2.QF{a:Addr}{H H':Hp}{v:V}{p:PI}{kvs:List (PI×V)}(h:T2 H v p)(e:But a H H')(ha:D2 H a kvs):T2 H' v p:=h.but e ha (by intro _ z;cases z)
end L3
namespace L3
open PySem PySem.Spec PyProof.Rows L2
theorem IX{α:Type}{ws:List α}{q:α}{n:Nat}(hn:ws.length=n)(hq:ws[n - 1]? =some q):ws=ws.dropLast++[q]:=by
 subst hn;have hne:ws≠[]:=by intro z;rw[z]at hq;cases hq
 have e:=(List.dropLast_concat_getLast hne).symm;rw[List.getLast_eq_getElem]at e;have e2:=(List.getElem?_eq_some_iff.mp hq).2;rw[e2]at e;exact e
end L3
namespace L3
open PySem PySem.Spec PyProof.Rows L2
noncomputable def LS(H:Hp)(a:Addr)(ts:List PI3):Prop:=∃xs,H a=some (.lst xs)/\Paired (T3 H) xs ts
noncomputable def LLS(H:Hp)(a:Addr)(Fs:List (List PI3)):Prop:=∃bs:List Addr,H a=some (.lst (bs.map V.ref))/\Paired (LS H) bs Fs
theorem LS.mono{H H':Hp}{a:Addr}{ts:List PI3}(e:a9 H H')(h:LS H a ts):LS H' a ts:=let⟨xs,h1,h2⟩:=h;⟨xs,e _ _ h1,aJ (fun _ _ q=>q.mono e) h2⟩
theorem LLS.mono{H H':Hp}{a:Addr}{Fs:List (List PI3)}(e:a9 H H')(h:LLS H a Fs):LLS H' a Fs:=let⟨bs,h1,h2⟩:=h;⟨bs,e _ _ h1,aJ (fun _ _ q=>LS.mono e q) h2⟩
theorem LS.upd{H:Hp}{b D:Addr}{ts:List PI3}{xs:List V}{o:HO}(h:LS H b ts)(hD:H D=some (.lst xs))(n:b≠D):LS (L2.upd H D o) b ts:=by obtain⟨ys,q,pr⟩:=h;exact⟨ys,by rw[aA n];exact q,aJ (fun _ _ z=>z.upd hD) pr⟩
theorem pZ{α β:Type}{R:α->β->Prop}:∀{l:List α}{m:List β}{b:β},Paired R l (m++[b])->∃l' a,l=l'++[a]/\Paired R l' m/\R a b
 |_,[],_,.cons r .nil=>⟨[],_,rfl,.nil,r⟩
 |_,_::m,_,.cons r t=>by obtain⟨l',a,e,h1,h2⟩:=pZ (m:=m) t;exact⟨_::l',a,by rw[e];rfl,.cons r h1,h2⟩
end L3
namespace L3
open PySem PySem.Spec PySem.Calls PyProof.Rows L2
section
variable {M:Model}{A:Around}{E:Value->Shared->Prop}
variable {nm q nm' q':Str}{C N C' N':Addr}{bs bm bs' bm':List Value}{hdct hdct':Bool}{sn sn':List Str}{sub sub':List Value}{ab ab':Bool}{col col':Option Bool}{dd dd':Option Addr}{k0 k1 k2 k3 k5 l0 l1 l2 l3 l5:Option Value}{newId newId':String}
theorem tO{h:Heap}{g:Array GenState}{d:Drawn}{t:Nat}{os:OsState}{e:Addr}{oe:Obj}{Q:Bool->Shared->Prop}
  (hC:h.get? C=some (excClassObj nm q C N bs bm hdct sn sub ab col dd k0 k1 k2 k3 k5 newId)) (hD:h.get? C'=some (excClassObj nm' q' C' N' bs' bm' hdct' sn' sub' ab' col' dd' l0 l1 l2 l3 l5 newId'))
  (he:h.get? e=some oe) (hcls:oe.cls=.ref C) (hbase:bm'.contains (.type "BaseException")=true) (hno:(Value.ref C::bm).contains (.ref C')=false) (hq:Q false ⟨h,g,d,t,os⟩):wpAny M A (excMatches (.ref e) (.ref C')) Q E ⟨h,g,d,t,os⟩:=by
 have hcB:(Value.ref C'::bm').contains (.type "BaseException")=true:=by rw[List.contains_cons,hbase,Bool.or_true]
 have f:=tc_notTuple;unfold excMatches
 repeat (first|(with_reducible refine wpAny_loadPart_at he ?_;rw[hcls])|with_reducible refine wpAny_loadPart_at hD ?_|(with_reducible refine wpAny_isSubtype_exc hD ?_;rw[hcB])|(with_reducible refine wpAny_isSubtype_exc hC ?_;rw[hno])|wp_step)
 exact hq
end
end L3
namespace L3
open PySem PySem.Spec PySem.Calls PyProof.Rows L2
noncomputable def cxL(P:Program)(w:World)(K:W.Frag)(mg:Str->Option Value)(base:Heap)(N:List Str)(qual:Str)(scope:Scope)(f:Addr)(cd:Value)(cl:List (Str×Addr))(A:Around)(outer:List Env)(s:Shared)(H:Hp)(E:XK):Cx where
 prog:=P
 w:=w
 K:=K
 mg:=mg
 base:=base
 A:=A.deeper (W.envX qual scope s.heap.objs.size f cd cl)
 N:=N
 s_0:=s
 H_0:=H
 env:=W.envX qual scope s.heap.objs.size f cd cl
 outer:=outer
 stack:=W.envX qual scope s.heap.objs.size f cd cl::outer
 ex:=[]
 calm:=true
 fn:=fun _=>false
 pn:=[]
 xe:=fun e s'=>wpAny (model P w) (A.deeper (W.envX qual scope s.heap.objs.size f cd cl)) (leaving (W.envX qual scope s.heap.objs.size f cd cl) e) (fun _ s''=>CXf outer H s E e s'') (fun e' s''=>CXf outer H s E e' s'') s'
section
variable {P:Program}{w:World}{K:W.Frag}{mg:Str->Option Value}{base:Heap}{N:List Str}{qual:Str}{scope:Scope}{f:Addr}{cd:Value}{cl:List (Str×Addr)}{A:Around}{outer:List Env}{s:Shared}{H:Hp}{E:XK}
theorem JV(hok0:HOk P w H s.heap):Passes CXf (cxL P w K mg base N qual scope f cd cl A outer s H E) (fun c _ _=>E c none H):=by
 intro pins σ H1 s1 e s' I h;obtain⟨ae,C,rfl,⟨⟨a0,fl⟩,sl,os,bare⟩,hE⟩:=h;have fl2:Heap.FlyingW (fZ s.heap H (frs outer++[])) (cxL P w K mg base N qual scope f cd cl A outer s H E).stack ae (.ref C) a0 s'.heap:=
  W.flyingW_base (fun b o q=>by
   obtain⟨z1,z2,z3,_⟩:=stays I hok0 (ex:=[]) (fun _ z=>z) q;exact gH z1 z2 (by rw[nF];exact z3)) fl
 refine wpAny_leaves_onW (L:=s.heap.objs.size) (outer:=outer) I.ok.frames rfl fl2 fun h2 fl3 up=>?_
 refine⟨ae,C,rfl,⟨⟨_,fl3⟩,fun b hb o q=>?_,os.trans I.os,bare⟩,hE⟩;have hbs:b∈frs (cxL P w K mg base N qual scope f cd cl A outer s H E).stack:=by
  show b∈frs (_::outer)
  unfold frs;rw[List.filterMap_cons];exact List.mem_cons_of_mem _ hb
 obtain⟨sl1,q1⟩:=jV I hb (by intro z;exact nomatch z) q;obtain⟨sl2,q2⟩:=sl b hbs _ q1;obtain⟨o3,q3,nf⟩:=(fl.2.2.1.mem (b:=b) hbs).2;rw[q2]at q3;cases q3;obtain⟨sl3,q4⟩:=up b _ q2 nf;exact⟨sl3,q4⟩
theorem IY{k:Nat}{name:Str}{params:Arguments}{body:Expr}{pm ctv:Value}{c':Addr}{Q:VK}{te:TE}{vs:List V}(hr:cQ (k+1) A)(e0:nZ P w K mg base A outer s H)
  (ho:s.heap.get? f=some (W.kla_obj name qual params body scope cl pm c' ctv)) (hcd:s.heap.CodeRec (.ref c') qual) (hbind:bindArgs (W.kla_fn name qual params body scope cl pm (.ref c') ctv) ⟨[],[]⟩=pure [])
  (hk:scope.kind=.function) (hco:scope.isCoroutine=false) (hgen:scope.isGenerator=false) (hnc:∀x∈scope.names,x.2≠ .cell) (hnl:∀x,scope.names.lookup x≠some .local) (hN:vs.length=N.length)
  (inj:∀x y c,cl.lookup x=some c->cl.lookup y=some c->x=y) (has:∀x,scope.names.lookup x=some .free->∃c,cl.lookup x=some c)
  (hcl:∀x c,cl.lookup x=some c->H c=none/\∃v,s.heap.IsCell c v) (hv:∀(i:Nat)(x:Str)(v:V),N[i]? =some x->vs[i]? =some v->scope.names.lookup x=some .free->∃c u,cl.lookup x=some c/\RelV v u/\s.heap.IsCell c (some u))
  (hpe:cQ k (A.deeper (W.envX qual scope s.heap.objs.size f (.ref c') cl))->HOk P w H s.heap->PE (cxL P w K mg base N qual scope f (.ref c') cl A outer s H E) body te) (hq:te (vs.map some) H Q):
  codeAny (model P w) A (.call (.ref f) ⟨[],[]⟩) (CR CXf outer P w H s Q E) s:=by
 have lim:s.heap.NoLimit:=e0.mod.nolimit.keeps fun b o e=>(e0.bs b o e).1
 refine W.kla_callFunE hr.depth ho rfl hco hgen rfl hcd ?_;rw[hbind];refine wpAny_pure (wpAny_newFunctionEnv hnc (fun x hx=>nomatch hx) (fun h1 hns hsb=>?_) hk);have kp:∀b o,s.heap.get? b=some o->h1.get? b=some o:=fun b o e=>(hsb.2 b (Nat.ne_of_lt (Heap.lt_size e))).trans (Heap.get?_push_of_some _ e)
 refine⟨lim.keeps kp,?_⟩;show codeAny _ _ (.expr body (W.envX qual scope s.heap.objs.size f (.ref c') cl)) _ _
 have cat:∀{c:Addr}{v:Option Value},s.heap.IsCell c v->h1.IsCell c v:=fun⟨o,e,d⟩=>⟨o,kp _ _ e,d⟩
 have I:Inv (cxL P w K mg base N qual scope f (.ref c') cl A outer s H E) [] (vs.map some) H {s with heap:=h1,toks:=s.toks+([]:List (Str×Value)).length}:=by
  refine⟨⟨e0.mod,hk,rfl,rfl,Nat.le_refl _,inj,fun x hx=>?_,fun x c hx=>(nomatch hx),fun _=>hr.hd,Around.frames_deeper e0.frames,.inr ⟨rfl,rfl⟩,fun b z=>(nomatch z),e0.bs,e0.bsz,fun b _ _ z=>(nomatch z),fun b z=>(nomatch z),e0.kA,e0.frf⟩,
   rfl,e0.bare,Un.kept kp,⟨_,hns,fun i x v h1 h2 h3=>?_⟩,fun x c e=>?_,e0.hok.fresh (Nat.le_refl _),fun x c e=>(hcl x c e).1,fun p hp=>(nomatch hp),e0.hok.kept kp,by rw[List.length_map];exact hN⟩
  ·rcases hx with hx|hx
   ·exact absurd rfl (hnc _ (PySem.mem_of_lookup (show scope.names.lookup x=some .cell from hx)))
   ·exact has x hx
  ·have e2:vs[i]? =some v:=by
    rw[List.getElem?_map]at h2;cases e:vs[i]? with
    |none=>rw[e]at h2;cases h2
    |some z=>rw[e]at h2;cases h2;rfl
   rcases h3 with h3|h3|h3
   ·exact absurd h3 (hnl x)
   ·exact absurd rfl (hnc _ (PySem.mem_of_lookup (show scope.names.lookup x=some .cell from h3)))
   ·obtain⟨c,u,a1,a2,a3⟩:=hv i x v h1 e2 h3;exact⟨u,a2,.inr ⟨.inr h3,c,a1,cat a3⟩⟩
  ·obtain⟨v,hcv⟩:=(hcl x c e).2;exact⟨v,cat hcv⟩
 refine W.kla_codeExpr (wpAny_mono (hpe (hr.deeper _) e0.hok [] _ (vs.map some) H Q I hq) (fun u s' h=>?_) fun e s' h=>h);obtain⟨v,H',J,rv,q⟩:=h;exact⟨v,H',J.os,J.bare,J.base,J.hok,rv,q⟩
end
end L3
namespace L3
open PySem PySem.Spec PySem.Calls PyProof.Rows L2
def Flat(H:Hp):Prop:=∀b,H b=none\/∃o u,H b=some (.frz o u)
def cxE(X:Cx)(xe:Value->Shared->Prop):Cx:={X with xe:=xe}
noncomputable def cxM(X:Cx)(e:Value)(xe:Value->Shared->Prop):Cx:={X with A:=X.A.mark (some e),calm:=false,xe:=xe}
section
variable {X:Cx}{pins:List (Addr×Obj)}{σ:L2.St}{H:Hp}{s:Shared}{e:Value}{xe:Value->Shared->Prop}
theorem IZ(I:Inv X pins σ H s):Inv (cxE X xe) pins σ H s:=by obtain⟨⟨o1,o2,o3,o4,o5,o6,o7,o8,o9,o10,o11,o12,o13,o14,o15,o16,o17,o18⟩,i1,i2,i3,i4,i5,i6,i7,i8,i9,i10⟩:=I;exact⟨⟨o1,o2,o3,o4,o5,o6,o7,o8,o9,o10,o11,o12,o13,o14,o15,o16,o17,o18⟩,i1,i2,i3,i4,i5,i6,i7,i8,i9,i10⟩
theorem AR(I:Inv (cxE X xe) pins σ H s):Inv X pins σ H s:=by obtain⟨⟨o1,o2,o3,o4,o5,o6,o7,o8,o9,o10,o11,o12,o13,o14,o15,o16,o17,o18⟩,i1,i2,i3,i4,i5,i6,i7,i8,i9,i10⟩:=I;exact⟨⟨o1,o2,o3,o4,o5,o6,o7,o8,o9,o10,o11,o12,o13,o14,o15,o16,o17,o18⟩,i1,i2,i3,i4,i5,i6,i7,i8,i9,i10⟩
theorem BZ(I:Inv X pins σ H s):Inv (cxM X e xe) pins σ H s:=by obtain⟨⟨o1,o2,o3,o4,o5,o6,o7,o8,o9,o10,o11,o12,o13,o14,o15,o16,o17,o18⟩,i1,i2,i3,i4,i5,i6,i7,i8,i9,i10⟩:=I;exact⟨⟨o1,o2,o3,o4,o5,o6,o7,o8,fun z=>(nomatch z),o10,o11,o12,o13,o14,o15,o16,o17,o18⟩,i1,i2,i3,i4,i5,i6,i7,i8,i9,i10⟩
theorem AQ(ok:X.Ok)(I:Inv (cxM X e xe) pins σ H s):Inv X pins σ H s:=by obtain⟨_,i1,i2,i3,i4,i5,i6,i7,i8,i9,i10⟩:=I;exact⟨ok,i1,i2,i3,i4,i5,i6,i7,i8,i9,i10⟩
theorem yD(I:Inv X pins σ H s)(fl:Flat H){C ae:Addr}{a0:Value}{s2:Shared}(hf:Heap.FlyingW (fZ s.heap H (frs X.stack++[])) X.stack ae (.ref C) a0 s2.heap)
  (sl:∀b∈frs X.stack,∀o,s.heap.get? b=some o->∃sl,s2.heap.get? b=some {o with slots:=sl}) (os:s2.os=s.os) (bare:AllBare s2.gens):Inv X pins σ H s2:=by
 have st:∀b o,s.heap.get? b=some o->b∉frs X.stack->s2.heap.get? b=some o:=fun b o e hb=>hf.1 b o (gH e (by rcases fl b with q|⟨o,u,q⟩<;>rw[q]<;>rfl) (by rw[nF];exact hb))
 have un:Un (frs X.stack) [] H H s.heap s2.heap:=
  ⟨fun b o e _ hb _=>st b o e hb,fun b o e _ hb _=>sl b hb o e,fun _ _ _ n _=>n,fun b o e _=>by
   by_cases hb:b∈frs X.stack
   ·obtain⟨sl,q⟩:=sl b hb o e;exact⟨_,q⟩
   ·exact⟨_,st b o e hb⟩,fun _ _ q=>q,fun _ _ _ q=>q,fun _ ps q=>⟨#[],by rw[q];simp⟩⟩
 refine I.CC os un (fun a o e=>?_) bare (fun b z=>(nomatch z));have na:a∉frs X.stack:=fun z=>by have:=I.vL a z;rw[this]at e;cases e
 refine(I.hok a o e).mT (fun b u hb q=>?_) (fun b z=>z) (fun b xs z=>z);rcases hb with rfl|hb
 ·exact st b u q na
 ·rcases fl b with z|⟨_,_,z⟩<;>rw[z]at hb<;>cases hb
theorem rH{h:Heap}{l:List Env}{base h1 h2:Heap}(fr:h1.FunFrames base l)(sl:∀b∈frs l,∀o,h.get? b=some o->∃sl,h1.get? b=some {o with slots:=sl})(up:h1.UpToSlots h2):
  ∀b∈frs l,∀o,h.get? b=some o->∃sl,h2.get? b=some {o with slots:=sl}:=fun b hb o q=>by
 obtain⟨sl2,q2⟩:=sl b hb o q;obtain⟨o3,q3,nf⟩:=(fr.mem (b:=b) hb).2;rw[q2]at q3;cases q3;obtain⟨sl3,q4⟩:=up b _ q2 nf;exact⟨sl3,q4⟩
end
structure HD where
 x:Str
 C:Addr
 k:Int
 np:Pos
 p1:Pos
 p2:Pos
 p3:Pos
 p4:Pos
 pos:Pos
noncomputable def HD.st(d:HD):Stmt:=.Return (some (.List [.UnaryOp .USub (.Constant (.int d.k) 0 d.p1) d.p2] d.p3)) d.p4
def HD.h(d:HD):ExceptHandler:=.ExceptHandler (some (.Name d.x d.np)) none [d.st] d.pos
noncomputable def gP(base:Heap)(C:Addr):Prop:=∃(nm q:Str)(N:Addr)(bs bm:List Value)(hdct:Bool)(sn:List Str)(sub:List Value)(ab:Bool)(col:Option Bool)(dd:Option Addr)(k0 k1 k2 k3 k5:Option Value)(newId:String),
 base.get? C=some (excClassObj nm q C N bs bm hdct sn sub ab col dd k0 k1 k2 k3 k5 newId)/\bm.contains (.type "BaseException")=true/\∀D,bm.contains (.ref D)=false
structure UY(X:Cx)(d:HD):Prop where
 bound:X.mg d.x=some (.ref d.C)
 gl:Gl X d.x
 cl:gP X.base d.C
 nd:(d.x==("__debug__" : Str))=false
section
variable {X:Cx}{pins:List (Addr×Obj)}{σ:L2.St}{H:Hp}{s:Shared}{e C:Addr}{Q:Flow->Shared->Prop}{E:Value->Shared->Prop}
theorem qG(I:Inv X pins σ H s)(hx:gP X.base C)(he:∃oe,s.heap.get? e=some oe/\oe.cls=.ref C):
  ∀(l:List HD),(∀d∈l,UY X d)->(∃d∈l,d.C=C) ->
   (∀d∈l,d.C=C->∀E',wpAny (model X.prog X.w) (X.A.mark (some (.ref e))) (setFlight (.ref e) none) (fun _ s1=>wpAny (model X.prog X.w) (X.A.mark (some (.ref e))) (execs [d.st] X.env) Q E' s1) E' s) ->
   wpAny (model X.prog X.w) X.A (handleBy (.ref e) X.env (l.map HD.h)) Q E s
 |[],_,hex,_=>by obtain⟨d,hd,_⟩:=hex;exact(nomatch hd)
 |d::r,hok,hex,hit=>by
  have ih:=qG I hx he r (fun d hd=>hok d (List.mem_cons_of_mem _ hd));obtain⟨oe,heo,hcls⟩:=he;have D:=hok d List.mem_cons_self;obtain⟨nm,q,N,bs,bm,hdct,sn,sub,ab,col,dd,k0,k1,k2,k3,k5,newId,hC,hb,hn⟩:=hx;obtain⟨nm',q',N',bs',bm',hdct',sn',sub',ab',col',dd',l0,l1,l2,l3,l5,newId',hC',hb',hn'⟩:=D.cl;refine wpAny_handleBy_cons (codeAny_handlers_test (j7 (BZ (e:=.ref e) (xe:=fun _ _=>False) I) D.gl D.bound ?_ D.nd)) (by intro q;cases q);by_cases hdc:d.C=C
  ·have hC2:=I.bk _ _ hC';have hc2:oe.cls=.ref d.C:=by rw[hcls,hdc]
   exact wpAny_excMatches_sub_self (h:=s.heap) (g:=s.gens) hC2 heo hc2 hb' (codeAny_handlers_suite (hit d List.mem_cons_self hdc _))
  ·refine tO (h:=s.heap) (g:=s.gens) (I.bk _ _ hC) (I.bk _ _ hC') heo hcls hb' ?_ ?_
   ·rw[List.contains_cons,hn];simp[hdc]
   ·refine ih ?_ fun d hd=>hit d (List.mem_cons_of_mem _ hd)
    obtain⟨d2,h2,h3⟩:=hex;rcases List.mem_cons.mp h2 with rfl|h2
    ·exact absurd h3 hdc
    ·exact⟨d2,h2,h3⟩
end
section
variable {P:Program}{w:World}{K:W.Frag}{mg:Str->Option Value}{base:Heap}
theorem JM{k:Nat}{f fl:Addr}{name qual:Str}{params:Arguments}{body:List Stmt}{scope:Scope}{dV kV doc pm cdv ct oc:Value}{an od:Option Addr}{osl:Array (Option Value)}{A:Around}{outer:List Env}{s:Shared}{H:Hp}{Q:VK}{E:XK}{l:List HD}{d0:HD}{r0:List HD}{p1 p2 p3 p4:Pos}
  (lk:K.lookup f=some ⟨oc,od,.func (W.fnOf name qual params body scope dV kV doc pm an cdv ct),osl⟩) (hcd:W.codeIn K cdv qual=true) (S:aL ["tell"] ["tell"] scope) (hloc:scope.names.lookup ("tell" : Str)=some NameKind.local)
  (hbody:body=[.Try [.Return (some (.Call (.Name "tell" p1) [] [] p2)) p3] (l.map HD.h) [] [] p4]) (hl:l=d0::r0)
  (hr:cQ (k+1) A) (e0:nZ P w K mg base A outer s H) (hb:BindsTo s (W.fnOf name qual params body scope dV kV doc pm an cdv ct) ⟨[.ref fl],[]⟩ ([("tell" : Str)].zip [.ref fl])) (flat:Flat H)
  (hd:∀d∈l,mg d.x=some (.ref d.C)/\scope.names.lookup d.x=some .globalImplicit/\gP base d.C/\(d.x==("__debug__" : Str))=false)
  (hfl:W.FnAt fl s.heap) (hH:H fl=none) (hno:fl∉frs outer)
  (hcall:∀(A1:Around)(outer1:List Env)(s1:Shared),cQ k A1->nZ P w K mg base A1 outer1 s1 H->(∀b o,s.heap.get? b=some o->H b=none->b∉frs outer->s1.heap.get? b=some o) ->
   codeAny (model P w) A1 (.call (.ref fl) ⟨[],[]⟩) (CR CXf outer1 P w H s1 Q (fun c _ _=>∃C,c=.ref C/\(∃d∈l,d.C=C)/\∀d∈l,d.C=C->∀p,H p=none->Q (.ref p) (upd H p (.lst [.int (-d.k)])))) s1):
  codeAny (model P w) A (.call (.ref f) ⟨[.ref fl],[]⟩) (CR CXf outer P w H s Q E) s:=by
 have KX:K.In s.heap:=e0.mod.kin.keeps fun b o e=>(e0.bs b o e).1
 have lim:s.heap.NoLimit:=e0.mod.nolimit.keeps fun b o e=>(e0.bs b o e).1
 have hkind:∀y∈[("tell" : Str)].zip [Value.ref fl],scope.names.lookup y.1=some .local\/(scope.names.lookup y.1=some .cell/\((cellsFrom (s.heap.objs.size+1) scope.names []).lookup y.1).isSome=true):=fun⟨n,v⟩ hy=>by
  rcases S.par n (List.of_mem_zip hy).1 with q|q
  ·exact .inl q
  ·exact .inr ⟨q,W.cellsFrom_some _ _ _ (.inl q)⟩
 refine codeAny_call_function hr.depth (KX _ _ lk) rfl S.co S.gen rfl (W.codeRec_of KX hcd) (hb _ _ _ _ ?_);refine wpAny_newFunctionEnv_cells S.kind hkind fun env he s1 x=>?_
 subst he;refine⟨lim.keeps x.toInCall.keep,codeAny_func ?_⟩;have I:Inv (cxF P w K mg base ["tell"] qual scope f cdv A outer s H E) [] (start ["tell"] [.ref fl]) H s1:=pB S hr.hd e0 rfl (.cons rfl .nil) x;have hrd:=hr.deeper (envOfC qual scope s.heap.objs.size f cdv);let X:=cxF P w K mg base ["tell"] qual scope f cdv A outer s H E
 have main:wpAny (model P w) X.A (execs body X.env) (SP X [] {nx:=fun _ _=>False,rt:=Q}) X.xe s1:=by
  rw[hbody,hl];have after:∀(f:Flow)(s1:Shared),SP X [] {nx:=fun _ _=>False,rt:=Q} f s1->(match f with| .next=>wpAny (model P w) X.A (execs [] X.env) (SP X [] {nx:=fun _ _=>False,rt:=Q}) X.xe s1|f=>SP X [] {nx:=fun _ _=>False,rt:=Q} f s1):=fun f s1 q=>by
   cases f with
   |next=>exact wpAny_execs_nil q
   |ret v=>exact q
   |brk=>exact q
   |cont=>exact q
  refine wpAny_execs_cons (wpAny_mono (wpAny_Try_except (Q:=SP X [] {nx:=fun _ _=>False,rt:=Q}) ?_) after fun _ _ q=>q);have hv:∀E',wpAny (model P w) X.A (eval (.Name "tell" p1) X.env) (EP (cxE X E') [] (start ["tell"] [.ref fl]) (fun v H'=>v=V.ref fl/\H'=H)) E' s1:=fun E'=>
   FG (X:=cxE X E') (i:=0) rfl (.inl hloc) (by decide) (by decide) [] s1 _ H (fun v H'=>v=V.ref fl/\H'=H) (IZ I) ⟨.ref fl,rfl,rfl,rfl⟩
  refine wpAny_execs_cons (wpAny_Return_some (wpAny_Call_Name_kw (thn (hv _) fun u s2 hu=>?_)));obtain⟨v,H',J,rv,rfl,rfl⟩:=hu;obtain rfl:u=.ref fl:=rv;have J:=AR J;have kp:∀b o,s.heap.get? b=some o->H' b=none->b∉frs outer->s2.heap.get? b=some o:=fun b o e1 e2 e3=>J.base.keep b o e1 e2 e3 (by intro z;exact(nomatch z))
  have fn2:W.FnAt fl s2.heap:=by obtain⟨a1,a2,a3,a4,a5⟩:=hfl;exact⟨a1,a2,a3,a4,kp _ _ a5 hH hno⟩
  refine W.callWith_F0 fn2 (wpAny_call (codeAny_mono (hcall _ _ s2 hrd J.GP kp) fun r s' hq=>?_));cases r with
  |ok f1=>
   cases f1 with
   |ret u=>obtain⟨v,H3,J3,rv3,q3⟩:=J.after hq;exact⟨v,_,H3,J3,rv3,q3⟩
   |next=>exact False.elim hq
   |brk=>exact False.elim hq
   |cont=>exact False.elim hq
  |error e=>
   obtain⟨ae,C,rfl,⟨⟨a0,fly⟩,sl,os,bare⟩,C2,hc2,hex,hE⟩:=hq;cases hc2;refine wpAny_looks_onW J.ok.frames rfl fly fun h4 held up4=>?_
   refine wpAny_landsW held fun h5 fly5 up5=>?_
   have sl4:=rH fly.2.2.1 sl up4;have sl5:=rH held.2.2.1 sl4 up5;have J5:Inv (cxF P w K mg base ["tell"] qual scope f cdv A outer s H' E) [] _ H' {s' with heap:=h5}:=yD J flat fly5 sl5 os bare;have hx:gP base C:=by obtain⟨d,h1,rfl⟩:=hex;exact(hd d h1).2.2.1
   have hea:∃oe,h5.get? ae=some oe/\oe.cls=.ref C:=by obtain⟨oe,ws,a1,a2,_⟩:=fly5.first;exact⟨oe,a1,a2⟩
   rw[<- List.map_cons (f:=HD.h),<- hl];refine qG (X:=cxF P w K mg base ["tell"] qual scope f cdv A outer s H' E) J5 hx hea l (fun d h1=>⟨(hd d h1).1,(hd d h1).2.1,(hd d h1).2.2.1,(hd d h1).2.2.2⟩) hex fun d h1 h2 E'=>?_
   refine lands_againW fly5 fun h6 fly6 up6=>?_
   have sl6:=rH fly5.2.2.1 sl5 up6;have J6:Inv (cxF P w K mg base ["tell"] qual scope f cdv A outer s H' E) [] _ H' {s' with heap:=h6}:=yD J flat fly6 sl6 os bare;have hrun:=aE (X:=cxM (cxF P w K mg base ["tell"] qual scope f cdv A outer s H' E) (.ref ae) fun _ _=>False) (aP (pos:=d.p4) (fO (pos:=d.p3) (a8 (JU (pos:=d.p2) ES (aQ (i:=d.k) (j:=0) (pos:=d.p1))) aC)))
    [] _ _ H' {nx:=fun _ _=>False,rt:=Q} (BZ J6) ⟨d.k,rfl,(by show 1<=sizeLine;decide),fun p hp=>hE d h1 h2 p hp⟩
   refine wpAny_mono hrun (fun f s3 q=>?_) fun _ _ q=>q.elim
   cases f with
   |next=>obtain⟨_,_,_,q⟩:=q;exact q.elim
   |brk=>obtain⟨_,_,_,q⟩:=q;exact q.elim
   |cont=>obtain⟨_,_,_,q⟩:=q;exact q.elim
   |ret u=>obtain⟨v,σ',H3,J3,rv3,q3⟩:=q;exact⟨v,σ',H3,AQ J6.ok J3,rv3,q3⟩
 refine wpAny_mono main (fun fl s' hs=>?_) fun e s' hs=>hs
 cases fl with
 |ret u=>obtain⟨v,σ',H',J,rv,q⟩:=hs;exact⟨v,H',J.os,J.bare,J.base,J.hok,rv,q⟩
 |next=>obtain⟨_,_,_,q⟩:=hs;exact False.elim q
 |brk=>obtain⟨_,_,_,q⟩:=hs;exact False.elim q
 |cont=>obtain⟨_,_,_,q⟩:=hs;exact False.elim q
end
end L3
namespace L3
open PySem PySem.Spec PySem.Calls PyProof.Rows L2
noncomputable def LX(mg:Str->Option Value)(h:Heap):Prop:=∃bm ob,mg "__builtins__" =some (.ref bm)/\bm≠builtinsNs/\bm≠mainGlobals/\h.get? bm=some ob/\ob.cls=.type "module" /\ob.dict=some builtinsNs/\ob.data=.plain
noncomputable def XA(l:List HD)(H:Hp)(Q:VK):XK:=fun c _ _=>∃C,c=.ref C/\(∃d∈l,d.C=C)/\∀d∈l,d.C=C->∀p,H p=none->Q (.ref p) (upd H p (.lst [.int (-d.k)]))
def hT(H:Hp)(T:Addr)(ps:Array Value):Hp:=upd H T (.frz (W.tabObj ps) (.tbl ps))
noncomputable def QW(T:Addr)(l:List HD)(pos:Pos)(teL:XK->Hp->TE):TE:=fun σ H Q=>∃(vs:List V)(ps:Array Value),σ=vs.map some/\H T=some (.tbl ps)/\TriplesOk ps.toList/\codeAmong pos ps.toList=none/\
 (∀b,b≠T->H b=none\/∃o u,H b=some (.frz o u))/\∀more,teL (XA l (hT H T (ps++more)) (fun v H3=>H3 T=some (.frz (W.tabObj (ps++more)) (.tbl (ps++more)))->Q v (upd H3 T (.tbl (ps++more))))) (hT H T (ps++more)) (vs.map some) (hT H T (ps++more))
  (fun v H3=>H3 T=some (.frz (W.tabObj (ps++more)) (.tbl (ps++more)))->Q v (upd H3 T (.tbl (ps++more))))
section
variable {X:Cx}
theorem LO{cells:List (Str×Addr)}{names:List (Str×NameKind)}(hf:∀y∈names,y.2=.free->∃c,cells.lookup y.1=some c){x:Str}{c:Addr}(h:(bF cells names []).lookup x=some c):(x,NameKind.free)∈names/\cells.lookup x=some c:=by
 rcases fJ (PySem.mem_of_lookup h)with h|⟨h1,h2⟩
 ·exact(nomatch h)
 ·obtain⟨c2,h3⟩:=hf _ h1 rfl;have h3:cells.lookup x=some c2:=h3;rw[h3]at h2;exact⟨h1,by rw[h3,h2];rfl⟩
theorem CB{cells:List (Str×Addr)}{names:List (Str×NameKind)}{x:Str}(h:names.lookup x=some .free):∃c,(bF cells names []).lookup x=some c:=mem_lookup (gY (PySem.mem_of_lookup h))
theorem KO{k:Nat}{x:Str}{f:Addr}{name qual:Str}{params:Arguments}{body:List Stmt}{scope:Scope}{dV kV doc pm cdv ct oc:Value}{an od:Option Addr}{osl:Array (Option Value)}{l:List HD}{d0:HD}{r0:List HD}{p1 p2 p3 p4 p posC pos:Pos}
  {paramsL:Arguments}{bodyL:Expr}{scopeL:Scope}{c T:Addr}{teL:XK->Hp->TE}
  (hm:X.mg x=some (.ref f)) (lk:X.K.lookup f=some ⟨oc,od,.func (W.fnOf name qual params body scope dV kV doc pm an cdv ct),osl⟩) (hcd:W.codeIn X.K cdv qual=true) (hkp:W.keepIn X.K (.ref f)=true)
  (hb:Binds X.K (W.fnOf name qual params body scope dV kV doc pm an cdv ct) ["tell"] []) (S:aL ["tell"] ["tell"] scope) (hloc:scope.names.lookup ("tell" : Str)=some NameKind.local)
  (hbody:body=[.Try [.Return (some (.Call (.Name "tell" p1) [] [] p2)) p3] (l.map HD.h) [] [] p4]) (hl:l=d0::r0)
  (hd:∀d∈l,X.mg d.x=some (.ref d.C)/\scope.names.lookup d.x=some .globalImplicit/\gP X.base d.C/\(d.x==("__debug__" : Str))=false)
  (hg:Gl X x) (hdb:(x==("__debug__" : Str))=false) (hr:cQ (k+2) X.A) (hfn:∀y,X.fn y=true)
  (hcode:X.env.code=.ref c) (hC:W.CodeHd X.base c T) (hbm:LX X.mg X.base)
  (hdef:defaultsOf paramsL X.env=([],[])) (hbind:∀(cl:List (Str×Addr))(pm cd ct:Value),bindArgs (W.kla_fn "<lambda>" (X.env.qual++ "<lambda>") paramsL bodyL scopeL cl pm cd ct) ⟨[],[]⟩=pure [])
  (hkL:scopeL.kind=.function) (hcoL:scopeL.isCoroutine=false) (hgenL:scopeL.isGenerator=false) (hncL:∀y∈scopeL.names,y.2≠ .cell) (hnlL:∀y,scopeL.names.lookup y≠some .local)
  (hfr:∀y∈scopeL.names,y.2=.free->X.env.kindOf y.1=some .cell)
  (hpe:∀(fl c':Addr)(cl:List (Str×Addr))(A:Around)(outer:List Env)(s:Shared)(H:Hp)(E:XK),cQ k (A.deeper (W.envX (X.env.qual++ "<lambda>") scopeL s.heap.objs.size fl (.ref c') cl))->HOk X.prog X.w H s.heap ->
   PE (cxL X.prog X.w X.K X.mg X.base X.N (X.env.qual++ "<lambda>") scopeL fl (.ref c') cl A outer s H E) bodyL (teL E H))
  (hst:starEach [.Lambda paramsL bodyL scopeL pos] X.env=(false,eval (.Lambda paramsL bodyL scopeL pos) X.env)::starEach [] X.env:=by rfl):
  PE X (.Call (.Name x p) [.Lambda paramsL bodyL scopeL pos] [] posC) (QW T l pos teL):=by
 intro pins s σ H Q I h;obtain⟨vs,ps,rfl,hT0,htri,hnf,hflat,hL⟩:=h;have hfree:∀y∈scopeL.names,y.2=.free->∃c,X.env.cells.lookup y.1=some c:=fun y hy e=>I.ok.has _ (.inl (hfr y hy e))
 have baseT:X.base.get? T=none:=by
  cases q:X.base.get? T with
  |none=>rfl
  |some o=>have:=(I.bs T o q).2;rw[hT0]at this;cases this
 have hPt:s.heap.get? T=some (W.tabObj ps):=I.hok T _ hT0;have hgs:=I.ok.mod.glob;have hgP:mainGlobals≠T:=fun q=>by obtain⟨o,es,ep,e,_⟩:=hgs;rw[q,baseT]at e;cases e
 have hbmT:s.heap.BuiltinsAt X.mg T:=by obtain⟨bm,ob,b1,b2,b3,b4,b5,b6,b7⟩:=hbm;exact⟨bm,ob,b1,b2,b3,(fun q=>by rw[q,baseT]at b4;cases b4),I.bk _ _ b4,b5,b6,b7⟩
 refine wpAny_Call_Name_kw (j7 I hg hm ?_ hdb);refine W.callWith_K (h₀:=X.base) I.ok.mod.kin hkp ?_ hst rfl;rw[hst];show wpAny _ _ (spliced ((false,eval (.Lambda paramsL bodyL scopeL pos) X.env)::backTo posC (starEach [] X.env))) _ _ s
 refine Calls.spliced_cons (W.kla_eval hdef (W.kla_makeFunction (mI hfree) I.ok.glob (hgs.keeps I.bk) hcode (hC.keeps I.bk) hPt htri hnf hgP hbmT fun c' ctv h' tk hx hge hlt hrec htab=>Calls.spliced_nil ?_));generalize hcl:bF X.env.cells scopeL.names []=cl;generalize hps:ps++#[rawInt pos.line,rawInt pos.col,Value.ref c']=ps' at htab;generalize hs2:({s with heap:=h'.push (W.kla_obj "<lambda>" (X.env.qual++ "<lambda>") paramsL bodyL scopeL cl ((X.mg "__name__").getD .none) c' ctv),toks:=tk}:Shared)=s2;have e2:s2.heap=h'.push (W.kla_obj "<lambda>" (X.env.qual++ "<lambda>") paramsL bodyL scopeL cl ((X.mg "__name__").getD .none) c' ctv):=by rw[<- hs2]
 have kp:∀b o,b≠T->s.heap.get? b=some o->s2.heap.get? b=some o:=fun b o n e=>by rw[e2];exact Heap.get?_push_of_some _ (hx b o n e)
 have tab2:s2.heap.get? T=some (W.tabObj ps'):=by rw[e2];exact Heap.get?_push_of_some _ htab
 have szT:T<s.heap.objs.size:=Heap.lt_size hPt;have nT:∀b u,H b=some u->(∀q,u≠ .tbl q)->b≠T:=fun b u e n z=>by rw[z,hT0]at e;cases e;exact n _ rfl
 have un1:Un X.fs [] H (upd H T (.tbl ps')) s.heap s2.heap:=
  ⟨fun b o e n _ _=>kp b o (fun z=>by rw[z,hT0]at n;cases n) e,fun b o e n _ _=>⟨o.slots,kp b o (fun z=>by rw[z,hT0]at n;cases n) e⟩,
   fun b o e n _=>by rw[aA (fun z=>by rw[z,hT0]at n;cases n)];exact n,
   fun b o e _=>by
    by_cases z:b=T
    ·exact⟨_,z▸tab2⟩
    ·exact⟨_,kp b o z e⟩,
   fun b xs e=>by rw[aA (nT b _ e fun q z=>nomatch z)];exact e,fun b o u e=>by rw[aA (nT b _ e fun q z=>nomatch z)];exact e,
   fun b q e=>by
    by_cases z:b=T
    ·rw[z,hT0]at e;cases e;exact⟨_,by rw[z,a7,<- hps]⟩
    ·exact⟨#[],by rw[aA z,e];simp⟩⟩
 have hokAt:∀(H':Hp),(∀b,b≠T->H' b=H b)->∀a o,a≠T->H' a=some o->cW X.prog X.w H' s2.heap a o:=fun H' he a o na e=>by
  rw[he a na]at e;refine(I.hok a o e).mT (fun b u hb q=>?_) (fun b z=>?_) (fun b xs z=>?_)
  ·refine kp b u ?_ q;rcases hb with rfl|hb
   ·exact na
   ·exact nT b _ hb fun q z=>nomatch z
  ·rw[he b (nT b _ z fun q z=>nomatch z)];exact z
  ·rw[he b (nT b _ z fun q z=>nomatch z)];exact z
 have hok1:HOk X.prog X.w (upd H T (.tbl ps')) s2.heap:=fun a o e=>by
  by_cases z:a=T
  ·rw[z,a7]at e;cases e;subst z;exact tab2
  ·exact hokAt _ (fun b n=>aA n) a o z e
 have I2:Inv X pins (vs.map some) (upd H T (.tbl ps')) s2:=by have:=I.un (t':=tk) (h':=s2.heap) un1 hok1;rw[<- hs2]at this ⊢;exact this
 have hok2:HOk X.prog X.w (hT H T ps') s2.heap:=fun a o e=>by
  by_cases z:a=T
  ·unfold hT at e;rw[z,a7]at e;cases e;subst z;exact⟨tab2,tab2⟩
  ·exact hokAt _ (fun b n=>aA n) a o z e
 have hT_ne:∀b,b≠T->hT H T ps' b=upd H T (.tbl ps') b:=fun b n=>by unfold hT;rw[aA n,aA n]
 have none_ne:∀b,upd H T (.tbl ps') b=none->b≠T:=fun b e z=>by rw[z,a7]at e;cases e
 have E0:nZ X.prog X.w X.K X.mg X.base X.A X.stack s2 (hT H T ps'):=by have e:=I2.GP;exact⟨e.frames,e.mod,fun b o q=>⟨(e.bs b o q).1,by rw[hT_ne b (none_ne b (e.bs b o q).2)];exact(e.bs b o q).2⟩,e.bsz,e.kA,fun b hb=>by rw[hT_ne b (none_ne b (e.frf b hb))];exact e.frf b hb,hok2,e.bare⟩
 refine⟨I2.kIn,?_⟩;have flat2:Flat (hT H T ps'):=fun b=>by
  by_cases z:b=T
  ·exact .inr ⟨_,_,by unfold hT;rw[z,a7]⟩
  ·rw[hT_ne b z,aA z];exact hflat b z
 have newfree:∀b,s.heap.objs.size<=b->hT H T ps' b=none:=fun b hb=>by
  have n:b≠T:=fun z=>absurd szT (by rw[<- z];exact Nat.not_lt.mpr hb)
  rw[hT_ne b n,aA n];exact I.hok.fresh hb
 have newfr:∀b,s.heap.objs.size<=b->b∉frs X.stack:=fun b hb z=>by obtain⟨_,o,ho,_⟩:=I.stack.mem z;exact absurd (Heap.lt_size ho) (Nat.not_lt.mpr hb)
 have hfls:s.heap.objs.size<=h'.objs.size:=Nat.le_of_lt (Nat.lt_of_le_of_lt hge hlt);have flo:s2.heap.get? h'.objs.size=some (W.kla_obj "<lambda>" (X.env.qual++ "<lambda>") paramsL bodyL scopeL cl ((X.mg "__name__").getD .none) c' ctv):=by rw[e2];exact Heap.get?_push_size _ rfl
 have cellno:∀y c,X.env.cells.lookup y=some c->c∉frs X.stack:=fun y c hy z=>by
  rcases List.mem_cons.mp (I2.rF c z)with q|q
  ·exact I2.cne y c hy q
  ·obtain⟨_,o,ho,_⟩:=I2.ok.kA.mem q;exact absurd (Heap.lt_size ho) (Nat.not_lt.mpr (I2.ok.cab y c (hfn y) hy))
 have cellfree:∀y c,X.env.cells.lookup y=some c->hT H T ps' c=none:=fun y c hy=>by have q:=I2.gW y c hy;rw[hT_ne c (none_ne c q)];exact q
 have run:=JM (fl:=h'.objs.size) (E:=fun _ _ _=>False) (k:=k+1) lk hcd S hloc hbody hl hr E0 (hb s2 [.ref h'.objs.size] I2.kIn rfl) flat2 hd ⟨_,_,_,_,flo⟩ (newfree _ hfls) (newfr _ hfls)
  (Q:=fun v H3=>H3 T=some (.frz (W.tabObj ps') (.tbl ps'))->Q v (upd H3 T (.tbl ps'))) fun A1 outer1 s1 hr1 e1 kp1=>?_
 ·refine wpAny_call (codeAny_mono run fun r s3 hq=>?_);cases r with
  |error e=>obtain⟨_,_,_,_,z⟩:=hq;exact z.elim
  |ok fl=>
   cases fl with
   |next=>exact False.elim hq
   |brk=>exact False.elim hq
   |cont=>exact False.elim hq
   |ret u=>
    obtain⟨v,H3,os,bare,un,hok3,rv,q⟩:=hq;have h3T:H3 T=some (.frz (W.tabObj ps') (.tbl ps')):=un.nO T _ _ (by unfold hT;rw[a7]);have n3:∀b u,H3 b=some u->(∀o q,u≠ .frz o q)->b≠T:=fun b u e n z=>by rw[z,h3T]at e;cases e;exact n _ _ rfl
    have fr2:∀b,upd H T (.tbl ps') b=none->hT H T ps' b=none:=fun b e=>by rw[hT_ne b (none_ne b e)];exact e
    have un4:Un (frs X.stack) [] (upd H T (.tbl ps')) (upd H3 T (.tbl ps')) s2.heap s3.heap:=
     ⟨fun b o e n hb hx=>un.keep b o e (fr2 b n) hb hx,fun b o e n hb hx=>un.slot b o e (fr2 b n) hb hx,fun b o e n hx=>by rw[aA (none_ne b n)];exact un.free b o e (fr2 b n) hx,un.there,
      fun b xs e=>by
       have n:b≠T:=fun z=>by rw[z,a7]at e;cases e
       rw[aA n];exact un.tH b xs (by rw[hT_ne b n];exact e),
      fun b o u e=>by
       have n:b≠T:=fun z=>by rw[z,a7]at e;cases e
       rw[aA n];exact un.nO b o u (by rw[hT_ne b n];exact e),
      fun b q e=>by
       by_cases z:b=T
       ·rw[z,a7]at e;cases e;exact⟨#[],by rw[z,a7];simp⟩
       ·rw[aA z];exact un.rC b q (by rw[hT_ne b z];exact e)⟩
    have hok4:HOk X.prog X.w (upd H3 T (.tbl ps')) s3.heap:=fun a o e=>by
     by_cases z:a=T
     ·rw[z,a7]at e;cases e;subst z;exact(hok3 a _ h3T).1
     ·rw[aA z]at e;refine(hok3 a o e).mT (fun b u _ q=>q) (fun b z=>?_) (fun b xs z=>?_)
      ·rw[aA (n3 b _ z fun _ _ z=>nomatch z)];exact z
      ·rw[aA (n3 b _ z fun _ _ z=>nomatch z)];exact z
    exact⟨v,upd H3 T (.tbl ps'),I2.CC os un4 hok4 bare (fun b z=>(nomatch z)),rv,q h3T⟩
 ·have c1:∀y c,cl.lookup y=some c->X.env.cells.lookup y=some c:=fun y c e=>by rw[<- hcl]at e;exact(LO hfree e).2
  have cat:∀y c v,X.env.cells.lookup y=some c->s2.heap.IsCell c v->s1.heap.IsCell c v:=fun y c v hy ⟨o,e,q⟩=>⟨o,kp1 _ _ e (cellfree y c hy) (cellno y c hy),q⟩
  have hlen:vs.length=X.N.length:=by have:=I.len;rw[List.length_map]at this;exact this
  refine IY (k:=k) (te:=teL (XA l (hT H T ps') fun v H3=>H3 T=some (.frz (W.tabObj ps') (.tbl ps'))->Q v (upd H3 T (.tbl ps'))) (hT H T ps')) (vs:=vs) (N:=X.N) hr1 e1 (kp1 _ _ flo (newfree _ hfls) (newfr _ hfls)) ?_ (hbind _ _ _ _) hkL hcoL hgenL hncL hnlL hlen ?_ ?_ ?_ ?_ (fun a b=>hpe _ _ _ _ _ _ _ _ a b) (by rw[<- hps];exact hL _)
  ·obtain⟨c3,oc3,vs3,t3,h1,h2,h3,h4⟩:=hrec;cases h1;exact⟨c',oc3,vs3,t3,rfl,kp1 _ _ (by rw[e2];exact Heap.get?_push_of_some _ h2) (newfree _ hge) (newfr _ hge),h3,h4⟩
  ·intro y z c h1 h2;exact I.ok.inj y z c (c1 y c h1) (c1 z c h2)
  ·intro y hy;rw[<- hcl];exact CB hy
  ·intro y c h1;have h2:=c1 y c h1;obtain⟨v,h3⟩:=I2.cell y c h2;exact⟨cellfree y c h2,v,cat y c v h2 h3⟩
  ·intro i y v h1 h2 h3;have hk:=hfr _ (PySem.mem_of_lookup h3) rfl;obtain⟨m,_,hlk⟩:=I2.loc;obtain⟨u,ru,lku⟩:=hlk i y v h1 (by rw[List.getElem?_map,h2];rfl) (.inr (.inl hk));obtain⟨c,hc⟩:=CB (cells:=X.env.cells) h3;rw[hcl]at hc;refine⟨c,u,hc,ru,?_⟩;rcases lku with⟨hk2,_⟩|⟨_,c2,hc2,hcell⟩
   ·rw[show X.env.kindOf y=some .cell from hk]at hk2;cases hk2
   ·have:=c1 y c hc;rw[this]at hc2;cases hc2;exact cat y c _ this hcell
end
end L3
namespace L3
open PySem PySem.Spec PySem.Calls PyProof.Rows L2
theorem oE{P:Params}{h:Heap}:∀{vs:List Value}{ns:List Int},W.WellAll P h vs (ns.map W.WData.int)->IntsAre vs ns
 |vs,[],h=>by cases h;exact .nil
 |vs,n::ns,h=>by
  cases h with
  |cons h r=>cases h with
   |int i t=>exact .cons n t (oE r)
theorem uU:∀{vs:List Value}{ns ms:List Int},IntsAre vs ns->IntsAre vs ms->ns=ms
 |_,_,_,.nil,h=>by cases h;rfl
 |_,_,_,.cons n t h,g=>by
  cases g with
  |cons m u g=>rw[uU h g]
theorem rP{R:W.WRecords}{cl:Str->Option Addr}{h:Heap}:∀{ns:List Int}{its:List Value},Vals (ns.map V.int) its->W.ReadsAllW R cl h its (ns.map W.WData.int) []
 |[],_,.nil=>.nil
 |n::ns,_,.cons ⟨t,e⟩ r=>by subst e;exact .cons (as:=[]) (.int n t) (rP r)
noncomputable def oB(tb:Addr)(H:Hp):Prop:=H tb=some (.tbl #[])/\∀b,b≠tb->H b=none\/∃o xs,H b=some (.frz o (.lst xs))
theorem oB.flat{tb:Addr}{H:Hp}(h:∀b,b≠tb->H b=none\/∃o xs,H b=some (.frz o (.lst xs)))(b:Addr)(n:b≠tb):H b=none\/∃o u,H b=some (.frz o u):=(h b n).imp (fun q=>q) fun⟨o,xs,q⟩=>⟨o,_,q⟩
abbrev DC(vs:List Value):Obj:={cls:=.type "list",data:=.seq vs.toArray}
noncomputable def wG(K:W.Frag)(tb:Addr)(LA:List (Addr×List Value×List Int)):Hp:=fun b=>if b=tb then some (.tbl #[])else
 match K.lookup b with
 |some _=>none
 |none=>(LA.lookup b).map fun p=>.frz (DC p.1) (.lst (p.2.map V.int))
theorem DK{P:Program}{w:World}{K:W.Frag}{mg mb:Str->Option Value}{k:Nat}{fa tb:Addr}{fd:FuncData}{ps:List Str}{sp:Sp}{s1:Shared}{vals:List Value}{vs:List V}{LA:List (Addr×List Value×List Int)}{R:List Int->Prop}
  (KX:K.In s1.heap) (hns:s1.heap.Ns mainGlobals mg) (hb:s1.heap.Ns builtinsNs mb) (hbb:∀x:Str,x≠ "__name__" ->mb x=bootBuiltins x) (hlim:s1.heap.NoLimit) (hg:s1.gens=#[])
  (hLA:∀p∈LA,s1.heap.get? p.1=some (DC p.2.1)/\IntsAre p.2.1 p.2.2/\p.2.2.length<=sizeLine)
  (htab:s1.heap.get? tb=some (W.tabObj #[])) (hct:isCodeTable s1.heap tb) (hKt:K.lookup tb=none) (hr:cQ k callerA) (rv:Vals vs vals)
  (F:∀base:Heap,Mod K mg base->(∀b o,s1.heap.get? b=some o->o.cls≠ .type "list" ->b≠tb->base.get? b=some o)->bM P w K mg base CXf k fa fd ps sp)
  (hbind:BindsTo s1 fd ⟨vals,[]⟩ (ps.zip vals))
  (hsp:∀H:Hp,oB tb H->(∀p∈LA,SqL K H p.1 (p.2.2.map V.int))->sp vs H (fun v H'=>∃p ns,v=.ref p/\H' p=some (.lst (ns.map V.int))/\R ns) fun _ _ _=>False):
  codeAny (model P w) callerA (.call (.ref fa) ⟨vals,[]⟩) (fun r s'=>(∃p its n ns,r=.ok (.ret (.ref p))/\s'.heap.get? p=some {cls:=.type "list",data:=.seq (List.toArray its) n}/\Vals (ns.map V.int) its/\R ns)/\OldK s1.heap s'.heap/\s'.os=s1.os/\AllBare s'.gens) s1:=by
 have find:∀{b:Addr}{x:List Value×List Int},LA.lookup b=some x->(b,x)∈LA:=fun{b x} e=>by
  have:∀l:List (Addr×List Value×List Int),l.lookup b=some x->(b,x)∈l:=by
   intro l;induction l with
   |nil=>intro e;cases e
   |cons y r ih=>
    intro e;rw[List.lookup_cons]at e;cases q:b==y.1 with
    |true=>rw[q]at e;cases e;rw[eq_of_beq q];exact List.mem_cons_self
    |false=>rw[q]at e;exact List.mem_cons_of_mem _ (ih e)
  exact this LA e
 generalize hH:wG K tb LA=H;have Htb:H tb=some (.tbl #[]):=by rw[<- hH];unfold wG;rw[if_pos rfl]
 have cases_H:∀b,b≠tb->H b=none\/∃x,K.lookup b=none/\(b,x)∈LA/\H b=some (.frz (DC x.1) (.lst (x.2.map V.int))):=fun b n=>by
  rw[<- hH];unfold wG;rw[if_neg n];cases e:K.lookup b with
  |some o=>exact .inl rfl
  |none=>
   cases q:LA.lookup b with
   |none=>exact .inl rfl
   |some x=>exact .inr ⟨x,rfl,find q,rfl⟩
 have hAt:oB tb H:=⟨Htb,fun b n=>by
  rcases cases_H b n with q|⟨x,_,_,q⟩
  ·exact .inl q
  ·exact .inr ⟨_,_,q⟩⟩
 have hS:∀p∈LA,SqL K H p.1 (p.2.2.map V.int):=fun p hp=>by
  obtain⟨h1,h2,h3⟩:=hLA p hp;have n:p.1≠tb:=fun z=>by rw[z,htab]at h1;cases h1
  cases e:K.lookup p.1 with
  |some o=>have q:=KX _ _ e;rw[h1]at q;cases q;exact .inr ⟨_,p.2.1.toArray,_,e,rfl,rfl,rfl,by rw[List.size_toArray,h2.length];exact h3,by simpa using oH h2⟩
  |none=>
   have q:∃x,LA.lookup p.1=some x:=by
    have:∀l:List (Addr×List Value×List Int),p∈l->∃x,l.lookup p.1=some x:=by
     intro l;induction l with
     |nil=>intro e;cases e
     |cons y r ih=>
      intro e;rw[List.lookup_cons];cases q:p.1==y.1 with
      |true=>exact⟨_,rfl⟩
      |false=>
       rcases List.mem_cons.mp e with e|e
       ·rw[e]at q;simp at q
       ·exact ih e
    exact this LA hp
   obtain⟨x,q⟩:=q;obtain⟨g1,g2,g3⟩:=hLA _ (find q);have e1:p.2.1=x.1:=by
    rw[h1]at g1;have:=Option.some.inj g1;injection this with _ _ z _
    injection z with z _
    simpa using congrArg Array.toList z
   have e2:p.2.2=x.2:=uU h2 (e1▸g2);refine .inl (.inr ⟨DC x.1,?_⟩);rw[<- hH];unfold wG;rw[if_neg n,e,q,e2];rfl
 have hok:HOk P w H s1.heap:=fun b o e=>by
  by_cases z:b=tb
  ·rw[z,Htb]at e;cases e;rw[z];exact htab
  ·rcases cases_H b z with q|⟨x,_,hm,q⟩
   ·rw[q]at e;cases e
   ·rw[q]at e;cases e;obtain⟨g1,g2,g3⟩:=hLA _ hm;exact⟨g1,by rw[List.length_map];exact g3,x.1,_,oH g2,g1⟩
 have base_of:∀{b:Addr}{o:Obj},s1.heap.get? b=some o->H b=none->(vY s1.heap H).get? b=some o:=fun e n=>GA e n
 have notl:∀b o,s1.heap.get? b=some o->o.cls≠ .type "list" ->b≠tb->H b=none:=fun b o e hc n=>by
  rcases cases_H b n with q|⟨x,_,hm,q⟩
  ·exact q
  ·have:=(hLA _ hm).1;rw[e]at this;cases this;exact absurd rfl hc
 have nsK:∀{b:Addr}{m:Str->Option Value},s1.heap.Ns b m->(vY s1.heap H).Ns b m:=fun{b m} ⟨o,es,ep,e,d,r⟩=>⟨o,es,ep,base_of e (by
  by_cases z:b=tb
  ·rw[z,htab]at e;cases e;cases d
  ·rcases cases_H b z with q|⟨x,_,hm,q⟩
   ·exact q
   ·have:=(hLA _ hm).1;rw[e]at this;cases this;cases d),d,r⟩
 have hKb:K.In (vY s1.heap H):=fun b o e=>base_of (KX b o e) (by
  by_cases z:b=tb
  ·rw[z,hKt]at e;cases e
  ·rcases cases_H b z with q|⟨x,hk,hm,q⟩
   ·exact q
   ·rw[hk]at e;cases e)
 have hM:Mod K mg (vY s1.heap H):=⟨hKb,nsK hns,⟨mb,nsK hb,hbb⟩,let⟨mc,h1,h2⟩:=hlim;⟨mc,nsK h1,h2⟩⟩;have e0:nZ P w K mg (vY s1.heap H) callerA [] s1 H:=⟨rfl,hM,fun b o e=>II e,Nat.le_of_eq (DP _ _),trivial,fun b hb=>absurd (show b∈([]:List Addr)from hb) (by simp),hok,.of_eq hg⟩;refine codeAny_mono ((F _ hM (fun b o e hc n=>base_of e (notl b o e hc n))).run callerA [] s1 H ⟨vals,[]⟩ vals vs _ _ hr e0 hbind rv (hsp H hAt hS)) fun r s' h=>?_
 cases r with
 |error e=>obtain⟨_,_,_,_,z⟩:=h;exact z.elim
 |ok fl=>
  cases fl with
  |next=>exact False.elim h
  |brk=>exact False.elim h
  |cont=>exact False.elim h
  |ret u=>
   obtain⟨v,H',os,bare,un,hok',r',p,ns,hv,hp,hR⟩:=h;subst hv;obtain rfl:u=Value.ref p:=r';obtain⟨_,its,n,pr,hget⟩:=hok' p _ hp;refine⟨⟨p,its,n,ns,rfl,hget,pr,hR⟩,?_,os,bare⟩;have kept:∀b o,b≠tb->s1.heap.get? b=some o->s'.heap.get? b=some o:=fun b o n e=>by
    rcases cases_H b n with q|⟨x,_,hm,q⟩
    ·exact un.keep b o e q (by intro z;exact absurd (show b∈([]:List Addr)from z) (by simp)) (by simp)
    ·obtain⟨e1,_⟩:=hok b _ q;obtain⟨e2,_⟩:=hok' b _ (un.nO b _ _ q);rw[e]at e1;cases e1;exact e2
   obtain⟨more,hmore⟩:=un.rC tb _ Htb;have t2:s'.heap.get? tb=some (W.tabObj (#[]++more)):=hok' tb _ hmore;refine⟨fun b o e=>?_,fun b o e=>?_⟩
   ·by_cases z:b=tb
    ·subst z;rw[htab]at e;cases e;exact .inr (.inl ⟨hct,rfl,#[],more,rfl,t2⟩)
    ·exact .inl (kept b o z e)
   ·by_cases z:b=tb
    ·exact⟨_,z▸t2⟩
    ·exact⟨_,kept b o z e⟩
structure aH(K:W.Frag)(x:Str)(st:Stmt):Prop where
 ex:∃f fd,W.nsIn K mainGlobals x=some (some (.ref f))/\Fun K x x st f fd
theorem b8{K:W.Frag}{x:Str}{st:Stmt}{f:Addr}{oc:Value}{od an:Option Addr}{osl:Array (Option Value)}{kV doc pm cdv ct:Value}(a:W.nsIn K mainGlobals x=some (some (.ref f)))
  (l:K.lookup f=some ⟨oc,od,.func (W.fnOf x x (gX st) (eV st) (aI st) .none kV doc pm an cdv ct),osl⟩) (c:W.codeIn K cdv x=true) (k:W.keepIn K (.ref f)=true):aH K x st:=⟨f,_,a,AX l c k⟩
theorem aH.ok{P:Program}{w:World}{K:W.Frag}{mg:Str->Option Value}{base:Heap}{CX:CXT}{k:Nat}{x:Str}{st:Stmt}{ps:List Str}{sp:Sp}(D:aH K x st)(M:Mod K mg base)
  (h:∀f fd,Fun K x x st f fd->bM P w K mg base CX k f fd ps sp)
  (hb:∀(kV doc pm:Value)(an:Option Addr)(cdv ct:Value)(us:List Value),us.length=ps.length->bindArgs (W.fnOf x x (gX st) (eV st) (aI st) .none kV doc pm an cdv ct) ⟨us,[]⟩=pure (ps.zip us)):aR P w K mg base CX k x ps sp:=by
 obtain⟨f,fd,a,F⟩:=D.ex;exact⟨⟨f,fd,h f fd F,W.mg_of M.kin M.glob a,F.kp,F.binds hb⟩⟩
noncomputable def A0(K:W.Frag)(v:Value)(p:Int×Int):Bool:=match v with
 | .ref b=>(match K.lookup b with
  |some ⟨.type "tuple",_,.seq its _,_⟩=>(match its.toList with
   |[.int x _,.int y _]=>x==p.1&& y==p.2
   |_=>false)
  |_=>false)
 |_=>false
noncomputable def qW(K:W.Frag):List Value->List (Int×Int)->Bool
 |[],[]=>true
 |v::vs,p::ps=>A0 K v p&& qW K vs ps
 |_,_=>false
noncomputable def sV(K:W.Frag)(a:Addr)(ps:List (Int×Int)):Bool:=match K.lookup a with
 |some ⟨.type "tuple",_,.seq its _,_⟩=>qW K its.toList ps&& decide (its.size<=1000)
 |_=>false
theorem IF{K:W.Frag}{v:Value}{p:Int×Int}(h:A0 K v p=true):∃b,v=.ref b/\∀H,C2 K H (.ref b) p:=by
 unfold A0 at h;split at h
 ·rename_i b;split at h
  ·rename_i its n sl hk;split at h
   ·rename_i x t y u hi;rw[Bool.and_eq_true,beq_iff_eq,beq_iff_eq]at h;refine⟨b,rfl,fun H=>⟨b,rfl,.inr ⟨_,its,n,hk,rfl,rfl,?_,?_⟩⟩⟩
    ·rw[<- Array.length_toList,hi];show 2<=sizeLine
     decide
    ·rw[hi];exact .cons ⟨t,by rw[h.1]⟩ (.cons ⟨u,by rw[h.2]⟩ .nil)
   ·cases h
  ·cases h
 ·cases h
theorem xK{K:W.Frag}:∀{vs:List Value}{ps:List (Int×Int)},qW K vs ps=true->∃xs:List V,Vals xs vs/\Paired (fun v p=>∀H,C2 K H v p) xs ps
 |[],[],_=>⟨[],.nil,.nil⟩
 |v::vs,p::ps,h=>by unfold qW at h;rw[Bool.and_eq_true]at h;obtain⟨b,rfl,hb⟩:=IF h.1;obtain⟨xs,h1,h2⟩:=xK h.2;exact⟨.ref b::xs,.cons rfl h1,.cons hb h2⟩
 |[],_::_,h=>by cases h
 |_::_,[],h=>by cases h
theorem sU{K:W.Frag}{a:Addr}{ps:List (Int×Int)}(h:sV K a ps=true):CT2 K a ps:=by
 unfold sV at h;split at h
 ·rename_i its n sl hk;rw[Bool.and_eq_true]at h;obtain⟨xs,h1,h2⟩:=xK h.1;exact⟨xs,fun H=>.inr ⟨_,its,n,hk,rfl,rfl,Nat.le_trans (of_decide_eq_true h.2) (by decide),h1⟩,h2⟩
 ·cases h
noncomputable def vO(K:W.Frag)(a:Addr):Bool:=match K.lookup a with
 |some ⟨.type "tuple",_,.seq its _,_⟩=>(match its.toList with
  |[.int 0 _,.int 1 _,.int 2 _,.int 3 _]=>true
  |_=>false)
 |_=>false
theorem F3{K:W.Frag}{a:Addr}(h:vO K a=true)(H:Hp):SqT K H a [.int 0,.int 1,.int 2,.int 3]:=by
 unfold vO at h;split at h
 ·rename_i its n sl hk;split at h
  ·rename_i t0 t1 t2 t3 hi;refine .inr ⟨_,its,n,hk,rfl,rfl,?_,?_⟩
   ·rw[<- Array.length_toList,hi];show 4<=sizeLine
    decide
   ·rw[hi];exact .cons ⟨t0,rfl⟩ (.cons ⟨t1,rfl⟩ (.cons ⟨t2,rfl⟩ (.cons ⟨t3,rfl⟩ .nil)))
  ·cases h
 ·cases h
theorem nR{K:W.Frag}{h:Heap}{C:Addr}{nm q:Str}{N:Addr}{bs:List Value}{hdct:Bool}{sn:List Str}{sub:List Value}{ab:Bool}{col:Option Bool}{dd:Option Addr}{k0 k1 k2 k3 k5:Option Value}{newId:String}
  (X:K.In h) (l:K.lookup C=some (excClassObj nm q C N bs [.type "Exception",.type "BaseException",.type "object"] hdct sn sub ab col dd k0 k1 k2 k3 k5 newId)):gP h C:=
 ⟨nm,q,N,bs,_,hdct,sn,sub,ab,col,dd,k0,k1,k2,k3,k5,newId,X _ _ l,by decide,fun D=>by rfl⟩
theorem K5{K:W.Frag}{x:Str}{f c tb:Addr}{oc oc2:Value}{od od2:Option Addr}{fd:FuncData}{osl sl2:Array (Option Value)}{vs:Array Value}(a:W.nsIn K mainGlobals x=some (some (.ref f)))
  (l:K.lookup f=some ⟨oc,od,.func fd,osl⟩) (hc:fd.code=.ref c) (l2:K.lookup c=some ⟨oc2,od2,.fields vs,sl2⟩) (hv:vs[11]? =some (.ref tb)):W.tabIn K x=some (c,tb):=by
 unfold W.tabIn;rw[a];dsimp only;rw[l];dsimp only;rw[hc];dsimp only;rw[l2];dsimp only;rw[hv]
theorem z7{h base:Heap}{c tb:Addr}(C:W.CodeHd h c tb)(k:∀b o,h.get? b=some o->o.cls≠ .type "list" ->b≠tb->base.get? b=some o):W.CodeHd base c tb:=by obtain⟨o,vs,file,tf,flags,tg,inF,text,tt,e,hcl,r⟩:=C;have hne:c≠tb:=r.2.2.2.2.2.2.2;exact⟨o,vs,file,tf,flags,tg,inF,text,tt,k c o e (by rw[hcl];intro z;injection z with z;exact absurd z (by decide)) hne,hcl,r⟩
theorem EA{h:Heap}{c tb:Addr}(C:W.CodeHd h c tb):isCodeTable h tb:=by obtain⟨o,vs,file,tf,flags,tg,inF,text,tt,e,hcl,hd,hv,_⟩:=C;exact⟨c,o,vs,e,hcl,hd,hv⟩
theorem JI{p:Program}{loose:List Str}{mean:ExcName->Option Value}{mg mb:Str->Option Value}{h base:Heap}{tb:Addr}(T:Top p loose mean mg mb h)(ht:h.get? tb=some (W.tabObj #[]))
  (k:∀b o,h.get? b=some o->o.cls≠ .type "list" ->b≠tb->base.get? b=some o):LX mg base:=by
 obtain⟨bm,ob,b1,b2,b3,b4,b5,b6⟩:=T.bmain;refine⟨bm,ob,b1,b2,fun q=>?_,k bm ob b3 (by rw[b4];intro z;injection z with z;exact absurd z (by decide)) (fun q=>?_),b4,b5,b6⟩
 ·obtain⟨o,es,ep,e,hd,_⟩:=T.g;rw[q,e]at b3;cases b3;rw[hd]at b6;cases b6
 ·rw[q,ht]at b3;cases b3;cases b4
end L3
namespace L3
open PySem PySem.Spec PySem.Calls PyProof.Rows L2
theorem BQ{X:Cx}{K:W.Frag}{e:Expr}{f:Str}{pos:Pos}{ta:TE}(he:PE X e ta)(hb:attributeBase e f X.env (eval e X.env)=eval e X.env)(hK:X.K=K):PE X (.Attribute e f pos) (M9 K ta f):=hK▸fQ he hb
noncomputable def MJ(K:W.Frag):V->V->Hp->VK->Prop:=fun x y H Q=>∃(p:Addr)(xs:List V)(i:Int)(v:V),x=.ref p/\y=.int i/\SqL K H p xs/\0<=i/\xs[i.toNat]? =some v/\Q v H
theorem GI{X:Cx}:QJ X (MJ X.K):=by intro pins s σ H o i ov iv Q I ro ri h;obtain⟨p,xs,k,v,rfl,rfl,hq,h0,hv,q⟩:=h;cases ro;obtain⟨t,rfl⟩:=ri;obtain⟨its,r,pl,hz⟩:=I.list hq;obtain⟨w,ew,rw'⟩:=r.get hv;have hl:=(List.getElem?_eq_some_iff.mp hv).1;have hn:=m9;exact wpAny_getItem_list pl.isList h0 (by omega) (by simpa using ew) ⟨v,H,I,rw',q⟩
end L3
namespace L3
open PySem PySem.Spec PySem.Calls PyProof.Rows L2
abbrev Keeps(h h':Heap):Prop:=∀b q,h.get? b=some q->h'.get? b=some q
end L3
namespace L3
open PySem PySem.Spec PySem.Calls PyProof.Rows L2
section
variable {prog:Program}{w:World}{A:Around}{E:Value->Shared->Prop}{s:Shared}
theorem D1{ks:List Key}{a:Addr}{Q:Bool->Shared->Prop}(h:(TK prog w).is s.heap ks a)(q:Q false s):wpAny (model prog w) A (Builtin.Dict.quietEq (.ref a)) Q E s:=by obtain⟨o,its,n,ho,hc,_⟩:=h;unfold Builtin.Dict.quietEq;exact wpAny_bind (wpAny_specialOf (T:= "tuple") ⟨o,ho,hc⟩ F.slot_tuple_eq.lookup (wpAny_pure q))
theorem yV{α:Type}[BEq α][LawfulBEq α]{β:Type}(f:β->α):∀(l:List β),(l.map f).Nodup->∀e∈l,(l.filter fun x=>f x==f e).length<=1
 |[],_,e,he=>nomatch he
 |x::l,nd,e,he=>by
  rw[List.map_cons,List.nodup_cons]at nd;rcases List.mem_cons.mp he with rfl|he
  ·rw[List.filter_cons_of_pos (by simp),List.filter_eq_nil_iff.mpr]
   ·exact Nat.le_refl _
   ·intro y hy c;exact nd.1 (List.mem_map.mpr ⟨y,hy,by simpa using c⟩)
  ·rw[List.filter_cons_of_neg]
   ·exact yV f l nd.2 e he
   ·intro c;exact nd.1 (List.mem_map.mpr ⟨e,he,(by simpa using c:f x=f e).symm⟩)
theorem yY{id:String}{d:Addr}{o:Obj}{es:Array DictEntry}{ep:Nat}{xs:List (List Key×Addr×Value)}{Q:Array DictEntry->Shared->Prop}(ho:s.heap.get? d=some o)(hd:o.data=.dict es ep)(he:es.toList=xs.map (entryOfKey (TK prog w)))(his:∀x∈xs,(TK prog w).is s.heap x.1 x.2.1)
  (nd:(xs.map fun x=>(TK prog w).hash x.1).Nodup) (q:Q es s):wpAny (model prog w) A (Builtin.Dict.entriesForEmpty id d) Q E s:=by
 unfold Builtin.Dict.entriesForEmpty;refine wpAny_bind (wpAny_dictEntries ho hd ?_);refine wpAny_bind ?_;rw[<- Array.forIn_toList];refine wpAny_forIn_list _ (fun rest _ s'=>s'=s/\∀e∈rest,e∈es.toList) _ ?_ (fun _ s' h=>by rw[h.1];exact wpAny_pure q) _ _ ⟨rfl,fun e h=>h⟩;rintro e rest b s' ⟨rfl,sub⟩;have me:=sub e List.mem_cons_self;rw[he]at me;obtain⟨x,hx,rfl⟩:=List.mem_map.mp me;refine wpAny_bind (D1 (his x hx) ?_);have one:(es.filter (·.hash==(entryOfKey (TK prog w) x).hash)).size<=1:=by have:=yV (fun e:DictEntry=>e.hash) es.toList (by rw[he,List.map_map];exact nd) (entryOfKey (TK prog w) x) (by rw[he];exact me);rw[<- Array.length_toList,Array.toList_filter];exact this
 rw[if_pos (by decide:(!false)=true),if_neg (by omega)];exact wpAny_pure ⟨rfl,fun e h=>sub e (List.mem_cons_of_mem _ h)⟩
theorem tM{d a:Addr}{xs:List (List Key×Addr×Value)}{k:List Key}{v:Value}{Q:Unit->Shared->Prop}(hu:A.units<cLine)(hkey:(TK prog w).is s.heap k a)(hm:s.heap.DictOfH (TK prog w) d xs)
  (hQ:∀g,g.DictOfH (TK prog w) d (storedH xs k a v)->Heap.SameBut d s.heap g->Q () {s with heap:=g}) (hsz:xs.length<=sizeLine):wpAny (model prog w) A (dictSetHashed d (.ref a) ((TK prog w).hash k) v) Q E s:=by
 obtain⟨o,es,ep,ho,hc,hd,he,his,hn⟩:=hm;unfold dictSetHashed;refine wpAny_holding (wpAny_bind (wpAny_dictFind_heap (knd:=TK prog w) hu hkey ho hd he his hn (fun hno=>?_) fun j p hj=>?_))
 ·have hz:es.size<=sizeLine:=by have e:=size_of_entries he;omega
  refine wpAny_bind (wpAny_rule (wpAny_updateDictKeys (hz:=hz) ho hd (hQ _ ⟨_,_,ep+1,Heap.get?_update_self _ ho (Obj.isFreed_of_dict (Obj.data_mapDictKeys hd _)),hc.mapDictKeys _,Obj.data_mapDictKeys hd _,?_,?_,?_⟩ (Heap.SameBut.update ..))));all_goals rw[storedH_new (atKey_none_of_get hno)]
  ·simp[he,entryOfKey]
  ·intro x hx;rcases List.mem_append.mp hx with hx|hx
   ·exact(TK prog w).keeps (his x hx) ho hd (Heap.SameBut.update ..)
   ·rw[List.mem_singleton.mp hx];exact(TK prog w).keeps hkey ho hd (Heap.SameBut.update ..)
  ·rw[List.map_append,List.nodup_append];refine⟨hn,by simp,fun x hx y hy e=>?_⟩;have:y=k:=by simpa using hy
   subst this;exact not_mem_keys_of_get hno (e▸hx)
 ·refine wpAny_bind (wpAny_rule (wpAny_bind (wpAny_updateDict ho hd (wpAny_point (hQ _ ⟨_,_,ep,Heap.get?_update_self _ ho (Obj.isFreed_of_dict (Obj.data_mapDict hd _)),hc.mapDict _,Obj.data_mapDict hd _,?_,?_,?_⟩ (Heap.SameBut.update ..))))));all_goals rw[storedH_old (atKey_of_get hn hj)]
  ·have z:=modify_map_putAt (entryOfKey (TK prog w)) (fun e:DictEntry=>{e with val:=v}) k v (fun _ _=>rfl) hn hj;rw[<- he]at z;obtain⟨l⟩:=es;simpa using z
  ·intro x hx;obtain⟨y,hy,rfl⟩:=List.mem_map.mp hx;unfold putAt;split<;>exact(TK prog w).keeps (his y hy) ho hd (Heap.SameBut.update ..)
  ·rw[keys_map_putAt];exact hn
theorem xT{id:String}{d o:Addr}{xs:List (List Key×Addr×Value)}{Q:Unit->Shared->Prop}(ne:d≠o)(hoS:(o==sysModules)=false)(hd:s.heap.DictOfH (TK prog w) d [])(ho:s.heap.DictOfH (TK prog w) o xs)(hx:xs≠[])(hz:xs.length<=sizeLine)
  (nd:(xs.map fun x=>(TK prog w).hash x.1).Nodup) (hQ:∀g,g.DictOfH (TK prog w) d xs->Heap.SameBut d s.heap g->Q () {s with heap:=g}):wpAny (model prog w) A (Builtin.Dict.mergeDict id d o) Q E s:=by
 obtain⟨od,ed,epd,d1,d2,d3,d4,d5,d6⟩:=hd;obtain⟨oo,es,ep,o1,o2,o3,o4,o5,o6⟩:=ho;unfold Builtin.Dict.mergeDict;rw[if_neg (by simpa using ne)];unfold Builtin.Dict.showsAll;rw[if_neg (by rw[hoS];exact Bool.false_ne_true)];refine wpAny_bind (wpAny_pure (wpAny_bind (wpAny_dictEntries o1 o3 ?_)));have few:(decide (es.size<=8)&& es.all fun e=>(keyPart e.key).isSome)=false:=by
  cases xs with
  |nil=>exact absurd rfl hx
  |cons x r=>rw[Bool.and_eq_false_iff];right;rw[<- Array.all_toList,o4];rfl
 have em:ed.isEmpty=true:=by
  have:ed=#[]:=by apply Array.toList_inj.mp;rw[d4];rfl
  rw[this];rfl
 have nem:es.isEmpty=false:=by have e1:=size_of_entries o4;have e2:=List.length_pos_iff.mpr hx;rw[Array.isEmpty_eq_false_iff];intro c;rw[c]at e1;have e3:0=xs.length:=e1;omega
 dsimp only;rw[few,if_pos (by decide:(!false)=true)];refine wpAny_bind (wpAny_dictEntries d1 d3 ?_);rw[if_pos em];refine wpAny_bind (yY o1 o3 o4 o5 nd ?_);rw[nem,if_pos (by decide:(!false)=true)];have hto:es.size<=sizeLine+1:=by have:=size_of_entries o4;omega
 refine wpAny_bind (wpAny_updateDictKeysTo d1 d3 (wpAny_pure (hQ _ ⟨_,_,epd+1,Heap.get?_update_self _ d1 (Obj.isFreed_of_dict (Obj.data_mapDictKeys d3 _)),d2.mapDictKeys _,Obj.data_mapDictKeys d3 _,o4,fun x h=>(TK prog w).keeps (o5 x h) d1 d3 (Heap.SameBut.update ..),o6⟩ (Heap.SameBut.update ..))) hto)
theorem uG:∀(rest acc:List (List Key×Addr×Value)),(gT acc rest).length<=acc.length+rest.length
 |[],acc=>Nat.le_refl _
 |q::r,acc=>by
  have h1:=uG r (storedH acc q.1 q.2.1 q.2.2);have h2:=rD acc q.1 q.2.1 q.2.2;show(gT (storedH acc q.1 q.2.1 q.2.2) r).length<=_
  rw[List.length_cons];omega
theorem zT(acc rest:List (List Key×Addr×Value))(q:List Key×Addr×Value):gT acc (rest++[q])=storedH (gT acc rest) q.1 q.2.1 q.2.2:=by unfold gT;rw[List.foldl_append];rfl
theorem AB{nm:String}{d o:Addr}{ys xs:List (List Key×Addr×Value)}{Q:Unit->Shared->Prop}(hu:A.units<cLine)(ne:d≠o)(hoS:(o==sysModules)=false)(hd:s.heap.DictOfH (TK prog w) d ys)(hy:ys≠[])(ho:s.heap.DictOfH (TK prog w) o xs)(hz:ys.length+xs.length<=sizeLine)
  (hQ:∀g,g.DictOfH (TK prog w) d (gT ys xs)->Heap.SameBut d s.heap g->Q () {s with heap:=g}):wpAny (model prog w) A (Builtin.Dict.mergeDict nm d o) Q E s:=by
 obtain⟨od,ed,epd,d1,d2,d3,d4,d5,d6⟩:=id hd;obtain⟨oo,es,ep,o1,o2,o3,o4,o5,o6⟩:=ho;have len:=size_of_entries o4;unfold Builtin.Dict.mergeDict;rw[if_neg (by simpa using ne)];unfold Builtin.Dict.showsAll;rw[if_neg (by rw[hoS];exact Bool.false_ne_true)];refine wpAny_bind (wpAny_pure (wpAny_bind (wpAny_dictEntries o1 o3 ?_)));have nem:¬ed.isEmpty=true:=by have e1:=size_of_entries d4;have e2:=List.length_pos_iff.mpr hy;rw[Array.isEmpty_iff];intro c;rw[c]at e1;have e3:0=ys.length:=e1;omega
 have go:∀f:Nat->PUnit->Sem (ForInStep PUnit),(∀i u,f i u=(do
   let es'<- dictEntries o
   match es'[i]? with
   |some e=>do
    holding [e.key,e.val] (dictSetHashed d e.key e.hash e.val)
    let ep'<- dictEpoch o
    if(ep' !=ep)=true then do
     (unsupported (toString nm++toString ":source-changed-during-callback"):Sem PUnit)
     pure (ForInStep.yield PUnit.unit)
    else pure (ForInStep.yield PUnit.unit)
   |_=>do
    (unsupported "internal:dict-merge" : Sem PUnit)
    pure (ForInStep.yield PUnit.unit)))->wpAny (model prog w) A (forIn [:es.size] PUnit.unit f) (fun _ s'=>Q () s') E s:=by
  intro f hf;rw[Std.Legacy.Range.forIn_eq_forIn_range'];simp only[Std.Legacy.Range.size,Nat.sub_zero,Nat.add_sub_cancel,Nat.div_one];refine wpAny_forIn_list _ (fun rest _ s'=>∃g i,s'={s with heap:=g}/\rest=List.range' i (es.size - i)/\i<=es.size/\g.DictOfH (TK prog w) d (gT ys (xs.take i))/\Heap.SameBut d s.heap g) _ ?_ ?_ _ _ ⟨s.heap,0,rfl,by simp,Nat.zero_le _,hd,Heap.SameBut.refl _ _⟩
  ·rintro j rest b s' ⟨g,i,rfl,hr,hi,hd',sb⟩;have lt:i<es.size:=by
    rcases Nat.lt_or_ge i es.size with h|h
    ·exact h
    ·rw[Nat.sub_eq_zero_of_le h]at hr;cases hr
   rw[show es.size - i=(es.size - (i+1))+1 by omega,List.range'_succ]at hr;obtain⟨e1,e2⟩:=List.cons.inj hr;subst e1 e2;have o1':g.get? o=some oo:=(sb.2 o (Ne.symm ne)).trans o1;rw[hf];refine wpAny_bind (wpAny_dictEntries o1' o3 ?_);obtain⟨x,hx⟩:∃x,xs[j]? =some x:=⟨xs[j]'(by omega),List.getElem?_eq_getElem _⟩
   have ex:es[j]? =some (entryOfKey (TK prog w) x):=by rw[<- Array.getElem?_toList,o4,List.getElem?_map,hx];rfl
   rw[ex];have lz:(gT ys (xs.take j)).length<=sizeLine:=by have:=uG (xs.take j) ys;rw[List.length_take]at this;omega
   have ik:(TK prog w).is g x.1 x.2.1:=(TK prog w).keeps (o5 x (List.mem_of_getElem? hx)) d1 d3 sb;refine wpAny_bind (wpAny_holding (tM (s:={s with heap:=g}) hu ik hd' (fun g2 hd2 sb2=>?_) lz));have o1'':g2.get? o=some oo:=(sb2.2 o (Ne.symm ne)).trans o1';refine wpAny_bind (wpAny_dictEpoch (s:={s with heap:=g2}) o1'' o3 ?_);rw[if_neg (by simp)];refine wpAny_pure ⟨g2,j+1,rfl,rfl,lt,?_,sb.trans sb2⟩;rw[List.take_add_one,hx];show g2.DictOfH (TK prog w) d (gT ys (xs.take j++[x]))
   rw[zT];exact hd2
  ·rintro b s' ⟨g,i,rfl,hr,hi,hd',sb⟩;have e:i=es.size:=by
    rcases Nat.lt_or_ge i es.size with h|h
    ·rw[show es.size - i=(es.size - (i+1))+1 by omega,List.range'_succ]at hr;cases hr
    ·omega
   rw[e,len,List.take_of_length_le (Nat.le_refl _)]at hd';exact hQ g hd' sb
 dsimp only;split
 ·refine wpAny_bind (wpAny_dictEntries d1 d3 ?_);rw[if_neg nem];refine wpAny_bind (wpAny_dictEpoch o1 o3 (wpAny_bind (wpAny_dictEntries o1 o3 (wpAny_bind (wpAny_mono (go _ fun i u=>?_) (fun _ _ h=>wpAny_pure h) fun _ _ h=>h)))));rfl
 ·refine wpAny_bind (wpAny_dictEpoch o1 o3 (wpAny_bind (wpAny_dictEntries o1 o3 (wpAny_bind (wpAny_mono (go _ fun i u=>?_) (fun _ _ h=>wpAny_pure h) fun _ _ h=>h)))));rfl
end
end L3
namespace L3
open PySem PySem.Spec PySem.Calls PyProof.Rows L2
noncomputable def hI(a:Nat):Int:=if a==18446744073709551615 then 1546275796 else if a<9223372036854775808 then a else(a:Int) - ((18446744073709551616:Nat):Int)
def hM(n:Int):Nat:=(n% ((18446744073709551616:Nat):Int)).toNat
noncomputable def hS(acc:Nat)(h:Int):Nat:=RM.Hs.R ((acc+hM h*14029467366897019727)%18446744073709551616)
theorem Q8(acc:Nat)(h:Int):hS acc h=((acc+(h% ((18446744073709551616:Nat):Int)).toNat*14029467366897019727)%18446744073709551616*2147483648%18446744073709551616+(acc+(h% ((18446744073709551616:Nat):Int)).toNat*14029467366897019727)%18446744073709551616/8589934592)*11400714785074694791%18446744073709551616:=rfl
theorem HK(hs:List Int):Builtin.Tuple.tupleHashOf hs=hI ((hs.foldl hS 2870177450012600261+(hs.length^^^2870177450013471926))%18446744073709551616):=by
 unfold Builtin.Tuple.tupleHashOf;simp only[Nat.reduceXor,Nat.reducePow,Nat.reduceSub];have e:(fun(acc:Nat)(h:Int)=>((acc+(h% ((18446744073709551616:Nat):Int)).toNat*14029467366897019727)%18446744073709551616*2147483648%18446744073709551616+(acc+(h% ((18446744073709551616:Nat):Int)).toNat*14029467366897019727)%18446744073709551616/8589934592)*11400714785074694791%18446744073709551616)=hS:=by funext a b;exact(Q8 a b).symm
 rw[e];generalize (hs.foldl hS 2870177450012600261+(hs.length^^^2870177450013471926))%18446744073709551616=x;unfold hI
 with_reducible rfl
theorem QL:(3^^^2870177450013471926)=2870177450013471925:=by decide+kernel
theorem CP(i j s:Int):Builtin.Tuple.tupleHashOf [i,j,s]=hI ((hS (hS (hS 2870177450012600261 i) j) s+2870177450013471925)%18446744073709551616):=by have e:([i,j,s]:List Int).length=3:=rfl;rw[HK,e,QL,List.foldl_cons,List.foldl_cons,List.foldl_cons,List.foldl_nil]
theorem GD{n:Nat}(h:n<128):hM (n:Int)=n:=by unfold hM;omega
theorem EU{i j s:Nat}(hi:i<128)(hj:j<128)(hs:s<4):Builtin.Tuple.tupleHashOf [(i:Int),(j:Int),(s:Int)]=hI (RM.Hs.acc i j s):=by rw[CP];unfold hS;rw[GD hi,GD hj,GD (show s<128 by omega)];rfl
theorem mE{n:Nat}(h:n<128):hashInt (n:Int)=n:=(by decide+kernel:∀n:Nat,n<128->hashInt (n:Int)=n) n h
theorem GF{x:Nat}(nx:x≠18446744073709551615):hI x=if x<9223372036854775808 then(x:Int)else(x:Int) - 18446744073709551616:=by
 unfold hI;rw[if_neg (by simpa using nx)];have:((18446744073709551616:Nat):Int)=18446744073709551616:=by omega
 rw[this]
section
variable {prog:Program}{w:World}
theorem y9{i j s:Nat}(hi:i<128)(hj:j<128)(hs:s<4):(TK prog w).hash [Sum.inl (i:Int),Sum.inl (j:Int),Sum.inl (s:Int)]=hI (RM.Hs.acc i j s):=by
 have e:(TK prog w).hash [Sum.inl (i:Int),Sum.inl (j:Int),Sum.inl (s:Int)]=reduceHash (Builtin.Tuple.tupleHashOf [hashInt (i:Int),hashInt (j:Int),hashInt (s:Int)]):=rfl;rw[e,mE hi,mE hj,mE (show s<128 by omega),EU hi hj hs];have a:=RM.Hs.BE i j s;have b:=RM.Hs.t7 hi hj hs;generalize RM.Hs.acc i j s=x at a b ⊢;have big:(2:Int)^63=9223372036854775808:=by decide
 have h1:hI x=if x<9223372036854775808 then(x:Int)else(x:Int) - 18446744073709551616:=by exact GF b
 have r:-9223372036854775808<=hI x/\hI x<9223372036854775808/\hI x≠-1:=by rw[h1];split<;>omega
 unfold reduceHash;rw[big,if_pos (by simp;omega),if_neg (by simpa using r.2.2)]
theorem L8{x y:Nat}(hx:x<18446744073709551616)(hy:y<18446744073709551616)(nx:x≠18446744073709551615)(ny:y≠18446744073709551615)(e:hI x=hI y):x=y:=by
 rw[GF nx,GF ny]at e;by_cases c:x<9223372036854775808
 ·rw[if_pos c]at e;by_cases c':y<9223372036854775808
  ·rw[if_pos c']at e;omega
  ·rw[if_neg c']at e;omega
 ·rw[if_neg c]at e;by_cases c':y<9223372036854775808
  ·rw[if_pos c']at e;omega
  ·rw[if_neg c']at e;omega
noncomputable def kR(k:List Key):Prop:=∃i j s:Nat,i<128/\j<128/\s<4/\k=[Sum.inl (i:Int),Sum.inl (j:Int),Sum.inl (s:Int)]
theorem GB{k l:List Key}(hk:kR k)(hl:kR l)(e:(TK prog w).hash k=(TK prog w).hash l):k=l:=by obtain⟨i,j,s,h1,h2,h3,rfl⟩:=hk;obtain⟨i',j',s',g1,g2,g3,rfl⟩:=hl;rw[y9 h1 h2 h3,y9 g1 g2 g3]at e;obtain⟨rfl,rfl,rfl⟩:=RM.Hs.JN h1 h2 h3 g1 g2 g3 (L8 (RM.Hs.BE _ _ _) (RM.Hs.BE _ _ _) (RM.Hs.t7 h1 h2 h3) (RM.Hs.t7 g1 g2 g3) e);rfl
end
end L3
namespace L3
open PySem PySem.Spec PySem.Calls PyProof.Rows L2
section
variable {prog:Program}{w:World}{A:Around}{E:Value->Shared->Prop}{s:Shared}{d o:Addr}{xs ys:List (List Key×Addr×Value)}
theorem DR{l:List (List Key×Addr×Value)}(h:∀x∈l,kR x.1)(nd:(l.map (·.1)).Nodup):(l.map fun x=>(TK prog w).hash x.1).Nodup:=by
 have e:(l.map fun x=>(TK prog w).hash x.1)=(l.map (·.1)).map (TK prog w).hash:=by rw[List.map_map];rfl
 rw[e];refine RM.cT nd fun a ha b hb q=>?_
 obtain⟨x,hx,rfl⟩:=List.mem_map.mp ha;obtain⟨y,hy,rfl⟩:=List.mem_map.mp hb;exact GB (h x hx) (h y hy) q
theorem nH{nm:String}{Q:Unit->Shared->Prop}(ho:s.heap.DictOfH (TK prog w) o xs)(h:wpAny (model prog w) A (Builtin.Dict.mergeDict nm d o) Q E s):wpAny (model prog w) A (Builtin.Dict.merge nm d (.ref o)) Q E s:=by unfold Builtin.Dict.merge;refine wpAny_bind ?_;unfold Builtin.Dict.readDirectly;refine wpAny_bind (wpAny_isInstance ho.typeIs isSubtype_dict_dict ?_);rw[if_neg (by decide:¬(!true)=true)];refine wpAny_bind (wpAny_specialOf ho.typeIs F.slot_dict_iter.lookup (wpAny_pure ?_));rw[if_pos (by simp)];exact wpAny_bind (wpAny_pure h)
theorem B6{Q:Value->Shared->Prop}(hm:s.heap.DictOfH (TK prog w) d xs)(hS:(d==sysModules)=false)(hx:xs≠[])(hz:xs.length<=sizeLine)(hk:∀x∈xs,kR x.1)
  (h:∀g,g.DictOfH (TK prog w) s.heap.objs.size xs->Keeps s.heap g->Q (.ref s.heap.objs.size) {s with heap:=g}):wpAny (model prog w) A (call (.type "dict") [.ref d]) Q E s:=by
 refine callType_codes (Q₁:=fun obj s₁=>obj=.ref s.heap.objs.size/\s₁={s with heap:=s.heap.push {cls:=.type "dict",data:=.dict #[]}}) PySem.F.kt_called_dict (PySem.F.kt_typeCall_dict_1 _) PySem.F.entry_dict_init (kt_code_dict_new _ ⟨rfl,rfl⟩) ?_;rintro obj s₁ ⟨rfl,rfl⟩;have hnew:(s.heap.push {cls:=.type "dict",data:=.dict #[]}).DictOfH (TK prog w) s.heap.objs.size []:=Heap.DictOfH.new s.heap;have k0:Keeps s.heap (s.heap.push {cls:=.type "dict",data:=.dict #[]}):=fun b q e=>Heap.get?_push_of_some _ e
 have nd:=id hm;obtain⟨q,es,ep,q1,q2,q3,q4,q5,q6⟩:=nd;have hm1:(s.heap.push {cls:=.type "dict",data:=.dict #[]}).DictOfH (TK prog w) d xs:=nV hm (fun q z=>k0 _ _ z) fun x hx=>qY k0 (q5 x hx)
 have ne:s.heap.objs.size≠d:=(Nat.ne_of_lt (Heap.lt_size q1)).symm;refine⟨hnew.typeIs,PySem.F.args_dict_init_2 _ _,?_⟩;unfold Builtin.«dict.__init__»;refine wpAny_bind ?_;unfold Builtin.Dict.selfAndRest;refine wpAny_bind (wpAny_notOrdered_dict hnew.typeIs (show wpAny _ _ (pure (s.heap.objs.size,[Value.ref d])) _ _ _ from wpAny_pure ?_));show wpAny _ _ (Builtin.Dict.updateFrom "dict.__init__" s.heap.objs.size (.ref d) [] .none) _ _ _
 unfold Builtin.Dict.updateFrom;refine wpAny_bind (wpAny_typeOf hm1.typeIs ?_);rw[if_neg (by decide)];refine wpAny_bind (nH hm1 (xT ne hS hnew hm1 hx hz (DR hk q6) fun g hg sb=>?_));show wpAny _ _ (Builtin.Dict.addKeywords s.heap.objs.size []>>= _) _ _ _
 exact wpAny_bind (wpAny_pure (wpAny_pure ⟨rfl,h g hg fun b q e=>(sb.2 b (Nat.ne_of_lt (Heap.lt_size e))).trans (k0 b q e)⟩))
theorem ER{Q:Value->Shared->Prop}(hu:A.units+1<cLine)(ne:d≠o)(hS:(o==sysModules)=false)(hd:s.heap.DictOfH (TK prog w) d ys)(hy:ys≠[])(ho:s.heap.DictOfH (TK prog w) o xs)(hz:ys.length+xs.length<=sizeLine)
  (h:∀g,g.DictOfH (TK prog w) d (gT ys xs)->Heap.SameBut d s.heap g->Q .none {s with heap:=g}):wpAny (model prog w) A (call (.builtin "dict.update") [.ref d,.ref o]) Q E s:=by
 refine wpAny_call_entry PySem.F.slot_dict_update hd.typeIs PySem.F.entry_dict_update ?_ (PySem.F.args_dict_update_2 _ _);unfold Builtin.«dict.update»;refine wpAny_bind ?_;unfold Builtin.Dict.selfAndRest;refine wpAny_bind (wpAny_notOrdered_dict hd.typeIs (show wpAny _ _ (pure (d,[Value.ref o])) _ _ _ from wpAny_pure ?_));show wpAny _ _ (Builtin.Dict.updateFrom "dict.update" d (.ref o) [] .none) _ _ _
 unfold Builtin.Dict.updateFrom;refine wpAny_bind (wpAny_typeOf ho.typeIs ?_);rw[if_neg (by decide)];refine wpAny_bind (nH ho (AB hu ne hS hd hy ho hz fun g hg sb=>?_));show wpAny _ _ (Builtin.Dict.addKeywords d []>>= _) _ _ _
 exact wpAny_bind (wpAny_pure (wpAny_pure ⟨.none,rfl,h g hg sb⟩))
end
section
variable {X:Cx}
theorem JP{H:Hp}{kvs:List (List Key×V)}{xs:List (List Key×Addr×Value)}(r:KT H kvs xs)(h:∀kv∈kvs,kR kv.1):∀x∈xs,kR x.1:=by
 induction r with
 |nil=>intro x hx;exact nomatch hx
 |cons e _ ih=>
  intro x hx;rcases List.mem_cons.mp hx with rfl|hx
  ·rw[<- e.1];exact h _ List.mem_cons_self
  ·exact ih (fun kv hkv=>h kv (List.mem_cons_of_mem _ hkv)) x hx
theorem BB:jM X (.type "dict") (fun vs H Q=>∃(a:Addr)(kvs:List (List Key×V)),vs=[.ref a]/\Rd H a (.dT kvs)/\kvs≠[]/\(∀kv∈kvs,kR kv.1)/\∀p,H p=none->Q (.ref p) (upd H p (.dT kvs))):=by
 intro pins s σ H vs us Q I r ⟨a,kvs,e,ha,hne,hk,h⟩;subst e;rw[Vals.F9 r];obtain⟨z,hS,xs,kt,dd⟩:=kG I.hok ha;have lx:=Paired.length kt;have hx:xs≠[]:=fun c=>hne (List.eq_nil_of_length_eq_zero (by rw[lx,c];rfl))
 refine B6 dd hS hx (by omega) (JP kt hk) fun g hg kp=>?_
 have hm:(s.heap.objs.size==sysModules)=false:=beq_eq_false_iff_ne.mpr (Nat.ne_of_gt I.big);obtain⟨q,es,ep,hq,h2,h3,h4,_,h5⟩:=hg;refine⟨.ref s.heap.objs.size,_,I.laid (a:=s.heap.objs.size) (o:=.dT kvs) (t':=s.toks) kp (Nat.le_refl _) ⟨z,hm,_,kt.keeps fun c yy ec=>?_,q,es,ep,hq,h2,h3,h4,h5⟩,rfl,h _ (I.hok.fresh (Nat.le_refl _))⟩;rw[aA (aG ec (I.hok.fresh (Nat.le_refl _)))];exact ec
noncomputable def MH:V->List V->Hp->VK->Prop:=fun x vs H Q=>∃(d o:Addr)(kvs more:List (List Key×V)),x=.ref d/\vs=[.ref o]/\d≠o/\H d=some (.dT kvs)/\Rd H o (.dT more)/\kvs≠[]/\kvs.length+more.length<=sizeLine/\Q .non (upd H d (.dT (gS kvs more)))
theorem IP(hu:X.A.units+1<cLine):MtR X "dict.update" MH:=by
 intro pins s σ H x vs v us Q I rx rv ⟨d,o,kvs,more,e1,e2,ne,hd,ho,hne,hz,q⟩;subst e1 e2;cases rx;rw[Vals.F9 rv];obtain⟨z1,hS1,ys,kt1,dd1⟩:=JY I.hok hd;obtain⟨z2,hS2,xs,kt2,dd2⟩:=kG I.hok ho;have l1:=Paired.length kt1;have l2:=Paired.length kt2;have hy:ys≠[]:=fun c=>hne (List.eq_nil_of_length_eq_zero (by rw[l1,c];rfl))
 refine ER hu ne hS2 dd1 hy dd2 (by omega) fun g hg sb=>?_
 obtain⟨qq,es,ep,hq,h2,h3,h4,_,h5⟩:=hg;have hl:(gS kvs more).length<=sizeLine:=by have:=oR more kvs;omega
 refine⟨.non,upd H d (.dT (gS kvs more)),wJ (t':=s.toks) I (by rw[hd];exact True.intro) sb ⟨qq,hq⟩ ⟨hl,hS1,_,(wM kt2 kt1).keeps fun c yy ec=>?_,qq,es,ep,hq,h2,h3,h4,h5⟩,rfl,q⟩;rw[aA (eT ec hd (fun z=>nomatch z))];exact ec
end
end L3
namespace RT
open PySem L2 L3
noncomputable def top(i:Nat):Stmt:=PySem.Challenge.pw_rooftold_s10_change.main.body.getD i (.Pass ⟨0,0,0,0⟩)
structure Adr where
 c8:Addr
 cB:Addr
 fF:Addr
 iD:Addr
 iC:Addr
 Roof:Addr
abbrev bmE:List Value:=[.type "Exception",.type "BaseException",.type "object"]
structure Txt(K:W.Frag)(mg:Str->Option Value)(base:Heap)(d:Adr):Prop where
 bG:∃a,mg "ALL_SIDES" =some (.ref a)/\∀H,SqT K H a [.int 0,.int 1,.int 2,.int 3]
 w6:∃a,mg "STEPS" =some (.ref a)/\CT2 K a [(0,-1),(1,0),(0,1),(-1,0)]
 hZ:∃a,mg "SIDE_STARTS" =some (.ref a)/\CT2 K a [(0,0),(1,0),(1,1),(0,1)]
 mG:∃a,mg "QUARTERS" =some (.ref a)/\CT2 K a [(0,0),(1,0),(0,1),(1,1)]
 gM:∃a,mg "HALVES_ABOUT" =some (.ref a)/\CT2 K a [(-1,-1),(0,-1),(1,-1),(-1,0),(1,0),(-1,1),(0,1),(1,1)]
 dR:∃a,mg "HALVES_AT_A_POINT" =some (.ref a)/\CT2 K a [(-1,-1),(0,-1),(-1,0),(0,0)]
 yQ:mL mg "LINE_FEED" 10
 J9:mL mg "BLANK" 32
 J8:mL mg "COMMA" 44
 jC:mL mg "DIGIT_ZERO" 48
 w9:mL mg "DIGIT_NINE" 57
 nN:mL mg "GREATEST_NUMBER" 64
 tU:mL mg "MOST_DIGITS" 2
 pE:mL mg "FEWEST_CORNERS" 4
 iR:mL mg "CELLS_IN_A_ROW" 64
 w8:mL mg "MOST_CELLS" 256
 len:mg "len" =none
 min:mg "min" =none
 max:mg "max" =none
 any:mg "any" =none
 list:mg "list" =none
 dict:mg "dict" =none
 sorted:mg "sorted" =none
 range:mg "range" =none
 enumerate:mg "enumerate" =none
 eE:PyProof.Rows.OwnCls "NoHouse" d.c8 bmE "Exception.__new__" mg base
 LB:mg "Roof" =some (.ref d.Roof)
 c7:Cls K d.Roof
 IL:fV K d.Roof "cells"
 jZ:fV K d.Roof "depths"
 lB:fV K d.Roof "heights"
 gF:fV K d.Roof "facings"
 uR:fV K d.Roof "numbers"
 IK:fV K d.Roof "faces"
 J7:mL mg "STAYS" 0
 DV:mL mg "CHANGED" 1
 Q9:mL mg "NEW" 2
 LC:mL mg "GONE" 3
 all:mg "all" =none
variable {P:Program}{w:World}{K:W.Frag}{mg:Str->Option Value}{base:Heap}{d:Adr}{f:Addr}{fd:FuncData}
theorem hm{k n:Nat}{A:Around}(h:cQ n A)(e:k<=n:=by decide):cQ k A:=h.mono e
abbrev s_lo:Stmt:=(top 4)
theorem sc_lo:aL ["direction"] ["direction"] (aI s_lo):=⟨rfl,rfl,rfl,by decide+kernel,rfl,by decide+kernel,by decide+kernel⟩
noncomputable def sp_lo(K:W.Frag)(d:Adr):Sp:=fun vs H Q _=>∃x:Int,vs=[.int x]/\Q (.int ((x+1)%4)) H
theorem ok_lo(F:Fun K "left_of" "left_of" s_lo f fd)(T:Txt K mg base d):bM P w K mg base CX0 1 f fd ["direction"] (sp_lo K d):=by refine F.ok sc_lo (fun vs H Q E h=>by obtain⟨x,rfl,_⟩:=h;rfl) (fun cdv A outer s H vs Q E hr h=>?_);have hu:=bJ hr;obtain⟨x,rfl,k⟩:=h;refine⟨_,(aE (aP (gJ A6 (gJ m6 (pv 0) aQ) aQ))),?_⟩;exact⟨_,rfl,_,_,rfl,rfl,_,_,rfl,rfl,(by show(0:Int)<4;decide),k⟩
abbrev s_o:Stmt:=(top 5)
theorem sc_o:aL ["direction"] ["direction"] (aI s_o):=⟨rfl,rfl,rfl,by decide+kernel,rfl,by decide+kernel,by decide+kernel⟩
noncomputable def sp_o(K:W.Frag)(d:Adr):Sp:=fun vs H Q _=>∃x:Int,vs=[.int x]/\Q (.int ((x+2)%4)) H
theorem ok_o(F:Fun K "opposite" "opposite" s_o f fd)(T:Txt K mg base d):bM P w K mg base CX0 1 f fd ["direction"] (sp_o K d):=by refine F.ok sc_o (fun vs H Q E h=>by obtain⟨x,rfl,_⟩:=h;rfl) (fun cdv A outer s H vs Q E hr h=>?_);have hu:=bJ hr;obtain⟨x,rfl,k⟩:=h;refine⟨_,(aE (aP (gJ A6 (gJ m6 (pv 0) aQ) aQ))),?_⟩;exact⟨_,rfl,_,_,rfl,rfl,_,_,rfl,rfl,(by show(0:Int)<4;decide),k⟩
abbrev s_ro:Stmt:=(top 6)
theorem sc_ro:aL ["direction"] ["direction"] (aI s_ro):=⟨rfl,rfl,rfl,by decide+kernel,rfl,by decide+kernel,by decide+kernel⟩
noncomputable def sp_ro(K:W.Frag)(d:Adr):Sp:=fun vs H Q _=>∃x:Int,vs=[.int x]/\Q (.int ((x+3)%4)) H
theorem ok_ro(F:Fun K "right_of" "right_of" s_ro f fd)(T:Txt K mg base d):bM P w K mg base CX0 1 f fd ["direction"] (sp_ro K d):=by refine F.ok sc_ro (fun vs H Q E h=>by obtain⟨x,rfl,_⟩:=h;rfl) (fun cdv A outer s H vs Q E hr h=>?_);have hu:=bJ hr;obtain⟨x,rfl,k⟩:=h;refine⟨_,(aE (aP (gJ A6 (gJ m6 (pv 0) aQ) aQ))),?_⟩;exact⟨_,rfl,_,_,rfl,rfl,_,_,rfl,rfl,(by show(0:Int)<4;decide),k⟩
abbrev s_m:Stmt:=(top 7)
theorem sc_m:aL ["place","step"] ["place","step"] (aI s_m):=⟨rfl,rfl,rfl,by decide+kernel,rfl,by decide+kernel,by decide+kernel⟩
noncomputable def sp_m(K:W.Frag)(d:Adr):Sp:=fun vs H Q _=>∃(v u:V)(p q:PI),vs=[v,u]/\C2 K H v p/\C2 K H u q/\∀r H',a9 H H'->T2 H' r (p.1+q.1,p.2+q.2)->Q r H'
theorem ok_m(F:Fun K "moved" "moved" s_m f fd)(T:Txt K mg base d):bM P w K mg base CX0 1 f fd ["place","step"] (sp_m K d):=by refine F.ok sc_m (fun vs H Q E h=>by obtain⟨v,u,p,q,rfl,_⟩:=h;rfl) (fun cdv A outer s H vs Q E hr h=>?_);have hu:=bJ hr;obtain⟨v,u,p,q,rfl,⟨a,rfl,ha⟩,⟨b,rfl,hb⟩,k⟩:=h;refine⟨_,(aE (aP (dE (a8 (gJ m6 (cU cN (pv 0) aQ (fun _ _=>rfl)) (cU cN (pv 1) aQ (fun _ _=>rfl))) (a8 (gJ m6 (cU cN (pv 0) aQ (fun _ _=>rfl)) (cU cN (pv 1) aQ (fun _ _=>rfl))) aC))))),?_⟩;refine⟨_,rfl,a,_,_,_,rfl,rfl,ha,bQ (by decide) rfl,_,rfl,b,_,_,_,rfl,rfl,hb,bQ (by decide) rfl,_,_,rfl,rfl,_,rfl,a,_,_,_,rfl,rfl,ha,bQ (by decide) rfl,_,rfl,b,_,_,_,rfl,rfl,hb,bQ (by decide) rfl,_,_,rfl,rfl,(by show 2<=sizeLine;decide),fun t ht=>?_⟩;exact k _ _ (a9.upd ht) ⟨t,rfl,a7⟩
abbrev s_b:Stmt:=(top 8)
theorem sc_b:aL ["place","direction"] ["place","direction"] (aI s_b):=⟨rfl,rfl,rfl,by decide+kernel,rfl,by decide+kernel,by decide+kernel⟩
noncomputable def sp_b(K:W.Frag)(d:Adr):Sp:=fun vs H Q _=>∃(v:V)(p:PI)(s:Nat),vs=[v,.int s]/\C2 K H v p/\s<4/\∀r H',a9 H H'->T2 H' r (RM.aM p s)->Q r H'
theorem ok_b(F:Fun K "beyond" "beyond" s_b f fd)(T:Txt K mg base d)(D_m:aR P w K mg base CX0 1 "moved" ["place","step"] (sp_m K d)):bM P w K mg base CX0 2 f fd ["place","direction"] (sp_b K d):=by
 refine F.ok sc_b (fun vs H Q E h=>by obtain⟨v,p,s,rfl,_⟩:=h;rfl) (fun cdv A outer s H vs Q E hr h=>?_);have hu:=bJ hr;obtain⟨aSTEPS,w6,c_STEPS⟩:=T.w6;obtain⟨v,p,s,rfl,hv,hs,k⟩:=h;obtain⟨xs,hx,pr⟩:=c_STEPS;obtain⟨q,hq,e⟩:∃q:PI,([(0,-1),(1,0),(0,1),(-1,0)]:List PI)[s]? =some q/\((p.1+q.1,p.2+q.2):PI)=RM.aM p s:=by
  have cs:s=0\/s=1\/s=2\/s=3:=by omega
  rcases cs with rfl|rfl|rfl|rfl
  ·exact⟨_,rfl,by simp[RM.aM];omega⟩
  ·exact⟨_,rfl,by simp[RM.aM]⟩
  ·exact⟨_,rfl,by simp[RM.aM]⟩
  ·exact⟨_,rfl,by simp[RM.aM];omega⟩
 obtain⟨u,hu',ru⟩:=iL pr hq;refine⟨_,(aE (aP (aT D_m (hm hr) aY rfl (a8 (pv 0) (a8 (cU cN (fC w6 rfl) (pv 1) (fun _ _=>rfl)) aC))))),?_⟩;exact⟨_,rfl,_,rfl,_,_,_,_,rfl,rfl,hx _,bQ (by omega) (by simpa using hu'),v,u,p,q,rfl,hv,ru _,fun r H' sm t=>k r H' sm (by rw[<- e];exact t)⟩
abbrev s_ss:Stmt:=(top 9)
theorem sc_ss:aL ["square","side"] ["square","side"] (aI s_ss):=⟨rfl,rfl,rfl,by decide+kernel,rfl,by decide+kernel,by decide+kernel⟩
noncomputable def sp_ss(K:W.Frag)(d:Adr):Sp:=fun vs H Q _=>∃(v:V)(p:PI)(s:Nat),vs=[v,.int s]/\C2 K H v p/\s<4/\∀r H',a9 H H'->T2 H' r (RM.aF p s)->Q r H'
theorem ok_ss(F:Fun K "side_start" "side_start" s_ss f fd)(T:Txt K mg base d)(D_m:aR P w K mg base CX0 1 "moved" ["place","step"] (sp_m K d)):bM P w K mg base CX0 2 f fd ["square","side"] (sp_ss K d):=by
 refine F.ok sc_ss (fun vs H Q E h=>by obtain⟨v,p,s,rfl,_⟩:=h;rfl) (fun cdv A outer s H vs Q E hr h=>?_);have hu:=bJ hr;obtain⟨aSIDE_STARTS,hZ,c_SIDE_STARTS⟩:=T.hZ;obtain⟨v,p,s,rfl,hv,hs,k⟩:=h;obtain⟨xs,hx,pr⟩:=c_SIDE_STARTS;obtain⟨q,hq,e⟩:∃q:PI,([(0,0),(1,0),(1,1),(0,1)]:List PI)[s]? =some q/\((p.1+q.1,p.2+q.2):PI)=RM.aF p s:=by
  have cs:s=0\/s=1\/s=2\/s=3:=by omega
  rcases cs with rfl|rfl|rfl|rfl<;>exact⟨_,rfl,by simp[RM.aF]⟩
 obtain⟨u,hu',ru⟩:=iL pr hq;refine⟨_,(aE (aP (aT D_m (hm hr) aY rfl (a8 (pv 0) (a8 (cU cN (fC hZ rfl) (pv 1) (fun _ _=>rfl)) aC))))),?_⟩;exact⟨_,rfl,_,rfl,_,_,_,_,rfl,rfl,hx _,bQ (by omega) (by simpa using hu'),v,u,p,q,rfl,hv,ru _,fun r H' sm t=>k r H' sm (by rw[<- e];exact t)⟩
abbrev s_se:Stmt:=(top 10)
theorem sc_se:aL ["square","side"] ["square","side"] (aI s_se):=⟨rfl,rfl,rfl,by decide+kernel,rfl,by decide+kernel,by decide+kernel⟩
noncomputable def sp_se(K:W.Frag)(d:Adr):Sp:=fun vs H Q _=>∃(v:V)(p:PI)(s:Nat),vs=[v,.int s]/\C2 K H v p/\s<4/\∀r H',a9 H H'->T2 H' r (RM.aF p (s+1))->Q r H'
theorem ok_se(F:Fun K "side_end" "side_end" s_se f fd)(T:Txt K mg base d)(D_ss:aR P w K mg base CX0 2 "side_start" ["square","side"] (sp_ss K d))(D_lo:aR P w K mg base CX0 1 "left_of" ["direction"] (sp_lo K d)):bM P w K mg base CX0 3 f fd ["square","side"] (sp_se K d):=by
 refine F.ok sc_se (fun vs H Q E h=>by obtain⟨v,p,s,rfl,_⟩:=h;rfl) (fun cdv A outer s H vs Q E hr h=>?_);have hu:=bJ hr;obtain⟨v,p,s,rfl,hv,hs,k⟩:=h;refine⟨_,(aE (aP (aT D_ss (hm hr) aY rfl (a8 (pv 0) (a8 (aT D_lo (hm hr) aY rfl (a8 (pv 1) aC)) aC))))),?_⟩;refine⟨_,rfl,_,rfl,_,rfl,v,p,(s+1)%4,?_,hv,by omega,fun r H' sm t=>k r H' sm ?_⟩
 ·simp
 ·have e:RM.aF p ((s+1)%4)=RM.aF p (s+1):=by unfold RM.aF;rw[Nat.mod_mod]
  rw[<- e];exact t
abbrev s_br:Stmt:=(top 11)
theorem sc_br:aL ["place"] ["place"] (aI s_br):=⟨rfl,rfl,rfl,by decide+kernel,rfl,by decide+kernel,by decide+kernel⟩
noncomputable def sp_br(K:W.Frag)(d:Adr):Sp:=fun vs H Q _=>∃(v:V)(p:PI),vs=[v]/\C2 K H v p/\∀r H',a9 H H'->T2 H' r (p.2,p.1)->Q r H'
theorem ok_br(F:Fun K "by_row" "by_row" s_br f fd)(T:Txt K mg base d):bM P w K mg base CX0 1 f fd ["place"] (sp_br K d):=by refine F.ok sc_br (fun vs H Q E h=>by obtain⟨v,p,rfl,_⟩:=h;rfl) (fun cdv A outer s H vs Q E hr h=>?_);have hu:=bJ hr;obtain⟨v,p,rfl,⟨a,rfl,ha⟩,k⟩:=h;refine⟨_,(aE (aP (dE (a8 (cU cN (pv 0) aQ (fun _ _=>rfl)) (a8 (cU cN (pv 0) aQ (fun _ _=>rfl)) aC))))),?_⟩;refine⟨_,rfl,a,_,_,_,rfl,rfl,ha,bQ (by decide) rfl,_,rfl,a,_,_,_,rfl,rfl,ha,bQ (by decide) rfl,(by show 2<=sizeLine;decide),fun t ht=>?_⟩;exact k _ _ (a9.upd ht) ⟨t,rfl,a7⟩
abbrev s_pb:Stmt:=(top 36)
theorem sc_pb:aL ["row","mark","parts","part","value"] ["row","mark"] (aI s_pb):=⟨rfl,rfl,rfl,by decide+kernel,rfl,by decide+kernel,by decide+kernel⟩
theorem C0{ns:List Int}{i:Nat}{y:V}(h:(ns.map V.int)[i]? =some y):∃z,ns[i]? =some z/\y=V.int z:=by
 rw[List.getElem?_map]at h;cases e:ns[i]? with
 |none=>rw[e]at h;cases h
 |some z=>rw[e]at h;exact⟨z,rfl,(Option.some.inj h).symm⟩
theorem few{n m:Nat}(h:n<=m)(hm:m<=100000:=by omega):n<sizeLine:=Nat.lt_of_le_of_lt (Nat.le_trans h hm) (by decide)
noncomputable def sp_pb(K:W.Frag)(d:Adr):Sp:=fun vs H Q _=>∃(a:Addr)(ns:List Int)(m:Int),vs=[.ref a,.int m]/\SqL K H a (ns.map V.int)/\ns.length<=4096/\∀p H',a9 H H'->H p=none->LLI H' p (RM.parts m ns)->Q (.ref p) H'
theorem ok_pb(F:Fun K "parts_between" "parts_between" s_pb f fd)(T:Txt K mg base d):bM P w K mg base CX0 1 f fd ["row","mark"] (sp_pb K d):=by
 refine F.ok sc_pb (fun vs H Q E h=>by obtain⟨a,ns,m,rfl,_⟩:=h;rfl) (fun cdv A outer s H vs Q E hr h=>?_);have hu:=bJ hr;obtain⟨a,ns,m,rfl,hS,hlen,k⟩:=h;refine⟨_,(aB (aS (i:=2) sc_pb.nd rfl (Or.inl rfl) (fO aC))
   (aB (aS (i:=3) sc_pb.nd rfl (Or.inl rfl) (fO aC))
   (aB (cF PassesOwn.never rfl (eO (pv 0)) (aN (i:=4) sc_pb.nd rfl (Or.inl rfl)) (aE (cE (bV jY (pv 4) (pv 1) (bZ _)) (aB (cZ (iJ PySem.F.plainAttrs_list PySem.F.slot_list_append PySem.F.type_list_append cI (pv 2) (a8 (pv 3) aC)))
   (aE (aS (i:=3) sc_pb.nd rfl (Or.inl rfl) (fO aC)))) (aE (cZ (iJ PySem.F.plainAttrs_list PySem.F.slot_list_append PySem.F.type_list_append cI (pv 3) (a8 (pv 4) aC)))))))
   (aB (cZ (iJ PySem.F.plainAttrs_list PySem.F.slot_list_append PySem.F.type_list_append cI (pv 2) (a8 (pv 3) aC)))
   (aE (aP (pv 2))))))),?_⟩
 refine⟨Nat.zero_le _,fun p hp=>?_⟩;refine⟨Nat.zero_le _,fun q hq=>?_⟩;have npq:p≠q:=aG a7 hq;refine⟨_,rfl,a,rfl,⟨_,(a9.trans (a9.upd hp) (a9.upd hq)).seq hS⟩,kB (K:=K) (a:=a) (xs:=ns.map V.int) (fun i σ H2=>∃(q:Addr)(done:List (List Int))(cur:List Int)(xs:List V)(v:Option V),
  σ=[some (.ref a),some (.int m),some (.ref p),some (.ref q),v]/\a9 H H2/\H q=none/\H2 p=some (.lst xs)/\H2 q=some (.lst (cur.map V.int))/\p≠q/\
  Paired (fun v r=>∃b,v=V.ref b/\b≠p/\b≠q/\H2 b=some (.lst (r.map V.int))) xs done/\done++RM.partsFrom m cur (ns.drop i)=RM.parts m ns/\done.length<=i/\cur.length<=i)
  ⟨q,[],[],[],none,rfl,a9.trans (a9.upd hp) (a9.upd hq),(a9.upd hp).free hq,by rw[aA npq,a7],a7,npq,.nil,RM.hV m ns,Nat.le_refl _,Nat.le_refl _⟩
  (fun i σ H2 _ ⟨_,_,_,_,_,_,s2,_⟩=>s2.seq hS) ?_ ?_⟩
 ·rintro i y σ H2 hi ⟨q,done,cur,xs,v,rfl,s2,fq,h1,h2,npq,pr,hd,l1,l2⟩;obtain⟨z,hz,rfl⟩:=C0 hi;have hil:i<ns.length:=(List.getElem?_eq_some_iff.mp hz).1;have lx:=pairs_len pr;rw[RM.drop_cons hz]at hd;refine⟨_,rfl,_,rfl,rfl,_,rfl,?_⟩;refine cG (fun c=>?_) (fun c=>?_)
  ·have e:z=m:=by simpa using c
   refine⟨_,rfl,.inl ⟨rfl,_,SqL.of h1⟩,_,rfl,p,xs,.ref q,rfl,rfl,h1,few (m:=4096) (by omega),?_⟩;refine⟨Nat.zero_le _,fun q' hq'=>?_⟩;have hp':(upd H2 p (.lst (xs++[.ref q]))) p=some (.lst (xs++[.ref q])):=a7;have hq2:(upd H2 p (.lst (xs++[.ref q]))) q=some (.lst (cur.map V.int)):=by rw[aA npq.symm];exact h2
   have n1:p≠q':=aG hp' hq';have n2:q≠q':=aG hq2 hq';have s3:a9 H (upd H2 p (.lst (xs++[.ref q]))):=a9.put s2 hp;refine⟨q',done++[cur],[],xs++[.ref q],_,rfl,a9.trans s3 (a9.upd hq'),s3.free hq',by rw[aA n1,a7],a7,n1,?_,?_,by rw[List.length_append];simp;omega,Nat.zero_le _⟩
   ·refine bD ⟨q,rfl,npq.symm,n2,by rw[aA n2];exact hq2⟩ (aJ (fun v r ⟨b,e1,e2,e3,e4⟩=>?_) pr);have e5:(upd H2 p (.lst (xs++[.ref q]))) b=some (.lst (r.map V.int)):=by rw[aA e2];exact e4
    have n3:b≠q':=aG e5 hq';exact⟨b,e1,e2,n3,by rw[aA n3];exact e5⟩
   ·rw[RM.hY e]at hd;rw[<- hd];simp
  ·have e:¬z=m:=by simpa using c
   refine⟨_,rfl,.inl ⟨rfl,_,SqL.of h2⟩,_,rfl,q,_,.int z,rfl,rfl,h2,by rw[List.length_map];exact few (m:=4096) (by omega),?_⟩;refine⟨q,done,cur++[z],xs,_,rfl,a9.put s2 fq,fq,by rw[aA npq];exact h1,by rw[a7,List.map_append];rfl,npq,aJ (fun v r ⟨b,e1,e2,e3,e4⟩=>⟨b,e1,e2,e3,by rw[aA e3];exact e4⟩) pr,?_,by omega,by rw[List.length_append];simp;omega⟩;rw[RM.gK e]at hd;exact hd
 ·rintro σ H2 ⟨q,done,cur,xs,v,rfl,s2,fq,h1,h2,npq,pr,hd,l1,l2⟩;have lx:=pairs_len pr;rw[List.length_map]at hd l1;rw[List.drop_eq_nil_of_le (Nat.le_refl _)]at hd;have hd:done++[cur]=RM.parts m ns:=hd;refine⟨_,rfl,.inl ⟨rfl,_,SqL.of h1⟩,_,rfl,p,xs,.ref q,rfl,rfl,h1,few (m:=4096) (by omega),?_⟩;refine⟨_,rfl,k p _ (a9.put s2 hp) hp ⟨_,a7,?_⟩⟩;rw[<- hd];refine bD ⟨q,rfl,by rw[aA npq.symm];exact h2⟩ (aJ (fun v r ⟨b,e1,e2,e3,e4⟩=>⟨b,e1,by rw[aA e2];exact e4⟩) pr)
abbrev s_dt:Stmt:=(top 37)
theorem sc_dt:aL ["value"] ["value"] (aI s_dt):=⟨rfl,rfl,rfl,by decide+kernel,rfl,by decide+kernel,by decide+kernel⟩
noncomputable def sp_dt(K:W.Frag)(d:Adr):Sp:=fun vs H Q E=>∃n:Int,vs=[.int n]/\(∀z,RM.kI n=some z->Q (.int z) H)/\(RM.kI n=none->E (.ref d.c8) none H)
theorem ok_dt(F:Fun K "digit_told" "digit_told" s_dt f fd)(T:Txt K mg base d):bM P w K mg base CXf 1 f fd ["value"] (sp_dt K d):=by
 refine okX F sc_dt (fun vs H Q E h=>by obtain⟨n,rfl,_⟩:=h;rfl) (fun cdv A outer s H vs Q E hr hok h=>?_);have hu:=bJ hr;obtain⟨n,rfl,k1,k2⟩:=h;refine⟨_,(aB (cE (PW.pt (xG (bV FU (pv 0) (cJ T.jC rfl) (bZ _)) (rS (bV uO (pv 0) (cJ T.w9 rfl) (bZ _))))) (aE (eD hok PySem.F.excBase_Exception T.eE rfl)) bC)
   (aE (aP (gJ FR (pv 0) (cJ T.jC rfl))))),?_⟩
 refine⟨_,rfl,_,_,rfl,rfl,_,rfl,?_⟩;refine cG (fun c=>?_) (fun c=>?_)
 ·have c:n<48:=by simpa using c
  exact DO (k2 (by unfold RM.kI;rw[if_pos (.inl c)]))
 ·have c:¬n<48:=by simpa using c
  refine⟨_,rfl,_,_,rfl,rfl,_,rfl,?_⟩;refine cG (fun c2=>?_) (fun c2=>?_)
  ·have c2:57<n:=by simpa using c2
   exact k2 (by unfold RM.kI;rw[if_pos (.inr c2)])
  ·have c2:¬57<n:=by simpa using c2
   exact⟨_,rfl,_,_,rfl,rfl,k1 _ (by unfold RM.kI;rw[if_neg (by omega)])⟩
abbrev s_nt:Stmt:=(top 38)
theorem sc_nt:aL ["row","number","value"] ["row"] (aI s_nt):=⟨rfl,rfl,rfl,by decide+kernel,rfl,by decide+kernel,by decide+kernel⟩
noncomputable def sp_nt(K:W.Frag)(d:Adr):Sp:=fun vs H Q E=>∃(v:V)(ns:List Int),vs=[v]/\LI H v ns/\ns.length<=4096/\(∀z,RM.d7 ns=some z->Q (.int z) H)/\(RM.d7 ns=none->E (.ref d.c8) none H)
theorem ok_nt(F:Fun K "number_told" "number_told" s_nt f fd)(T:Txt K mg base d)(D_dt:aR P w K mg base CXf 1 "digit_told" ["value"] (sp_dt K d)):bM P w K mg base CXf 2 f fd ["row"] (sp_nt K d):=by
 refine okX F sc_nt (fun vs H Q E h=>by obtain⟨v,ns,rfl,_⟩:=h;rfl) (fun cdv A outer s H vs Q E hr hok h=>?_);have hu:=bJ hr;obtain⟨v,ns,rfl,⟨a,rfl,ha⟩,hl,k1,k2⟩:=h;have hS:SqL K H a (ns.map V.int):=SqL.of ha;have el:(ns.map V.int).length=ns.length:=List.length_map ..;refine⟨_,(aB (cE (PW.pt (xG (bV jY (bT cM (by rfl) T.len PySem.boot_len (a8 (pv 0) aC)) aQ (bZ _)) (rS (bV uO (bT cM (by rfl) T.len PySem.boot_len (a8 (pv 0) aC)) (cJ T.tU rfl) (bZ _))))) (aE (eD hok PySem.F.excBase_Exception T.eE rfl)) bC)
   (aB (cE (PW.pt (oQ (bV uO (bT cM (by rfl) T.len PySem.boot_len (a8 (pv 0) aC)) aQ (bZ _)) (mW (bV jY (cU nJ (pv 0) aQ (fun _ _=>rfl)) (cJ T.jC rfl) (bZ _))))) (aE (eD hok PySem.F.excBase_Exception T.eE rfl)) bC)
   (aB (aS (i:=1) sc_nt.nd rfl (Or.inl rfl) aQ)
   (aB (cF PassesOwn.leaving rfl (eO (pv 0)) (aN (i:=2) sc_nt.nd rfl (Or.inl rfl)) (aE (aS (i:=1) sc_nt.nd rfl (Or.inl rfl) (gJ m6 (gJ A5 (pv 1) aQ) (aT D_dt (hm hr) (FN hok) rfl (a8 (pv 2) aC))))))
   (aB (cE (bV uO (pv 1) (cJ T.nN rfl) (bZ _)) (aE (eD hok PySem.F.excBase_Exception T.eE rfl)) bC)
   (aE (aP (pv 1)))))))),?_⟩
 refine⟨_,rfl,a,_,rfl,.inl hS,rfl,_,rfl,?_⟩;refine cG (fun c=>?_) (fun c=>?_)
 ·have c:ns.length=0:=by simpa using c
  exact DO (k2 (by unfold RM.d7;rw[if_pos (.inl c)]))
 have c:¬ns.length=0:=by simpa using c
 refine⟨_,rfl,a,_,rfl,.inl hS,_,_,rfl,rfl,_,rfl,?_⟩;refine cG (fun c2=>?_) (fun c2=>?_)
 ·have c2:2<ns.length:=by have:=of_decide_eq_true c2;rw[el]at this;omega
  exact k2 (by unfold RM.d7;rw[if_pos (.inr c2)])
 have c2:¬2<ns.length:=by intro z;exact c2 (decide_eq_true (by rw[el];omega))
 have n1:¬(ns.length=0\/2<ns.length):=by omega
 refine(fun(rest:¬(1<ns.length/\ns.head?=some 48)->?R)=>?main) ?hr;case main=>
  refine⟨_,rfl,a,_,rfl,.inl hS,_,_,rfl,rfl,_,rfl,?_⟩;refine cG (fun c3=>?_) (fun c3=>?_)
  ·have c3:1<ns.length:=by have:=of_decide_eq_true c3;rw[el]at this;omega
   obtain⟨y,hy⟩:∃y,ns[0]? =some y:=⟨ns[0],List.getElem?_eq_getElem (by omega)⟩
   refine⟨_,rfl,a,_,_,_,rfl,rfl,hS,bQ (v:=V.int y) (by decide) (by rw[List.getElem?_map];show ns[0]?.map V.int=_;rw[hy];rfl),rfl,_,rfl,?_⟩;have hh:ns.head?=some y:=by rw[List.head?_eq_getElem?];exact hy
   refine cG (fun c4=>?_) (fun c4=>?_)
   ·have c4:y=48:=by simpa using c4
    exact k2 (by unfold RM.d7;rw[if_neg n1,if_pos ⟨c3,by rw[hh,c4]⟩])
   ·have c4:¬y=48:=by simpa using c4
    exact rest fun z=>c4 (by have:=z.2;rw[hh]at this;exact Option.some.inj this)
  ·have c3:¬1<ns.length:=by intro z;exact c3 (decide_eq_true (by rw[el];omega))
   exact G5 (rest fun z=>c3 z.1)
 case hr=>
  intro c3;have nb:∀o,ns.foldlM RM.gV 0=o->RM.d7 ns=o.bind fun n=>if 64<n then none else some n:=fun o e=>by unfold RM.d7;rw[if_neg n1,if_neg c3,e]
  refine⟨_,rfl,a,rfl,⟨_,hS⟩,kB (K:=K) (a:=a) (xs:=ns.map V.int) (fun i σ H2=>H2=H/\∃(n:Int)(v:Option V),σ=[some (.ref a),some (.int n),v]/\(ns.take i).foldlM RM.gV 0=some n)
   ⟨rfl,0,none,rfl,rfl⟩ (fun i σ H2 _ ⟨e,_⟩=>by rw[e];exact hS) ?_ ?_⟩
  ·rintro i y σ H2 hi ⟨rfl,n,v,rfl,hn⟩;obtain⟨z,hz,rfl⟩:=C0 hi;refine⟨_,rfl,_,_,rfl,rfl,.inr ⟨by decide,by decide⟩,_,rfl,z,rfl,fun q hq=>⟨_,_,rfl,rfl,rfl,_,_,rfl,?_⟩,fun hq=>?_⟩
   ·rw[RM.qJ hn hz];unfold RM.gV;rw[hq];rfl
   ·refine k2 ?_;have e:RM.gV n z=none:=by unfold RM.gV;rw[hq];rfl
    rw[nb _ (RM.yU hn hz e)];rfl
  ·rintro σ H2 ⟨rfl,n,v,rfl,hn⟩;rw[el,List.take_of_length_le (Nat.le_refl _)]at hn;refine⟨_,rfl,_,_,rfl,rfl,_,rfl,?_⟩;refine cG (fun c4=>?_) (fun c4=>?_)
   ·have c4:64<n:=by simpa using c4
    exact k2 (by rw[nb _ hn];show(if 64<n then none else some n)=none;rw[if_pos c4])
   ·have c4:¬64<n:=by simpa using c4
    exact⟨_,rfl,k1 n (by rw[nb _ hn];show(if 64<n then none else some n)=some n;rw[if_neg c4])⟩
abbrev s_ct:Stmt:=(top 39)
theorem sc_ct:aL ["row","numbers","part"] ["row"] (aI s_ct):=⟨rfl,rfl,rfl,by decide+kernel,rfl,by decide+kernel,by decide+kernel⟩
def LY:List Int->Option (Int×Int)
 |[a,b]=>some (a,b)
 |_=>none
noncomputable def sp_ct(K:W.Frag)(d:Adr):Sp:=fun vs H Q E=>∃(v:V)(ns:List Int),vs=[v]/\LI H v ns/\ns.length<=4096/\(∀z,RM.d9 ns=some z->∀r H',a9 H H'->T2 H' r z->Q r H')/\(RM.d9 ns=none->E (.ref d.c8) none H)
theorem ok_ct(F:Fun K "corner_told" "corner_told" s_ct f fd)(T:Txt K mg base d)(D_pb:aR P w K mg base CX0 1 "parts_between" ["row","mark"] (sp_pb K d))(D_nt:aR P w K mg base CXf 2 "number_told" ["row"] (sp_nt K d)):bM P w K mg base CXf 3 f fd ["row"] (sp_ct K d):=by
 refine okX F sc_ct (fun vs H Q E h=>by obtain⟨v,ns,rfl,_⟩:=h;rfl) (fun cdv A outer s H vs Q E hr hok h=>?_);have hu:=bJ hr;obtain⟨v,ns,rfl,⟨a,rfl,ha⟩,hl,k1,k2⟩:=h;refine⟨_,(aB (uH hok (i:=1) (own:=[("part",2)]) rfl sc_ct.nd rfl rfl (by exact vK rfl rfl rfl rfl) (eO (aT D_pb (hm hr) aY rfl (a8 (pv 0) (a8 (cJ T.J8 rfl) aC)))) (fL (by first|decide+kernel|kernel_rfl)) (fun _ _ _ _ _=>(aN (i:=2) sc_ct.nd rfl (Or.inl rfl))) (fun _ _ _ _ _ hk=>(aT D_nt (hm hr) (FO (E':=fun c=>E c none H) hk) rfl (a8 (pv 2) aC))))
   (aB (cE (bV FT (bT cM (by rfl) T.len PySem.boot_len (a8 (pv 1) aC)) aQ (bZ _)) (aE (eD hok PySem.F.excBase_Exception T.eE rfl)) bC)
   (aE (aP (dE (a8 (cU nJ (pv 1) aQ (fun _ _=>rfl)) (a8 (cU nJ (pv 1) aQ (fun _ _=>rfl)) aC))))))),?_⟩
 refine⟨_,rfl,a,ns,44,rfl,SqL.of ha,hl,fun p H1 sm fp ⟨xs,hp,pr⟩=>⟨p,rfl,⟨_,SqL.of hp⟩,fun D hD=>lG (K:=K) (a:=p) (xs:=xs)
  (fun i H2=>a9 H1 H2/\∃zs,H2 D=some (.lst (zs.map V.int))/\((RM.parts 44 ns).take i).mapM RM.d7=some zs) ⟨a9.upd hD,[],a7,rfl⟩ (fun i H2 _ ⟨s2,_⟩=>s2.seq (SqL.of hp)) ?_ ?_⟩⟩
 ·rintro i x H2 hx ⟨s2,zs,h2,hz⟩;obtain⟨row,hrow,qQ⟩:=pairs_at pr hx;have hm:=List.mem_of_getElem? hrow;have l1:zs.length<=4097:=by have:=RM.sE hz;have h3:=RM.oX 44 ns;rw[List.length_take]at this;omega
  refine⟨rfl,?_⟩;refine⟨_,rfl,x,row,rfl,qQ.mono s2,Nat.le_trans (RM.hO hm) hl,fun z hz'=>⟨_,h2,by rw[List.length_map];exact few l1,a9.put s2 hD,zs++[z],by rw[a7,List.map_append];rfl,RM.oY hz hrow hz'⟩,fun hn=>k2 ?_⟩;unfold RM.d9;rw[RM.oZ hm hn];rfl
 ·rintro H2 ⟨s2,zs,h2,hz⟩;rw[pairs_len pr,List.take_of_length_le (Nat.le_refl _)]at hz;refine⟨_,rfl,D,_,rfl,.inl (SqL.of h2),rfl,_,rfl,?_⟩;have hc:RM.d9 ns=LY zs:=by
   unfold RM.d9;rw[hz];match zs with
   |[]=>rfl
   |[_]=>rfl
   |[_,_]=>rfl
   |_::_::_::_=>rfl
  refine cG (fun c=>k2 ?_) (fun c=>?_)
  ·rw[hc];match zs,c with
   |[],_=>rfl
   |[_],_=>rfl
   |[_,_],c=>simp at c
   |_::_::_::_,_=>rfl
  ·match zs,c,hc,h2 with
   |[],c,_,_=>simp at c
   |[_],c,_,_=>simp at c
   |_::_::_::_,c,_,_=>simp at c;omega
   |[x,y],_,hc,h2=>refine⟨_,rfl,D,_,_,_,rfl,rfl,SqL.of h2,bQ (v:=V.int x) (by decide) rfl,_,rfl,D,_,_,_,rfl,rfl,SqL.of h2,bQ (v:=V.int y) (by decide) rfl,(by show 2<=sizeLine;decide),fun t ht=>?_⟩;exact k1 (x,y) hc _ _ (a9.trans sm (a9.trans s2 (a9.upd ht))) ⟨t,rfl,a7⟩
abbrev s_wt:Stmt:=(top 40)
theorem sc_wt:aL ["row","corners","part"] ["row"] (aI s_wt):=⟨rfl,rfl,rfl,by decide+kernel,rfl,by decide+kernel,by decide+kernel⟩
noncomputable def sp_wt(K:W.Frag)(d:Adr):Sp:=fun vs H Q E=>∃(v:V)(ns:List Int),vs=[v]/\LI H v ns/\ns.length<=4096/\(∀z,RM.iH ns=some z->∀r H',a9 H H'->H r=none->LT H' (.ref r) z->Q (.ref r) H')/\(RM.iH ns=none->E (.ref d.c8) none H)
theorem ok_wt(F:Fun K "walk_told" "walk_told" s_wt f fd)(T:Txt K mg base d)(D_pb:aR P w K mg base CX0 1 "parts_between" ["row","mark"] (sp_pb K d))(D_ct:aR P w K mg base CXf 3 "corner_told" ["row"] (sp_ct K d)):bM P w K mg base CXf 4 f fd ["row"] (sp_wt K d):=by
 refine okX F sc_wt (fun vs H Q E h=>by obtain⟨v,ns,rfl,_⟩:=h;rfl) (fun cdv A outer s H vs Q E hr hok h=>?_);have hu:=bJ hr;obtain⟨v,ns,rfl,⟨a,rfl,ha⟩,hl,k1,k2⟩:=h;refine⟨_,(aB (uH hok (i:=1) (own:=[("part",2)]) rfl sc_wt.nd rfl rfl (by exact vK rfl rfl rfl rfl) (eO (aT D_pb (hm hr) aY rfl (a8 (pv 0) (a8 (cJ T.J9 rfl) aC)))) (fL (by first|decide+kernel|kernel_rfl)) (fun _ _ _ _ _=>(aN (i:=2) sc_wt.nd rfl (Or.inl rfl))) (fun _ _ _ _ _ hk=>(aT D_ct (hm hr) (FO (E':=fun c=>E c none H) hk) rfl (a8 (pv 2) aC))))
   (aB (cE (bV FU (bT cM (by rfl) T.len PySem.boot_len (a8 (pv 1) aC)) (cJ T.pE rfl) (bZ _)) (aE (eD hok PySem.F.excBase_Exception T.eE rfl)) bC)
   (aE (aP (pv 1))))),?_⟩
 refine⟨_,rfl,a,ns,32,rfl,SqL.of ha,hl,fun p H1 sm fp ⟨xs,hp,pr⟩=>⟨p,rfl,⟨_,SqL.of hp⟩,fun D hD=>lG (K:=K) (a:=p) (xs:=xs)
  (fun i H2=>a9 H1 H2/\∃ys zs,H2 D=some (.lst ys)/\Paired (T2 H2) ys zs/\((RM.parts 32 ns).take i).mapM RM.d9=some zs) ⟨a9.upd hD,[],[],a7,.nil,rfl⟩ (fun i H2 _ ⟨s2,_⟩=>s2.seq (SqL.of hp)) ?_ ?_⟩⟩
 ·rintro i x H2 hx ⟨s2,ys,zs,h2,py,hz⟩;obtain⟨row,hrow,qQ⟩:=pairs_at pr hx;have hm:=List.mem_of_getElem? hrow;have l1:ys.length<=4097:=by have:=RM.sE hz;have h3:=RM.oX 32 ns;rw[List.length_take]at this;have:=pairs_len py;omega
  refine⟨rfl,?_⟩;refine⟨_,rfl,x,row,rfl,qQ.mono s2,Nat.le_trans (RM.hO hm) hl,fun z hz' r H3 s3 t3=>?_,fun hn=>k2 ?_⟩
  ·have h3:=s3 _ _ h2;refine⟨ys,h3,few l1,a9.put (a9.trans s2 s3) hD,ys++[r],zs++[z],a7,bD (t3.upd h3) (aJ (fun _ _ q=>(q.mono s3).upd h3) py),RM.oY hz hrow hz'⟩
  ·unfold RM.iH;rw[RM.oZ hm hn];rfl
 ·rintro H2 ⟨s2,ys,zs,h2,py,hz⟩;rw[pairs_len pr,List.take_of_length_le (Nat.le_refl _)]at hz;have hc:RM.iH ns=(if zs.length<4 then none else some zs):=by unfold RM.iH;rw[hz];rfl
  have ly:=pairs_len py;refine⟨_,rfl,D,_,rfl,.inl (SqL.of h2),_,_,rfl,rfl,_,rfl,?_⟩;refine cG (fun c=>k2 ?_) (fun c=>?_)
  ·have c:=of_decide_eq_true c;rw[hc,if_pos (by omega)]
  ·have c:¬zs.length<4:=fun z=>c (decide_eq_true (by omega))
   exact⟨_,rfl,k1 zs (by rw[hc,if_neg c]) D H2 (a9.trans sm s2) (sm.free hD) ⟨D,ys,rfl,h2,py⟩⟩
abbrev s_wt2:Stmt:=(top 41)
theorem sc_wt2:aL ["t","rows","rest","row"] ["t"] (aI s_wt2):=⟨rfl,rfl,rfl,by decide+kernel,rfl,by decide+kernel,by decide+kernel⟩
noncomputable def sp_wt2(K:W.Frag)(d:Adr):Sp:=fun vs H Q E=>∃(a:Addr)(ns:List Int),vs=[.ref a]/\SqL K H a (ns.map V.int)/\ns.length<=4096/\(∀z,RM.e7 ns=some z->∀r H',a9 H H'->LLT H' r z->Q r H')/\(RM.e7 ns=none->E (.ref d.c8) none H)
theorem ok_wt2(F:Fun K "walks_told" "walks_told" s_wt2 f fd)(T:Txt K mg base d)(D_pb:aR P w K mg base CX0 1 "parts_between" ["row","mark"] (sp_pb K d))(D_wt:aR P w K mg base CXf 4 "walk_told" ["row"] (sp_wt K d)):bM P w K mg base CXf 5 f fd ["t"] (sp_wt2 K d):=by
 refine okX F sc_wt2 (fun vs H Q E h=>by obtain⟨a,ns,rfl,_⟩:=h;rfl) (fun cdv A outer s H vs Q E hr hok h=>?_);have hu:=bJ hr;obtain⟨a,ns,rfl,hS,hl,k1,k2⟩:=h;refine⟨_,(aB (aS (i:=1) sc_wt2.nd rfl (Or.inl rfl) (aT D_pb (hm hr) aY rfl (a8 (pv 0) (a8 (cJ T.yQ rfl) aC))))
   (aB (aS (i:=2) sc_wt2.nd rfl (Or.inl rfl) (zX PySem.F.plainAttrs_list PySem.F.slot_list_pop PySem.F.type_list_pop A9 (pv 1)))
   (aB (cE (PW.pt (xG (bV uO (bT cM (by rfl) T.len PySem.boot_len (a8 (pv 2) aC)) aQ (bZ _)) (rS (bV jY (bT cM (by rfl) T.len PySem.boot_len (a8 (pv 1) aC)) aQ (bZ _))))) (aE (eD hok PySem.F.excBase_Exception T.eE rfl)) bC)
   (aE (aP (KN hok (own:=[("row",3)]) rfl sc_wt2.nd (eO (pv 1)) (fL (by first|decide+kernel|kernel_rfl)) (fun _ _ _ _ _=>(aN (i:=3) sc_wt2.nd rfl (Or.inl rfl))) (fun _ _ _ _ _ hk=>(aT D_wt (hm hr) (FO (E':=fun c=>E c none H) hk) rfl (a8 (pv 3) aC))))))))),?_⟩
 refine⟨_,rfl,a,ns,10,rfl,hS,hl,fun p H1 sm fp ⟨xs,hp,pr⟩=>?_⟩;have lp:=RM.oX 10 ns;have lx:=pairs_len pr;have hne:RM.parts 10 ns≠[]:=RM.xI 10 ns;have l0:0<(RM.parts 10 ns).length:=List.length_pos_iff.mpr hne;obtain⟨last,hlast⟩:∃last,(RM.parts 10 ns)[(RM.parts 10 ns).length - 1]? =some last:=⟨_,List.getElem?_eq_getElem (by omega)⟩
 obtain⟨y,hy,ly⟩:=iL pr hlast;have hgl:(RM.parts 10 ns).getLast?=some last:=by rw[List.getLast?_eq_getElem?];exact hlast
 obtain⟨b,rfl,nb,hb⟩:=LLI.apart hp (List.mem_of_getElem? hy) ly;refine⟨_,rfl,.inl ⟨rfl,_,SqL.of hp⟩,p,xs,.ref b,rfl,rfl,hp,by rw[lx];exact hy,?_⟩;have hb2:(upd H1 p (.lst xs.dropLast)) b=some (.lst (last.map V.int)):=by rw[aA nb];exact hb
 have hp2:(upd H1 p (.lst xs.dropLast)) p=some (.lst xs.dropLast):=a7;have s2:a9 H (upd H1 p (.lst xs.dropLast)):=a9.put sm fp;have pr2:Paired (LI (upd H1 p (.lst xs.dropLast))) xs.dropLast (RM.parts 10 ns).dropLast:=by refine aJ (fun v r ⟨h1,h2,h3⟩=>?_) (eS (lA pr));obtain⟨c,rfl,nc,hc⟩:=LLI.apart hp h1 h3;exact⟨c,rfl,by rw[aA nc];exact hc⟩
 have ld:xs.dropLast.length=(RM.parts 10 ns).dropLast.length:=pairs_len pr2;refine⟨_,rfl,b,_,rfl,.inl (SqL.of hb2),_,_,rfl,rfl,_,rfl,?_⟩;refine cG (fun c=>?_) (fun c=>?_)
 ·have c:0<last.length:=by have:=of_decide_eq_true c;rw[List.length_map]at this;omega
  have hx:(RM.parts 10 ns).getLast?≠some []:=by rw[hgl];intro z;cases z;simp at c
  refine DO (k2 ?_);unfold RM.e7;rw[if_pos (.inl hx)]
 have c:last=[]:=by
  apply List.eq_nil_of_length_eq_zero;have:¬((0:Int)<((last.map V.int).length:Int)):=fun z=>c (decide_eq_true z)
  rw[List.length_map]at this;omega
 refine⟨_,rfl,p,_,rfl,.inl (SqL.of hp2),rfl,_,rfl,?_⟩;refine cG (fun c2=>k2 ?_) (fun c2=>?_)
 ·have c2:xs.dropLast.length=0:=by have:=of_decide_eq_true c2;simpa using this
  unfold RM.e7;rw[if_pos (.inr (List.eq_nil_of_length_eq_zero (by omega)))]
 have c2:¬(RM.parts 10 ns).dropLast=[]:=fun z=>c2 (decide_eq_true (by rw[ld,z];rfl))
 have hw:RM.e7 ns=(RM.parts 10 ns).dropLast.mapM RM.iH:=by unfold RM.e7;rw[if_neg (by rintro(z|z);exact z (by rw[hgl,c]);exact c2 z)]
 refine⟨_,rfl,p,rfl,⟨_,SqL.of hp2⟩,fun D hD=>lG (K:=K) (a:=p) (xs:=xs.dropLast)
  (fun i H2=>a9 (upd H1 p (.lst xs.dropLast)) H2/\∃ys zs,H2 D=some (.lst ys)/\Paired (fun v z=>∃b,v=.ref b/\b≠D/\LT H2 (.ref b) z) ys zs/\((RM.parts 10 ns).dropLast.take i).mapM RM.iH=some zs) ⟨a9.upd hD,[],[],a7,.nil,rfl⟩ (fun i H2 _ ⟨s2,_⟩=>s2.seq (SqL.of hp2)) ?_ ?_⟩
 ·rintro i x H2 hx ⟨s3,ys,zs,h2,py,hz⟩;obtain⟨row,hrow,qQ⟩:=pairs_at pr2 hx;have hm:=List.mem_of_getElem? hrow;have l1:ys.length<=4097:=by
   have:=RM.sE hz;rw[List.length_take]at this;have:=pairs_len py;have:(RM.parts 10 ns).dropLast.length<=(RM.parts 10 ns).length:=by rw[List.length_dropLast];omega
   omega
  refine⟨rfl,?_⟩;refine⟨_,rfl,x,row,rfl,qQ.mono s3,Nat.le_trans (RM.hO (nI hm)) hl,fun z hz' r H3 s4 fr t3=>?_,fun hn=>k2 ?_⟩
  ·have h3:=s4 _ _ h2;have nr:r≠D:=fun z=>by rw[z,h2]at fr;cases fr
   refine⟨ys,h3,few l1,a9.put (a9.trans s3 s4) hD,ys++[.ref r],zs++[z],a7,bD ⟨r,rfl,nr,t3.upd h3 nr⟩ (aJ (fun _ _ ⟨b,e,n,q⟩=>⟨b,e,n,(q.mono s4).upd h3 n⟩) py),RM.oY hz hrow hz'⟩
  ·rw[hw];exact RM.oZ hm hn
 ·rintro H2 ⟨s3,ys,zs,h2,py,hz⟩;rw[ld,List.take_of_length_le (Nat.le_refl _)]at hz;exact k1 zs (by rw[hw,hz]) _ H2 (a9.trans s2 s3) ⟨D,ys,rfl,h2,aJ (fun _ _ ⟨b,e,n,q⟩=>by rw[e];exact q) py⟩
abbrev s_far:Stmt:=(top 45)
theorem sc_far:aL ["walks","feet","walk","number","corner","before","y"] ["walks"] (aI s_far):=⟨rfl,rfl,rfl,by decide+kernel,rfl,by decide+kernel,by decide+kernel⟩
noncomputable def sp_far(K:W.Frag)(d:Adr):Sp:=fun vs H Q _=>∃(v:V)(W:List Roof.Walk),vs=[v]/\LLT H v (RM.iWs W)/\RM.rY W/\∀a kvs H',a9 H H'->H a=none->D2 H' a kvs->(∀x y:Nat,((((x:Int),(y:Int)):PI)∈kvs.map (·.1))↔RM.dI W x y=true)->Q (.ref a) H'
theorem ok_far(F:Fun K "feet_across_rows" "feet_across_rows" s_far f fd)(T:Txt K mg base d):bM P w K mg base CX0 1 f fd ["walks"] (sp_far K d):=by
 refine F.ok sc_far (fun vs H Q E h=>by obtain⟨v,W,rfl,_⟩:=h;rfl) (fun cdv A outer s H vs Q E hr h=>?_);have hu:=bJ hr;obtain⟨v,W,rfl,⟨a,xs,rfl,ha,pr⟩,ok,k⟩:=h;have hin:=RM.IG ok;refine⟨_,(aB (aS (i:=1) sc_far.nd rfl (Or.inl rfl) eQ)
   (aB (cF PassesOwn.never rfl (eO (pv 0)) (aN (i:=2) sc_far.nd rfl (Or.inl rfl)) (aE (cF PassesOwn.never rfl (IB rfl T.enumerate (a8 (pv 2) aC)) (m5 rfl (bP (aN (i:=3) sc_far.nd rfl (Or.inl rfl)) (bP (aN (i:=4) sc_far.nd rfl (Or.inl rfl)) j2))) (aB (aS (i:=5) sc_far.nd rfl (Or.inl rfl) (cU nJ (pv 2) (gJ FR (pv 3) aQ) (fun _ _=>rfl)))
   (aE (cE (bV jY (cU cN (pv 4) aQ (fun _ _=>rfl)) (cU cN (pv 5) aQ (fun _ _=>rfl)) (bZ _)) (aE (cF PassesOwn.never rfl (D7 rfl T.range (a8 (bT (ED rfl) (by rfl) T.min (by rfl) (a8 (cU cN (pv 4) aQ (fun _ _=>rfl)) (a8 (cU cN (pv 5) aQ (fun _ _=>rfl)) aC))) (a8 (bT (EE rfl) (by rfl) T.max (by rfl) (a8 (cU cN (pv 4) aQ (fun _ _=>rfl)) (a8 (cU cN (pv 5) aQ (fun _ _=>rfl)) aC))) aC))) (aN (i:=6) sc_far.nd rfl (Or.inl rfl)) (aE (g8 hu (pv 1) (dE (a8 (cU cN (pv 4) aQ (fun _ _=>rfl)) (a8 (pv 6) aC))) iK rfl)))) bC))))))
   (aE (aP (pv 1))))),?_⟩
 refine fun p hp=>?_
 have s1:a9 H (upd H p (.dT [])):=a9.upd hp;refine⟨_,rfl,a,rfl,⟨_,s1.seq (SqL.of ha)⟩,kB (K:=K) (a:=a) (xs:=xs) (fun i σ H2=>∃(kvs:List (PI×V))(v2 v3 v4 v5 v6:Option V),σ=[some (.ref a),some (.ref p),v2,v3,v4,v5,v6]/\a9 H H2/\D2 H2 p kvs/\RM.Tbl kvs (RM.jE (RM.iWs W) i))
  ⟨[],none,none,none,none,none,rfl,s1,a7,RM.Tbl.nil.iff fun q=>(RM.yR _ q).symm⟩ (fun i σ H2 _ ⟨_,_,_,_,_,_,_,s2,_⟩=>s2.seq (SqL.of ha)) ?_ ?_⟩
 ·rintro i y σ H2 hi ⟨kvs,v2,v3,v4,v5,v6,rfl,s2,hD,tb⟩;obtain⟨w,hw,b,ys,rfl,hb,prw⟩:=pairs_at pr hi;have hwm:=List.mem_of_getElem? hw;have lw:=pairs_len prw;refine⟨_,rfl,b,ys,rfl,s2.seq (SqL.of hb),GJ (K:=K) (a:=b) (xs:=ys) (fun k σ H3=>∃(kvs:List (PI×V))(v3 v4 v5 v6:Option V),σ=[some (.ref a),some (.ref p),some (.ref b),v3,v4,v5,v6]/\a9 H H3/\D2 H3 p kvs/\RM.Tbl kvs (RM.lU (RM.iWs W) i w k))
   ⟨kvs,v3,v4,v5,v6,rfl,s2,hD,tb.iff fun q=>(RM.B1 _ _ _ q).symm⟩ (fun i σ H2 _ ⟨_,_,_,_,_,_,s2,_⟩=>s2.seq (SqL.of hb)) ?_ ?_⟩
  ·rintro j z σ H3 Tt hj ⟨kvs,v3,v4,v5,v6,rfl,s3,hD,tb⟩ hT;obtain⟨c,hc,ca,rfl,hca⟩:=pairs_at prw hj;have hjl:j<ys.length:=(List.getElem?_eq_some_iff.mp hj).1;have hpl:RM.mY w.length j<w.length:=by unfold RM.mY;split<;>omega
   obtain⟨e,he⟩:∃e,w[RM.mY w.length j]? =some e:=⟨_,List.getElem?_eq_getElem hpl⟩
   obtain⟨ye,hye,ea,rfl,hea⟩:=iL prw he;have s4:a9 H (upd H3 Tt (.tup [.int (j:Nat),.ref ca])):=a9.trans s3 (a9.upd hT);have o1:=hin w hwm c (List.mem_of_getElem? hc);have o2:=hin w hwm e (List.mem_of_getElem? he);have nT:p≠Tt:=aG hD hT;have hD4:D2 (upd H3 Tt (.tup [.int (j:Nat),.ref ca])) p kvs:=by unfold D2;rw[aA nT];exact hD
   refine⟨Tt,_,rfl,SqT.of a7,rfl,_,_,rfl,_,_,rfl,rfl,_,rfl,_,rfl,_,_,rfl,rfl,b,_,_,_,rfl,rfl,s4.seq (SqL.of hb),GX hjl (by unfold RM.mY at hye;rw[lw];exact hye),?_⟩;generalize (upd H3 Tt (.tup [.int (j:Nat),.ref ca]))=H4 at s4 hD4 ⊢;refine⟨_,rfl,ca,_,_,_,rfl,rfl,SqT.of (s4 _ _ hca),bQ (by decide) rfl,_,rfl,ea,_,_,_,rfl,rfl,SqT.of (s4 _ _ hea),bQ (by decide) rfl,rfl,_,rfl,?_⟩;refine cG (fun cq=>?_) (fun cq=>?_)
   ·have cq:c.1=e.1:=by simpa using cq
    refine⟨_,rfl,ca,_,_,_,rfl,rfl,SqT.of (s4 _ _ hca),bQ (by decide) rfl,_,rfl,ea,_,_,_,rfl,rfl,SqT.of (s4 _ _ hea),bQ (by decide) rfl,_,_,rfl,_,rfl,ca,_,_,_,rfl,rfl,SqT.of (s4 _ _ hca),bQ (by decide) rfl,_,rfl,ea,_,_,_,rfl,rfl,SqT.of (s4 _ _ hea),bQ (by decide) rfl,_,_,rfl,_,_,rfl,⟨by split<;>omega,by split<;>omega,by split<;>omega,by split<;>omega⟩,?_⟩;have emin:(if e.2<c.2 then e.2 else c.2)=min c.2 e.2:=by split<;>omega
    have emax:(if e.2>c.2 then e.2 else c.2)=max c.2 e.2:=by split<;>omega
    rw[emin,emax];refine pG (lo:=min c.2 e.2) (n:=(max c.2 e.2 - min c.2 e.2).toNat) (fun m σ H5=>∃(kvs:List (PI×V))(v6:Option V),σ=[some (.ref a),some (.ref p),some (.ref b),some (.int (j:Nat)),some (.ref ca),some (.ref ea),v6]/\a9 H H5/\D2 H5 p kvs/\RM.Tbl kvs (fun q=>RM.lU (RM.iWs W) i w j q\/(q.1=c.1/\min c.2 e.2<=q.2/\q.2<min c.2 e.2+m)))
     ⟨kvs,v6,rfl,s4,hD4,tb.iff fun q=>⟨.inl,fun z=>z.elim id fun z=>by omega⟩⟩ ?_ ?_
    ·rintro m σ H5 hm ⟨kvs,v6,rfl,s5,hD5,tb⟩;refine⟨_,rfl,_,rfl,ca,_,_,_,rfl,rfl,SqT.of (s5 _ _ hca),bQ (by decide) rfl,_,rfl,(by show 2<=sizeLine;decide),fun t ht=>?_⟩;have nt:p≠t:=aG hD5 ht;have hD6:D2 (upd H5 t (.tup [.int c.1,.int (min c.2 e.2+m)])) p kvs:=by unfold D2;rw[aA nt];exact hD5
     have hl:kvs.length<=4225:=by
      rw[<- RM.JH];refine tb.len fun q z=>?_
      rcases z with z|z
      ·exact RM.DW hin hwm z
      ·exact RM.CD (by omega) (by omega) (by omega) (by omega)
     refine⟨p,_,rfl,D2.put (p:=(c.1,min c.2 e.2+m)) hD6 a7 (.bl true) (few hl),RM.dD kvs (c.1,min c.2 e.2+m) (.bl true),_,rfl,a9.put (a9.trans s5 (a9.upd ht)) hp,a7,(tb.put _ _).iff fun q=>?_⟩;constructor
     ·rintro((z|z)|z)
      ·exact .inl z
      ·exact .inr (by omega)
      ·subst z;exact .inr ⟨rfl,by simp only;omega,by simp only;omega⟩
     ·rintro(z|⟨z1,z2,z3⟩)
      ·exact .inl (.inl z)
      ·by_cases hq:q.2=min c.2 e.2+m
       ·exact .inr (Prod.ext z1 hq)
       ·exact .inl (.inr ⟨z1,z2,by omega⟩)
    ·rintro σ H5 ⟨kvs,v6,rfl,s5,hD5,tb⟩;refine⟨kvs,_,_,_,_,rfl,s5,hD5,tb.iff fun q=>?_⟩;rw[RM.sP];constructor
     ·rintro(z|⟨z1,z2,z3⟩)
      ·exact .inl z
      ·exact .inr ⟨c,e,hc,he,cq,z1.symm,z2,by omega⟩
     ·rintro(z|⟨c',e',h1,h2,z0,z1,z2,z3⟩)
      ·exact .inl z
      ·rw[hc]at h1;rw[he]at h2;cases h1;cases h2;exact .inr ⟨z1.symm,z2,by omega⟩
   ·have cq:¬c.1=e.1:=by simpa using cq
    refine⟨kvs,_,_,_,_,rfl,s4,hD4,tb.iff fun q=>?_⟩;rw[RM.sP];constructor
    ·exact .inl
    ·rintro(z|⟨c',e',h1,h2,z0,z1,z2,z3⟩)
     ·exact z
     ·rw[hc]at h1;rw[he]at h2;cases h1;cases h2;exact absurd z0 cq
  ·rintro σ H3 ⟨kvs,v3,v4,v5,v6,rfl,s3,hD,tb⟩;refine⟨kvs,_,_,_,_,_,rfl,s3,hD,tb.iff fun q=>?_⟩;rw[lw];exact RM.DX hw q
 ·rintro σ H2 ⟨kvs,v2,v3,v4,v5,v6,rfl,s2,hD,tb⟩;refine⟨_,rfl,k p kvs H2 s2 hp hD fun x y=>?_⟩;rw[tb.2,pairs_len pr];exact RM.B0 W x y
abbrev s_cw:Stmt:=(top 46)
theorem sc_cw:aL ["walks","feet","cells","y","inside","x"] ["walks"] (aI s_cw):=⟨rfl,rfl,rfl,by decide+kernel,rfl,by decide+kernel,by decide+kernel⟩
noncomputable def sp_cw(K:W.Frag)(d:Adr):Sp:=fun vs H Q _=>∃(v:V)(W:List Roof.Walk),vs=[v]/\LLT H v (RM.iWs W)/\RM.rY W/\∀a H',a9 H H'->H a=none->D2 H' a (CS (RM.aO (RM.dI W)))->Q (.ref a) H'
theorem ok_cw(F:Fun K "cells_within" "cells_within" s_cw f fd)(T:Txt K mg base d)(D_far:aR P w K mg base CX0 1 "feet_across_rows" ["walks"] (sp_far K d)):bM P w K mg base CX0 2 f fd ["walks"] (sp_cw K d):=by
 refine F.ok sc_cw (fun vs H Q E h=>by obtain⟨v,W,rfl,_⟩:=h;rfl) (fun cdv A outer s H vs Q E hr h=>?_);have hu:=bJ hr;obtain⟨v,W,rfl,hW,ok,k⟩:=h;refine⟨_,(aB (aS (i:=1) sc_cw.nd rfl (Or.inl rfl) (aT D_far (hm hr) aY rfl (a8 (pv 0) aC)))
   (aB (aS (i:=2) sc_cw.nd rfl (Or.inl rfl) eQ)
   (aB (cF PassesOwn.never rfl (uI rfl T.range (a8 (cJ T.iR rfl) aC)) (aN (i:=3) sc_cw.nd rfl (Or.inl rfl)) (aB (aS (i:=4) sc_cw.nd rfl (Or.inl rfl) iK)
   (aE (cF PassesOwn.never rfl (uI rfl T.range (a8 (cJ T.iR rfl) aC)) (aN (i:=5) sc_cw.nd rfl (Or.inl rfl)) (aB (cE (e9 (zY hu (dE (a8 (pv 5) (a8 (pv 3) aC))) (pv 1))) (aE (aS (i:=4) sc_cw.nd rfl (Or.inl rfl) (KJ (pv 4)))) bC)
   (aE (cE (j0 (pv 4) (fun _=>rfl)) (aE (g8 hu (pv 2) (dE (a8 (pv 5) (a8 (pv 3) aC))) iK rfl)) bC)))))))
   (aE (aP (pv 2)))))),?_⟩
 refine⟨_,rfl,v,W,rfl,hW,ok,fun f kvs H1 s1 hf hF keys p hp=>?_⟩;generalize hFd:RM.dI W=F at keys k;have s2:a9 H1 (upd H1 p (.dT [])):=a9.upd hp;refine⟨_,rfl,by decide,by decide,pG (lo:=0) (n:=64) (fun y σ H2=>∃(v3 v4 v5:Option V),σ=[some v,some (.ref f),some (.ref p),v3,v4,v5]/\a9 H1 H2/\D2 H2 p (CS (RM.iI F y)))
  ⟨none,none,none,rfl,s2,a7⟩ ?_ ?_⟩
 ·rintro y σ H2 hy ⟨v3,v4,v5,rfl,s3,hD⟩;refine⟨_,rfl,by decide,by decide,pG (lo:=0) (n:=64) (fun x σ H3=>∃(v5:Option V),σ=[some v,some (.ref f),some (.ref p),some (.int (0+(y:Nat))),some (.bl (if x=0 then false else RM.bU F y (x - 1))),v5]/\a9 H1 H3/\D2 H3 p (CS (RM.iI F y++RM.m4 F y x)))
   ⟨v5,rfl,s3,by rw[show RM.m4 F y 0=[]from rfl,List.append_nil];exact hD⟩ ?_ ?_⟩
  ·rintro x σ H3 hx ⟨v5,rfl,s3,hD⟩;refine⟨_,rfl,_,rfl,(by show 2<=sizeLine;decide),fun t ht=>?_⟩;have nt:p≠t:=aG hD ht;have s4:a9 H1 (upd H3 t (.tup [.int (0+(x:Nat)),.int (0+(y:Nat))])):=a9.trans s3 (a9.upd ht);have hD4:D2 (upd H3 t (.tup [.int (0+(x:Nat)),.int (0+(y:Nat))])) p (CS (RM.iI F y++RM.m4 F y x)):=by unfold D2;rw[aA nt];exact hD
   refine⟨_,rfl,f,_,rfl,R2.get (p:=((0+(x:Int),0+(y:Int)):PI)) (D2.rd (s4 _ _ hF)) a7,_,rfl,?_⟩;generalize (upd H3 t (.tup [.int (0+(x:Nat)),.int (0+(y:Nat))]))=H4 at s4 hD4 ⊢;have hk:(RM.aK kvs ((0+(x:Int),0+(y:Int)):PI)).isSome=true↔F x y=true:=by rw[RM.aV,Int.zero_add,Int.zero_add];exact keys x y
   have hnx:=RM.yF F y x;refine cG (fun c=>?_) (fun c=>?_)
   ·have c:=hk.mp c;refine⟨_,rfl,_,rfl,?_⟩;have eI:(!(if x=0 then false else RM.bU F y (x - 1)))=RM.bU F y x:=by rw[hnx,c];simp
    rw[eI];refine⟨_,rfl,_,rfl,?_⟩;refine cG (fun ci=>?_) (fun ci=>?_)
    ·refine⟨_,rfl,_,rfl,_,rfl,(by show 2<=sizeLine;decide),fun t ht=>?_⟩;have nt:p≠t:=aG hD4 ht;have hD5:D2 (upd H4 t (.tup [.int (0+(x:Nat)),.int (0+(y:Nat))])) p (CS (RM.iI F y++RM.m4 F y x)):=by unfold D2;rw[aA nt];exact hD4
     refine⟨p,_,rfl,D2.put (p:=((0+(x:Int),0+(y:Int)):PI)) hD5 a7 (.bl true) ?_,some (.int (0+(x:Nat))),by simp,a9.put (a9.trans s4 (a9.upd ht)) hp,?_⟩
     ·rw[pQ,List.length_append];have h1:=RM.oP F y;have h2:=RM.rM F y x;exact few (m:=5000) (by omega)
     ·unfold D2;rw[a7,Int.zero_add,Int.zero_add,show(((x:Int),(y:Int)):PI)=RM.iP (x,y)from rfl,CH,RM.l8,if_pos ci,List.append_assoc];intro z;rcases List.mem_append.mp z with z|z
      ·have:=RM.uC z;simp at this
      ·have:=RM.rL z;simp at this
    ·refine⟨some (.int (0+(x:Nat))),by simp,s4,?_⟩;rw[RM.l8,if_neg ci];exact hD4
   ·have c:F x y=false:=by
     have c:¬F x y=true:=fun z=>c (hk.mpr z)
     simpa using c
    have eI:(if x=0 then false else RM.bU F y (x - 1))=RM.bU F y x:=by rw[hnx,c];simp
    rw[eI];refine⟨_,rfl,_,rfl,?_⟩;refine cG (fun ci=>?_) (fun ci=>?_)
    ·refine⟨_,rfl,_,rfl,_,rfl,(by show 2<=sizeLine;decide),fun t ht=>?_⟩;have nt:p≠t:=aG hD4 ht;have hD5:D2 (upd H4 t (.tup [.int (0+(x:Nat)),.int (0+(y:Nat))])) p (CS (RM.iI F y++RM.m4 F y x)):=by unfold D2;rw[aA nt];exact hD4
     refine⟨p,_,rfl,D2.put (p:=((0+(x:Int),0+(y:Int)):PI)) hD5 a7 (.bl true) ?_,some (.int (0+(x:Nat))),by simp,a9.put (a9.trans s4 (a9.upd ht)) hp,?_⟩
     ·rw[pQ,List.length_append];have h1:=RM.oP F y;have h2:=RM.rM F y x;exact few (m:=5000) (by omega)
     ·unfold D2;rw[a7,Int.zero_add,Int.zero_add,show(((x:Int),(y:Int)):PI)=RM.iP (x,y)from rfl,CH,RM.l8,if_pos ci,List.append_assoc];intro z;rcases List.mem_append.mp z with z|z
      ·have:=RM.uC z;simp at this
      ·have:=RM.rL z;simp at this
    ·refine⟨some (.int (0+(x:Nat))),by simp,s4,?_⟩;rw[RM.l8,if_neg ci];exact hD4
  ·rintro σ H3 ⟨v5,rfl,s3,hD⟩;refine⟨_,_,_,rfl,s3,?_⟩;rw[RM.rJ];exact hD
 ·rintro σ H2 ⟨v3,v4,v5,rfl,s3,hD⟩;exact⟨_,rfl,k p H2 (a9.trans s1 s3) (s1.free hp) hD⟩
abbrev s_miap:Stmt:=(top 48)
theorem sc_miap:aL ["cell","cells","side","near","far"] ["cell","cells"] (aI s_miap):=⟨rfl,rfl,rfl,by decide+kernel,rfl,by decide+kernel,by decide+kernel⟩
noncomputable def sp_miap(K:W.Frag)(d:Adr):Sp:=fun vs H Q _=>∃(v:V)(p:PI)(c:Addr)(C:List (Nat×Nat)),vs=[v,.ref c]/\T2 H v p/\R2 H c (CS C)/\∀H',a9 H H'->Q (.bl (RM.aZ C p 0||(RM.aZ C p 1||(RM.aZ C p 2||RM.aZ C p 3)))) H'
theorem ok_miap(F:Fun K "meets_in_a_point" "meets_in_a_point" s_miap f fd)(T:Txt K mg base d)(D_b:aR P w K mg base CX0 2 "beyond" ["place","direction"] (sp_b K d))(D_lo:aR P w K mg base CX0 1 "left_of" ["direction"] (sp_lo K d)):bM P w K mg base CX0 3 f fd ["cell","cells"] (sp_miap K d):=by
 refine F.ok sc_miap (fun vs H Q E h=>by obtain⟨v,p,c,C,rfl,_⟩:=h;rfl) (fun cdv A outer s H vs Q E hr h=>?_);have hu:=bJ hr;obtain⟨aALL_SIDES,bG,c_ALL_SIDES⟩:=T.bG;obtain⟨v,p,c,C,rfl,hv,hC,k⟩:=h;have yes:∀i,i<4->RM.aZ C p i=true->(RM.aZ C p 0||(RM.aZ C p 1||(RM.aZ C p 2||RM.aZ C p 3)))=true:=by
  intro i hi e;have cs:i=0\/i=1\/i=2\/i=3:=by omega
  rcases cs with rfl|rfl|rfl|rfl<;>simp[e]
 refine⟨_,(aB (cF PassesOwn.never rfl (jW (fC bG rfl)) (aN (i:=2) sc_miap.nd rfl (Or.inl rfl)) (aB (aS (i:=3) sc_miap.nd rfl (Or.inl rfl) (aT D_b (hm hr) aY rfl (a8 (pv 0) (a8 (pv 2) aC))))
   (aB (aS (i:=4) sc_miap.nd rfl (Or.inl rfl) (aT D_b (hm hr) aY rfl (a8 (pv 0) (a8 (aT D_lo (hm hr) aY rfl (a8 (pv 2) aC)) aC))))
   (aE (cE (PW.pt (oQ (e9 (cH hu (pv 3) (pv 1))) (oQ (e9 (cH hu (pv 4) (pv 1))) (mW (e9 (zY hu (aT D_b (hm hr) aY rfl (a8 (pv 3) (a8 (aT D_lo (hm hr) aY rfl (a8 (pv 2) aC)) aC))) (pv 1))))))) (aE (aP iK)) bC)))))
   (aE (aP iK))),?_⟩
 refine⟨_,rfl,⟨_,c_ALL_SIDES _⟩,jD (K:=K) (a:=aALL_SIDES) (xs:=[.int 0,.int 1,.int 2,.int 3]) (fun i σ H2=>∃(v2 v3 v4:Option V),σ=[some v,some (.ref c),v2,v3,v4]/\a9 H H2/\∀j,j<i->RM.aZ C p j=false)
  ⟨none,none,none,rfl,(a9.refl _),by intro j hj;omega⟩ (fun i σ H2 _ _=>c_ALL_SIDES H2) ?_ ?_⟩
 ·rintro i x σ H2 hx ⟨v2,v3,v4,rfl,s2,old⟩;obtain⟨hi,rfl⟩:=mU hx;have nxt:RM.aZ C p i=false->∀j,j<i+1->RM.aZ C p j=false:=fun e j hj=>by
   by_cases h:j=i
   ·rw[h];exact e
   ·exact old j (by omega)
  refine⟨_,rfl,_,rfl,v,p,i,rfl,(hv.mono s2).c,hi,fun n H3 s3 t3=>?_⟩;refine⟨_,rfl,_,rfl,_,rfl,v,p,(i+1)%4,by simp,(hv.mono (a9.trans s2 s3)).c,by omega,fun f H4 s4 t4=>?_⟩;have s24:a9 H H4:=a9.trans s2 (a9.trans s3 s4);obtain⟨na,rfl,hna⟩:=t3.mono s4;obtain⟨fa,rfl,hfa⟩:=t4;refine⟨_,rfl,_,rfl,c,_,rfl,R2.get (p:=RM.aM p i) (hC.mono s24) hna,_,rfl,?_⟩;rw[zH];refine cG (fun c1=>?_) (fun c1=>G5 ?_)
  ·refine⟨_,rfl,_,rfl,c,_,rfl,R2.get (p:=RM.aM p ((i+1)%4)) (hC.mono s24) hfa,_,rfl,?_⟩;rw[zH];refine cG (fun c2=>?_) (fun c2=>G5 ?_)
   ·refine⟨_,rfl,_,rfl,_,rfl,.ref na,RM.aM p i,(i+1)%4,by simp,T2.c ⟨na,rfl,hna⟩,by omega,fun g H5 s5 t5=>?_⟩;obtain⟨ga,rfl,hga⟩:=t5;refine⟨_,rfl,c,_,rfl,R2.get (p:=RM.aM (RM.aM p i) ((i+1)%4)) (hC.mono (a9.trans s24 s5)) hga,_,rfl,?_⟩;rw[zH];refine cG (fun c3=>?_) (fun c3=>?_)
    ·have e:RM.aZ C p i=true:=by unfold RM.aZ;rw[c1,c2,c3];rfl
     have h:=k H5 (a9.trans s24 s5);rw[yes i hi e]at h;exact h
    ·exact⟨_,_,_,rfl,a9.trans s24 s5,nxt (by unfold RM.aZ;rw[not_true c3];simp)⟩
   ·exact⟨_,_,_,rfl,s24,nxt (by unfold RM.aZ;rw[not_true c2];simp)⟩
  ·exact⟨_,_,_,rfl,s24,nxt (by unfold RM.aZ;rw[not_true c1];simp)⟩
 ·rintro σ H2 ⟨v2,v3,v4,rfl,s2,old⟩;have h:=k H2 s2;rw[old 0 (by decide),old 1 (by decide),old 2 (by decide),old 3 (by decide)]at h;exact h
abbrev s_ij:Stmt:=(top 47)
theorem sc_ij:aL ["cells","waiting","reached","cell","side"] ["cells"] (aI s_ij):=⟨rfl,rfl,rfl,by decide+kernel,rfl,by decide+kernel,by decide+kernel⟩
noncomputable def sp_ij(K:W.Frag)(d:Adr):Sp:=fun vs H Q _=>∃(c:Addr)(C:List (Nat×Nat))(c0:Nat×Nat)(r:List (Nat×Nat)),vs=[.ref c]/\R2 H c (CS C)/\C=c0::r/\C.Nodup/\C.length<=256/\∀H',a9 H H'->Q (.bl ((Roof.reach C C.length [c0] [c0]).length==C.length)) H'
theorem ok_ij(F:Fun K "is_joined" "is_joined" s_ij f fd)(T:Txt K mg base d)(D_b:aR P w K mg base CX0 2 "beyond" ["place","direction"] (sp_b K d)):bM P w K mg base CX0 3 f fd ["cells"] (sp_ij K d):=by
 refine F.ok sc_ij (fun vs H Q E h=>by obtain⟨c,C,c0,r,rfl,_⟩:=h;rfl) (fun cdv A outer s H vs Q E hr h=>?_);have hu:=bJ hr;obtain⟨aALL_SIDES,bG,c_ALL_SIDES⟩:=T.bG;obtain⟨c,C,c0,r,rfl,hC,eC,nd,hl,k⟩:=h;have hc0:c0∈C:=by rw[eC];exact List.mem_cons_self
 have cl:(CS C).length=C.length:=pQ C;refine⟨_,(aB (aS (i:=1) sc_ij.nd rfl (Or.inl rfl) (FJ HU (oV (B9 rfl) (by rfl) T.list (by rfl) (a8 (pv 0) aC)) IA (I0 aQ)))
   (aB (aS (i:=2) sc_ij.nd rfl (Or.inl rfl) eQ)
   (aB (mX PassesOwn.never (rW (pv 1) (fun _=>rfl)) (aB (aS (i:=3) sc_ij.nd rfl (Or.inl rfl) (zX PySem.F.plainAttrs_list PySem.F.slot_list_pop PySem.F.type_list_pop A9 (pv 1)))
   (aE (cE (PW.pt (oQ (e9 (zY hu (pv 3) (pv 0))) (mW (e9 (cH hu (pv 3) (pv 2)))))) (aB (g8 hu (pv 2) (pv 3) iK rfl)
   (aE (cF PassesOwn.never rfl (jW (fC bG rfl)) (aN (i:=4) sc_ij.nd rfl (Or.inl rfl)) (aE (cZ (iJ PySem.F.plainAttrs_list PySem.F.slot_list_append PySem.F.type_list_append cI (pv 1) (a8 (aT D_b (hm hr) aY rfl (a8 (pv 3) (a8 (pv 4) aC))) aC))))))) bC))))
   (aE (aP (qV jY (bT lJ (by rfl) T.len PySem.boot_len (a8 (pv 2) aC)) (bT lJ (by rfl) T.len PySem.boot_len (a8 (pv 0) aC)) (bZ _))))))),?_⟩
 refine⟨_,rfl,c,_,rfl,hC,fun l qs hl0 hk=>⟨_,rfl,l,qs,rfl,SqL.of a7,fun p hp=>?_⟩⟩;have hk:=xZ hk;obtain⟨q0,qr,rfl,t0⟩:∃q0 qr,qs=q0::qr/\T2 H q0 (RM.iP c0):=by
  rw[lM,eC,List.map_cons]at hk;cases hk with
  |cons t0 _=>exact⟨_,_,rfl,t0⟩
 rw[E7];have s1:a9 H (upd H l (.lst (q0::qr))):=a9.upd hl0;have s2:a9 H (upd (upd H l (.lst (q0::qr))) p (.lst ((q0::qr).take 1))):=a9.trans s1 (a9.upd hp);have hp2:(upd (upd H l (.lst (q0::qr))) p (.lst ((q0::qr).take 1))) p=some (.lst [q0]):=a7;have fp:H p=none:=s1.free hp;generalize (upd (upd H l (.lst (q0::qr))) p (.lst ((q0::qr).take 1)))=H1 at s2 hp2 ⊢;refine fun rd hrd=>?_
 have npr:p≠rd:=aG hp2 hrd;have frd:H rd=none:=s2.free hrd;dsimp only[lT,EY];refine mO (fun σ H2=>∃(xs:List V)(ws:List PI)(kvs:List (PI×V))(v3 v4:Option V),σ=[some (.ref c),some (.ref p),some (.ref rd),v3,v4]/\a9 H H2/\H2 p=some (.lst xs)/\Paired (T2 H2) xs ws/\D2 H2 rd kvs/\RM.Dfs C c0 (kvs.map (·.1)) ws/\xs.length<=1+4*kvs.length)
  (fun _ H2=>tQ H2 p+5*(C.length+1 - lO H2 rd))
  ⟨[q0],[RM.iP c0],[],none,none,rfl,a9.trans s2 (a9.upd hrd),by rw[aA npr];exact hp2,.cons (t0.mono (a9.trans s2 (a9.upd hrd))) .nil,a7,RM.Dfs.first,by simp⟩ ?_ (fun _ _ _ _ f ⟨v,e,k,t,q⟩=>⟨v,e,k,t,f _ _ q⟩)
 rintro σ H2 ⟨xs,ws,kvs,v3,v4,rfl,s3,h1,pr,hD,dfs,len⟩;have hlr:=dfs.len;rw[List.length_map]at hlr;refine⟨_,rfl,_,.inl ⟨_,SqL.of h1,rfl⟩,?_⟩;refine cG (fun cq=>?_) (fun cq=>?_)
 ·have hne:xs≠[]:=by intro z;rw[z]at cq;cases cq
  have hpos:0<xs.length:=List.length_pos_iff.mpr hne;obtain⟨y,hy⟩:∃y,xs[xs.length - 1]? =some y:=⟨_,List.getElem?_eq_getElem (by omega)⟩
  obtain⟨q,hq,ty⟩:=pairs_at pr hy;have lxw:=pairs_len pr;have ews:ws=ws.dropLast++[q]:=by
   have:ws≠[]:=by intro z;rw[z]at hq;cases hq
   have e:=(List.dropLast_concat_getLast this).symm;rw[List.getLast_eq_getElem]at e;have e2:ws[ws.length - 1]'(by omega)=q:=by have:=(List.getElem?_eq_some_iff.mp (by rw[<- lxw];exact hq:ws[ws.length - 1]? =some q)).2;exact this
   rw[e2]at e;exact e
  refine⟨_,rfl,.inl ⟨rfl,_,SqL.of h1⟩,p,xs,y,rfl,rfl,h1,hy,?_⟩;have s4:a9 H (upd H2 p (.lst xs.dropLast)):=a9.put s3 fp;have pr4:Paired (T2 (upd H2 p (.lst xs.dropLast))) xs.dropLast ws.dropLast:=aJ (fun _ _ z=>z.upd h1) (eS pr);have hD4:D2 (upd H2 p (.lst xs.dropLast)) rd kvs:=by unfold D2;rw[aA npr.symm];exact hD
  have ty4:T2 (upd H2 p (.lst xs.dropLast)) y q:=ty.upd h1;have h14:(upd H2 p (.lst xs.dropLast)) p=some (.lst xs.dropLast):=a7;have ml:tQ H2 p=xs.length:=lF h1;have mt:lO H2 rd=kvs.length:=xV hD;generalize (upd H2 p (.lst xs.dropLast))=H4 at s4 pr4 hD4 ty4 h14 ⊢;rw[ews]at dfs;obtain⟨ya,rfl,hya⟩:=ty4;have ld:xs.dropLast.length=xs.length - 1:=List.length_dropLast ..;have skip:(q∉RM.iW C\/q∈kvs.map (·.1))->∃(xs':List V)(ws:List PI)(kvs':List (PI×V))(v3 v4':Option V),([some (.ref c),some (.ref p),some (.ref rd),some (.ref ya),v4]:List (Option V))=[some (.ref c),some (.ref p),some (.ref rd),v3,v4']/\a9 H H4/\H4 p=some (.lst xs')/\Paired (T2 H4) xs' ws/\D2 H4 rd kvs'/\RM.Dfs C c0 (kvs'.map (·.1)) ws/\xs'.length<=1+4*kvs'.length:=
   fun z=>⟨xs.dropLast,ws.dropLast,kvs,some (.ref ya),v4,rfl,s4,h14,pr4,hD4,dfs.skip hc0 z,by omega⟩
  have less:tQ H4 p+5*(C.length+1 - lO H4 rd)<tQ H2 p+5*(C.length+1 - lO H2 rd):=by rw[ml,mt,lF h14,xV hD4,ld];omega
  refine⟨_,rfl,_,rfl,c,_,rfl,R2.get (p:=q) (hC.mono s4) hya,_,rfl,?_⟩;rw[zH];refine cG (fun c1=>?_) (fun c1=>G5 ⟨skip (.inl (by simpa using c1)),less⟩);have c1:q∈RM.iW C:=by simpa using c1
  refine⟨_,rfl,_,rfl,rd,_,rfl,R2.get (p:=q) hD4.rd hya,_,rfl,?_⟩;refine cG (fun c2=>?_) (fun c2=>?_)
  ·have c2:q∉kvs.map (·.1):=fun z=>by rw[(RM.aV q kvs).mpr z]at c2;cases c2
   refine⟨_,rfl,_,rfl,rd,_,rfl,D2.put hD4 hya (.bl true) (few (m:=256) (by omega)),?_⟩;rw[RM.fM _ c2];have hd5:=dfs.take c1 c2;have hD4':H4 rd=some (.dT (kvF k2 kvs)):=hD4;refine⟨_,rfl,⟨_,c_ALL_SIDES _⟩,jD (K:=K) (a:=aALL_SIDES) (xs:=[.int 0,.int 1,.int 2,.int 3]) (fun i σ H2=>∃(xs':List V)(v4:Option V),σ=[some (.ref c),some (.ref p),some (.ref rd),some (.ref ya),v4]/\a9 H H2/\H2 p=some (.lst xs')/\Paired (T2 H2) xs' (ws.dropLast++([RM.aM q 0,RM.aM q 1,RM.aM q 2,RM.aM q 3].take i))/\D2 H2 rd (kvs++[(q,V.bl true)])/\T2 H2 (.ref ya) q)
    ⟨xs.dropLast,v4,rfl,a9.put s4 frd,by rw[aA npr];exact h14,by rw[List.take_zero,List.append_nil];exact aJ (fun _ _ z=>z.qP hD4' (by intro _ z;cases z)) pr4,a7,T2.qP ⟨ya,rfl,hya⟩ hD4' (by intro _ z;cases z)⟩ (fun i σ H2 _ _=>c_ALL_SIDES H2) ?_ ?_⟩
   ·rintro i x σ H5 hx ⟨xs',v4,rfl,s5,h5,pr5,hD5,t5⟩;obtain⟨hi,rfl⟩:=mU hx;have l5:=pairs_len pr5;rw[List.length_append,List.length_take,List.length_dropLast]at l5;refine⟨_,rfl,.inl ⟨rfl,_,SqL.of h5⟩,_,rfl,_,rfl,.ref ya,q,i,rfl,t5.c,hi,fun n H6 s6 t6=>?_⟩;have h6:=s6 _ _ h5;refine⟨p,xs',n,rfl,rfl,h6,few (m:=2000) (by omega),xs'++[n],_,rfl,a9.put (a9.trans s5 s6) fp,a7,?_,by unfold D2;rw[aA npr.symm];exact s6 _ _ hD5,(t5.mono s6).upd h6⟩;have e4:[RM.aM q 0,RM.aM q 1,RM.aM q 2,RM.aM q 3].take (i+1)=[RM.aM q 0,RM.aM q 1,RM.aM q 2,RM.aM q 3].take i++[RM.aM q i]:=by
     have cs:i=0\/i=1\/i=2\/i=3:=by omega
     rcases cs with rfl|rfl|rfl|rfl<;>rfl
    rw[e4,<- List.append_assoc];exact bD (t6.upd h6) (aJ (fun _ _ z=>(z.mono s6).upd h6) pr5)
   ·rintro σ H5 ⟨xs',v4,rfl,s5,h5,pr5,hD5,t5⟩;have l5:=pairs_len pr5;rw[List.length_append,List.length_take,List.length_dropLast]at l5;have l6:([RM.aM q 0,RM.aM q 1,RM.aM q 2,RM.aM q 3].length)=4:=rfl;have l7:([V.int 0,V.int 1,V.int 2,V.int 3].length)=4:=rfl;have hlr2:=hd5.len;rw[List.length_append,List.length_map]at hlr2;simp only[List.length_cons,List.length_nil]at hlr2 l5;refine⟨⟨xs',_,kvs++[(q,V.bl true)],_,_,rfl,s5,h5,pr5,hD5,by rw[List.map_append];exact hd5,by rw[List.length_append];simp only[List.length_cons,List.length_nil];omega⟩,?_⟩;rw[ml,mt,lF h5,xV hD5,List.length_append];simp only[List.length_cons,List.length_nil];omega
  ·have c2:q∈kvs.map (·.1):=by
    refine(RM.aV q kvs).mp ?_;cases e:(RM.aK kvs q).isSome with
    |true=>rfl
    |false=>rw[e]at c2;exact absurd rfl c2
   exact⟨skip (.inr c2),less⟩
 ·have e:xs=[]:=by
   cases xs with
   |nil=>rfl
   |cons _ _=>exact absurd rfl cq
  subst e;cases pr;refine⟨_,rfl,rd,_,rfl,hD.rd,_,rfl,c,_,rfl,hC.mono s3,rfl,?_⟩;have h:=k H2 s3;have e2:=dfs.done nd hc0;rw[List.length_map]at e2;rw[<- e2]at h;refine cast (congrArg (fun b=>Q (V.bl b) H2) ?_) h;rw[eB,eB,cl,Bool.eq_iff_iff,decide_eq_true_iff,decide_eq_true_iff];constructor
  ·intro z;rw[z]
  ·intro z;have:=V.int.inj z;omega
abbrev s_ih:Stmt:=(top 49)
theorem sc_ih:aL ["cells","cell"] ["cells"] (aI s_ih):=⟨rfl,rfl,rfl,by decide+kernel,rfl,by decide+kernel,by decide+kernel⟩
theorem EB(F:Nat->Nat->Bool):(RM.aO F).length<=4096:=by have:=RM.oP F 64;rw[RM.CY]at this;omega
theorem fK(F:Nat->Nat->Bool):(RM.aO F).Nodup:=(RM.lX F).imp fun{a b} h e=>by rw[e,RM.cP]at h;omega
noncomputable def sp_ih(K:W.Frag)(d:Adr):Sp:=fun vs H Q _=>∃(c:Addr)(F:Nat->Nat->Bool),vs=[.ref c]/\D2 H c (CS (RM.aO F))/\∀H',a9 H H'->Q (.bl (Roof.isHouse (RM.aO F))) H'
theorem ok_ih(F:Fun K "is_house" "is_house" s_ih f fd)(T:Txt K mg base d)(D_miap:aR P w K mg base CX0 3 "meets_in_a_point" ["cell","cells"] (sp_miap K d))(D_ij:aR P w K mg base CX0 3 "is_joined" ["cells"] (sp_ij K d)):bM P w K mg base CX0 4 f fd ["cells"] (sp_ih K d):=by
 refine F.ok sc_ih (fun vs H Q E h=>by obtain⟨c,F,rfl,_⟩:=h;rfl) (fun cdv A outer s H vs Q E hr h=>?_);have hu:=bJ hr;obtain⟨c,F,rfl,hC,k⟩:=h;have hlen:=EB F;have hnd:=fK F;have hpe:=RM.zV (l:=RM.aO F);have hhe:=@RM.sJ F;generalize RM.aO F=C at*;have ekl:(kvF k2 (CS C)).length=C.length:=by rw[eB,pQ]
 refine⟨_,(aB (cE (PW.pt (xG (bV FU (bT lJ (by rfl) T.len PySem.boot_len (a8 (pv 0) aC)) aQ (bZ _)) (rS (bV uO (bT lJ (by rfl) T.len PySem.boot_len (a8 (pv 0) aC)) (cJ T.w8 rfl) (bZ _))))) (aE (aP iK)) bC)
   (aB (cE (j0 (bT (LM rfl) (by rfl) T.any (by rfl) (a8 (ID (BO (own:=[("cell",1)]) rfl sc_ih.nd (l9 (pv 0)) (fL (by first|decide+kernel|kernel_rfl)) (fun _ _ _ _ _=>(aN (i:=1) sc_ih.nd rfl (Or.inl rfl))) (fun _ _ _ _ _=>qU) (fun _ _ _ _ _=>(aT D_miap (hm hr) aY rfl (a8 (pv 1) (a8 (pv 0) aC)))))) aC)) (fun _=>rfl)) (aE (aP iK)) bC)
   (aE (aP (aT D_ij (hm hr) aY rfl (a8 (pv 0) aC)))))),?_⟩
 refine⟨_,rfl,c,_,rfl,hC.rd,_,_,rfl,rfl,_,rfl,?_⟩;rw[ekl];refine cG (fun c1=>DO ?_) (fun c1=>?_)
 ·have c1:C=[]:=List.eq_nil_of_length_eq_zero (by have:=of_decide_eq_true c1;omega);have h:=k H (a9.refl _);rw[c1,RM.yC]at h;exact h
 have c1:¬C.length<1:=fun z=>c1 (decide_eq_true (by omega))
 obtain⟨c0,r,eC⟩:∃c0 r,C=c0::r:=by
  cases C with
  |nil=>simp at c1
  |cons c0 r=>exact⟨c0,r,rfl⟩
 have hhe:=hhe eC;refine⟨_,rfl,c,_,rfl,hC.rd,_,_,rfl,rfl,_,rfl,?_⟩;rw[ekl];refine cG (fun c2=>?_) (fun c2=>?_)
 ·have c2:256<C.length:=by have:=of_decide_eq_true c2;omega
  have h:=k H (a9.refl _);rw[hhe,decide_eq_false (by omega)]at h;exact h
 have c2:C.length<=256:=by apply Nat.le_of_not_lt;intro z;exact c2 (decide_eq_true (by omega))
 refine⟨c,_,hC,trivial,fun od=>⟨_,rfl,c,od,rfl,.inr ⟨_,a7,fun D hD=>IW (d:=c) (od:=od) (kvs:=kvF k2 (CS C))
  (fun i H2=>a9 (upd H c (.frz od (.dT (kvF k2 (CS C))))) H2/\H2 D=some (.lst ((((RM.iW C).take i).map fun p=>RM.aZ C p 0||(RM.aZ C p 1||(RM.aZ C p 2||RM.aZ C p 3))).map V.bl))) ⟨a9.upd hD,a7⟩ (fun i H2 ⟨s2,_⟩=>s2 _ _ a7) ?_ ?_⟩⟩⟩
 ·rintro i kk vv q H2 hi hq ⟨s2,h2⟩;obtain⟨p,hp,rfl⟩:=sG hi;have hp2:(RM.iW C)[i]? =some p:=by have:=congrArg (Option.map Prod.fst) hp;rw[<- List.getElem?_map,lM]at this;exact this
  have hil:i<C.length:=by have:=(List.getElem?_eq_some_iff.mp hp2).1;simpa[RM.iW]using this
  refine⟨rfl,_,rfl,_,rfl,.ref q,p,c,C,rfl,⟨q,rfl,hq⟩,.inr ⟨od,s2 _ _ a7⟩,fun H3 s3=>⟨_,s3 _ _ h2,?_,a9.put (a9.trans s2 s3) hD,?_⟩⟩
  ·rw[List.length_map,List.length_map,List.length_take];exact few (m:=256) (by omega)
  ·rw[a7,RM.take_snoc hp2];simp
 ·rintro H2 ⟨s2,h2⟩;have nD:D≠c:=(aG (H:=upd H c (.frz od (.dT (kvF k2 (CS C))))) a7 hD).symm;refine⟨s2 _ _ a7,D,_,rfl,SqL.of (by rw[aA nD];exact h2),_,rfl,?_⟩;have s3:a9 H (upd H2 c (.dT (kvF k2 (CS C)))):=a9.unlock hC s2;have el:(kvF k2 (CS C)).length=(RM.iW C).length:=by rw[ekl];simp[RM.iW]
  rw[el,List.take_of_length_le (Nat.le_refl _)];have ea:(((RM.iW C).map fun p=>RM.aZ C p 0||(RM.aZ C p 1||(RM.aZ C p 2||RM.aZ C p 3))).any id)=Roof.pinched C:=by rw[hpe,List.any_map];rfl
  rw[ea];refine cG (fun c3=>?_) (fun c3=>?_)
  ·have h:=k _ s3;rw[hhe,c3]at h;simp at h;exact h
  ·refine⟨_,rfl,c,C,c0,r,rfl,.inl a7,eC,hnd,c2,fun H3 s4=>?_⟩;have h:=k _ (a9.trans s3 s4);rw[hhe,not_true c3,decide_eq_true c2]at h;simpa using h
abbrev s_haw:Stmt:=(top 50)
theorem sc_haw:aL ["cells","headings","cell","side"] ["cells"] (aI s_haw):=⟨rfl,rfl,rfl,by decide+kernel,rfl,by decide+kernel,by decide+kernel⟩
noncomputable def sp_haw(K:W.Frag)(d:Adr):Sp:=fun vs H Q _=>∃(c:Addr)(C:List (Nat×Nat)),vs=[.ref c]/\D2 H c (CS C)/\C.length<=256/\∀h H',a9 H H'->H h=none->D2 H' h (IV (RM.cY (RM.iW C)))->Q (.ref h) H'
theorem ok_haw(F:Fun K "headings_along_walls" "headings_along_walls" s_haw f fd)(T:Txt K mg base d)(D_b:aR P w K mg base CX0 2 "beyond" ["place","direction"] (sp_b K d))(D_ss:aR P w K mg base CX0 2 "side_start" ["square","side"] (sp_ss K d))(D_lo:aR P w K mg base CX0 1 "left_of" ["direction"] (sp_lo K d)):bM P w K mg base CX0 3 f fd ["cells"] (sp_haw K d):=by
 refine F.ok sc_haw (fun vs H Q E h=>by obtain⟨c,C,rfl,_⟩:=h;rfl) (fun cdv A outer s H vs Q E hr h=>?_);have hu:=bJ hr;obtain⟨aALL_SIDES,bG,c_ALL_SIDES⟩:=T.bG;obtain⟨c,C,rfl,hC,hl,k⟩:=h;refine⟨_,(aB (aS (i:=1) sc_haw.nd rfl (Or.inl rfl) eQ)
   (aB (j1 (cF PassesOwn.never rfl (l9 (pv 0)) (aN (i:=2) sc_haw.nd rfl (Or.inl rfl)) (aE (cF PassesOwn.never rfl (jW (fC bG rfl)) (aN (i:=3) sc_haw.nd rfl (Or.inl rfl)) (aE (cE (e9 (cH hu (aT D_b (hm hr) aY rfl (a8 (pv 2) (a8 (pv 3) aC))) (pv 0))) (aE (g8 hu (pv 1) (aT D_ss (hm hr) aY rfl (a8 (pv 2) (a8 (pv 3) aC))) (aT D_lo (hm hr) aY rfl (a8 (pv 3) aC)) rfl)) bC))))))
   (aE (aP (pv 1))))),?_⟩
 refine fun h hh=>?_
 have nc:c≠h:=aG hC hh;have lockd:∀od,(upd H c (.frz od (.dT (kvF k2 (CS C))))) h=none:=fun od=>gG hC hh
 refine⟨c,.dT (kvF k2 (CS C)),by rw[aA nc];exact hC,trivial,fun od=>⟨_,rfl,c,od,rfl,.inr ⟨_,a7,kC (d:=c) (od:=od) (kvs:=kvF k2 (CS C))
  (fun i σ H2=>∃(v2 v3:Option V),σ=[some (.ref c),some (.ref h),v2,v3]/\a9 (upd H c (.frz od (.dT (kvF k2 (CS C))))) H2/\D2 H2 h (IV (RM.bS [] (RM.d8 (RM.iW C) i))))
  ⟨none,none,rfl,a9.both (a9.upd hh),by unfold D2;rw[aA nc.symm,a7];rfl⟩ (fun i σ H2 ⟨_,_,_,s2,_⟩=>s2 _ _ a7) ?_ ?_⟩⟩⟩
 ·rintro i kk vv q σ H2 hi hq ⟨v2,v3,rfl,s2,hD⟩;obtain⟨p,hp,rfl⟩:=sG hi;have hp2:(RM.iW C)[i]? =some p:=by have:=congrArg (Option.map Prod.fst) hp;rw[<- List.getElem?_map,lM]at this;exact this
  have hil:i<C.length:=by have:=(List.getElem?_eq_some_iff.mp hp2).1;simpa[RM.iW]using this
  refine⟨_,rfl,⟨_,c_ALL_SIDES _⟩,jD (K:=K) (a:=aALL_SIDES) (xs:=[.int 0,.int 1,.int 2,.int 3]) (fun j σ H3=>∃(v3:Option V),σ=[some (.ref c),some (.ref h),some (.ref q),v3]/\a9 (upd H c (.frz od (.dT (kvF k2 (CS C))))) H3/\T2 H3 (.ref q) p/\D2 H3 h (IV (RM.bS [] (RM.d8 (RM.iW C) i++RM.cO (RM.iW C) p j))))
   ⟨v3,rfl,s2,⟨q,rfl,hq⟩,by rw[show RM.cO (RM.iW C) p 0=[]from rfl,List.append_nil];exact hD⟩ (fun i σ H2 _ _=>c_ALL_SIDES H2) ?_ ?_⟩
  ·rintro j x σ H3 hx ⟨v3,rfl,s3,tq,hD⟩;obtain⟨hj,rfl⟩:=mU hx;refine⟨_,rfl,_,rfl,.ref q,p,j,rfl,tq.c,hj,fun n H4 s4 t4=>?_⟩;obtain⟨na,rfl,hna⟩:=t4;refine⟨_,rfl,c,_,rfl,R2.get (kvs:=CS C) (p:=RM.aM p j) (.inr ⟨od,(a9.trans s3 s4) _ _ a7⟩) hna,_,rfl,?_⟩;rw[zH];have hnx:=RM.qT (RM.iW C) p hj;refine cG (fun c1=>?_) (fun c1=>?_)
   ·have c1:¬RM.aM p j∈RM.iW C:=by simpa using c1
    rw[if_neg c1]at hnx;refine⟨_,rfl,_,rfl,_,rfl,_,rfl,_,rfl,.ref q,p,j,rfl,(tq.mono s4).c,hj,fun n H5 s5 t5=>?_⟩;obtain⟨ma,rfl,hma⟩:=t5;have hD5:D2 H5 h (IV (RM.bS [] (RM.d8 (RM.iW C) i++RM.cO (RM.iW C) p j))):=s5 _ _ (s4 _ _ hD);refine⟨h,_,rfl,D2.put hD5 hma _ ?_,_,rfl,a9.put (a9.trans s3 (a9.trans s4 s5)) (lockd od),T2.qP (tq.mono (a9.trans s4 s5)) hD5 (by intro _ z;cases z),?_⟩
    ·rw[fB];have h1:=RM.gB (RM.d8 (RM.iW C) i++RM.cO (RM.iW C) p j) [];have h2:=RM.yK (RM.iW C) i;have h3:=RM.kK (RM.iW C) p j;rw[List.length_append]at h1;simp only[List.length_nil]at h1;exact few (m:=2000) (by omega)
    ·unfold D2;rw[a7,t9,hnx,<- List.append_assoc,RM.sY];rfl
   ·have c1:RM.aM p j∈RM.iW C:=by simpa using c1
    rw[if_pos c1,List.append_nil]at hnx;exact⟨_,rfl,a9.trans s3 s4,tq.mono s4,by rw[hnx];exact s4 _ _ hD⟩
  ·rintro σ H3 ⟨v3,rfl,s3,tq,hD⟩;refine⟨_,_,rfl,s3,?_⟩;rw[RM.nL hp2];exact hD
 ·rintro σ H2 ⟨v2,v3,rfl,s2,hD⟩;have el:(kvF k2 (CS C)).length=(RM.iW C).length:=by rw[eB,pQ];simp[RM.iW]
  rw[el,RM.yL]at hD;exact⟨s2 _ _ a7,_,rfl,k h _ (a9.unlock hC s2) hh (by unfold D2;rw[aA nc.symm];exact hD)⟩
abbrev s_wf:Stmt:=(top 51)
theorem sc_wf:aL ["start","headings","walked","corners","point","came","heading"] ["start","headings","walked"] (aI s_wf):=⟨rfl,rfl,rfl,by decide+kernel,rfl,by decide+kernel,by decide+kernel⟩
noncomputable def sp_wf(K:W.Frag)(d:Adr):Sp:=fun vs H Q _=>∃(v:V)(hA wA:Addr)(hs:List (PI×Int))(wk:List PI)(s0:PI)(f:List (PI×Int)),vs=[v,.ref hA,.ref wA]/\T2 H v s0/\R2 H hA (IV hs)/\D2 H wA (KS wk)/\hA≠wA/\RM.lZ (RM.aK hs) s0 f s0/\f≠[]/\(f.map (·.1)).Nodup/\(∀y∈f.map (·.1),y∉wk)/\wk.length+f.length<=5000/\∀r H',But wA H H'->H r=none->LT H' (.ref r) (RM.bH none f)->D2 H' wA (KS (wk++f.map (·.1)))->Q (.ref r) H'
theorem ok_wf(F:Fun K "walk_from" "walk_from" s_wf f fd)(T:Txt K mg base d)(D_b:aR P w K mg base CX0 2 "beyond" ["place","direction"] (sp_b K d)):bM P w K mg base CX0 3 f fd ["start","headings","walked"] (sp_wf K d):=by
 refine F.ok sc_wf (fun vs H Q E h=>by obtain⟨v,hA,wA,hs,wk,s0,f,rfl,_⟩:=h;rfl) (fun cdv A outer s H vs Q E hr h=>?_);have hu:=bJ hr;obtain⟨v,hA,wA,hs,wk,s0,f,rfl,tv,hH,hW,nHW,path,fne,fnd,fnew,flen,k⟩:=h;have hHb:∀H',But wA H H'->R2 H' hA (IV hs):=fun H' e=>by
  rcases hH with h|⟨o,h⟩
  ·exact .inl (e _ _ nHW h)
  ·exact .inr ⟨o,e _ _ nHW h⟩
 refine⟨_,(aB (aS (i:=3) sc_wf.nd rfl (Or.inl rfl) (fO aC))
   (aB (aS (i:=4) sc_wf.nd rfl (Or.inl rfl) (pv 0))
   (aB (aS (i:=5) sc_wf.nd rfl (Or.inl rfl) KL)
   (aB (mX PassesOwn.never (e9 (cH hu (pv 4) (pv 2))) (aB (g8 hu (pv 2) (pv 4) iK rfl)
   (aB (aS (i:=6) sc_wf.nd rfl (Or.inl rfl) (gU hu (pv 1) (pv 4) (fun _ _=>rfl)))
   (aB (cE (bV FT (pv 6) (pv 5) (bZ _)) (aE (cZ (iJ PySem.F.plainAttrs_list PySem.F.slot_list_append PySem.F.type_list_append cI (pv 3) (a8 (pv 4) aC)))) bC)
   (aB (aS (i:=5) sc_wf.nd rfl (Or.inl rfl) (pv 6))
   (aE (aS (i:=4) sc_wf.nd rfl (Or.inl rfl) (aT D_b (hm hr) aY rfl (a8 (pv 4) (a8 (pv 6) aC))))))))))
   (aE (aP (pv 3))))))),?_⟩
 refine⟨Nat.zero_le _,fun r hr0=>⟨_,rfl,?_⟩⟩;have nrw:r≠wA:=(aG hW hr0).symm;dsimp only[lT,EY];refine mO (fun σ H2=>∃(g rest:List (PI×Int))(q:PI)(vq:V)(came:Option Int)(xs:List V)(cs:List PI)(v6:Option V),σ=[some v,some (.ref hA),some (.ref wA),some (.ref r),some vq,some (match came with|none=>V.non|some h=>V.int h),v6]/\f=g++rest/\RM.lZ (RM.aK hs) q rest s0/\T2 H2 vq q/\But wA H H2/\H2 r=some (.lst xs)/\Paired (T2 H2) xs cs/\cs++RM.bH came rest=RM.bH none f/\cs.length<=g.length/\D2 H2 wA (KS (wk++g.map (·.1))))
  (fun _ H2=>10000 - lO H2 wA)
  ⟨[],f,s0,v,none,[],[],none,rfl,rfl,path,tv.mono (a9.upd hr0),a9.but (a9.upd hr0),a7,.nil,rfl,Nat.le_refl _,by unfold D2;rw[aA nrw.symm,List.map_nil,List.append_nil];exact hW⟩ ?_ (fun _ _ _ _ f ⟨v,e,w,e2,a,o,ex,g,b,eb,q⟩=>⟨v,e,w,e2,a,o,ex,g,b,eb,f _ _ q⟩)
 rintro σ H2 ⟨g,rest,q,vq,came,xs,cs,v6,rfl,hf,pq,⟨qa,rfl,hqa⟩,b2,h2,pr,hcs,lcs,hD⟩;refine⟨_,rfl,_,rfl,wA,_,rfl,R2.get (p:=q) hD.rd hqa,_,rfl,?_⟩;rw[HE];cases pq with
 |nil=>
  have hin:s0∈wk++g.map (·.1):=by
   rw[List.append_nil]at hf;subst hf;refine List.mem_append_right _ ?_;cases path with
   |nil=>exact absurd rfl fne
   |cons _ _ _ _=>simp
  refine cG (fun c1=>?_) (fun c1=>?_)
  ·exact absurd hin (qX c1)
  ·rw[List.append_nil]at hf;subst hf;have hcs:cs=RM.bH none f:=by rw[<- hcs];simp[RM.bH]
   subst hcs;exact⟨_,rfl,k r H2 b2 hr0 ⟨r,xs,rfl,h2,pr⟩ hD⟩
 | @cons _ _ hd rest' hq h0 h4 pn=>
  have hout:q∉wk++g.map (·.1):=by
   intro z;rcases List.mem_append.mp z with z|z
   ·exact fnew q (by rw[hf];simp) z
   ·rw[hf,List.map_append,List.nodup_append]at fnd;exact fnd.2.2 q z q (by simp) rfl
  refine cG (fun c1=>?_) (fun c1=>absurd (nG c1) hout);have hlen:(wk++g.map (·.1)).length<=5000:=by rw[hf]at flen;simp only[List.length_append,List.length_cons,List.length_map]at flen ⊢;omega
  refine⟨_,rfl,_,rfl,wA,_,rfl,D2.put hD hqa (.bl true) (by rw[BG];exact few hlen),?_⟩;rw[JQ hout];have hD':H2 wA=some (.dT (kvF k2 (KS (wk++g.map (·.1))))):=hD;have tq3:T2 (upd H2 wA (.dT (kvF k2 (KS (wk++g.map (·.1)++[q]))))) (.ref qa) q:=T2.qP ⟨qa,rfl,hqa⟩ hD' (by intro _ z;cases z);have b3:But wA H (upd H2 wA (.dT (kvF k2 (KS (wk++g.map (·.1)++[q]))))):=b2.here;have h3:(upd H2 wA (.dT (kvF k2 (KS (wk++g.map (·.1)++[q]))))) r=some (.lst xs):=by rw[aA nrw];exact h2
  have pr3:Paired (T2 (upd H2 wA (.dT (kvF k2 (KS (wk++g.map (·.1)++[q])))))) xs cs:=aJ (fun _ _ z=>z.qP hD' (by intro _ z;cases z)) pr;have hD3:D2 (upd H2 wA (.dT (kvF k2 (KS (wk++g.map (·.1)++[q]))))) wA (KS (wk++(g++[(q,hd)]).map (·.1))):=by unfold D2;rw[a7];simp
  have m2:lO H2 wA=(wk++g.map (·.1)).length:=by rw[xV hD,BG]
  generalize (upd H2 wA (.dT (kvF k2 (KS (wk++g.map (·.1)++[q])))))=H3 at tq3 b3 h3 pr3 hD3 ⊢;obtain⟨_,e,hqa⟩:=tq3;cases e;have dg:kY H3 hA (.ref qa) (some (.int hd)):=by have dg:=(hHb H3 b3).get (p:=q) hqa;rw[fW,hq]at dg;exact dg
  refine⟨_,rfl,_,rfl,hA,_,rfl,dg,?_⟩;have hrest:f=g++[(q,hd)]++rest':=by rw[hf];simp
  have fin:∀(xs:List V)(cs:List PI)(H4:Hp),But wA H H4->H4 r=some (.lst xs)->Paired (T2 H4) xs cs->T2 H4 (.ref qa) q->D2 H4 wA (KS (wk++(g++[(q,hd)]).map (·.1)))->cs++RM.bH (some hd) rest'=RM.bH none f->cs.length<=g.length+1->∀(vn:V)(H5:Hp),a9 H4 H5->T2 H5 vn (RM.aM q hd.toNat) ->
   (∃(g rest:List (PI×Int))(q:PI)(vq:V)(came:Option Int)(xs:List V)(cs:List PI)(v6:Option V),([some v,some (.ref hA),some (.ref wA),some (.ref r),some vn,some (.int hd),some (.int hd)]:List (Option V))=[some v,some (.ref hA),some (.ref wA),some (.ref r),some vq,some (match came with|none=>V.non|some h=>V.int h),v6]/\f=g++rest/\RM.lZ (RM.aK hs) q rest s0/\T2 H5 vq q/\But wA H H5/\H5 r=some (.lst xs)/\Paired (T2 H5) xs cs/\cs++RM.bH came rest=RM.bH none f/\cs.length<=g.length/\D2 H5 wA (KS (wk++g.map (·.1))))/\10000 - lO H5 wA<10000 - lO H2 wA:=by
   intro xs cs H4 b4 h4 pr4 t4 hD4 e4 l4 vn H5 s5 t5;refine⟨⟨g++[(q,hd)],rest',_,vn,some hd,xs,cs,_,rfl,hrest,pn,t5,b4.trans (a9.but s5),s5 _ _ h4,aJ (fun _ _ z=>z.mono s5) pr4,e4,by rw[List.length_append];exact l4,s5 _ _ hD4⟩,?_⟩;have hD5:D2 H5 wA (KS (wk++(g++[(q,hd)]).map (·.1))):=s5 _ _ hD4;rw[m2,xV hD5,BG];simp only[List.length_append,List.length_map,List.length_cons,List.length_nil]at hlen ⊢;omega
  have lcs5:cs.length<=5000:=by rw[List.length_append,List.length_map]at hlen;omega
  have lx:=pairs_len pr3;cases came with
  |none=>refine⟨_,rfl,_,rfl,rfl,_,rfl,DO ?_⟩;refine⟨_,rfl,.inl ⟨rfl,_,SqL.of h3⟩,_,rfl,r,xs,.ref qa,rfl,rfl,h3,few (m:=5000) (by omega),?_⟩;refine⟨_,rfl,_,rfl,_,rfl,.ref qa,q,hd.toNat,congrArg (fun z=>[V.ref qa,V.int z]) (Int.toNat_of_nonneg h0).symm,T2.c ((T2.upd (D:=r) ⟨qa,rfl,hqa⟩ h3)),by omega,fun vn H5 s5 t5=>?_⟩;refine fin (xs++[.ref qa]) (cs++[q]) _ (b3.put hr0) a7 (bD (T2.upd (D:=r) ⟨qa,rfl,hqa⟩ h3) (aJ (fun _ _ z=>z.upd h3) pr3)) (T2.upd (D:=r) ⟨qa,rfl,hqa⟩ h3) (by unfold D2;rw[aA nrw.symm];exact hD3) ?_ (by rw[List.length_append];simp;omega) vn H5 s5 t5;rw[<- hcs];simp[RM.bH]
  |some cm=>
   refine⟨_,rfl,_,rfl,rfl,_,rfl,?_⟩;refine cG (fun c2=>?_) (fun c2=>?_)
   ·have c2:¬hd=cm:=by intro z;rw[z]at c2;simp at c2
    refine⟨_,rfl,.inl ⟨rfl,_,SqL.of h3⟩,_,rfl,r,xs,.ref qa,rfl,rfl,h3,few (m:=5000) (by omega),?_⟩;refine⟨_,rfl,_,rfl,_,rfl,.ref qa,q,hd.toNat,congrArg (fun z=>[V.ref qa,V.int z]) (Int.toNat_of_nonneg h0).symm,T2.c ((T2.upd (D:=r) ⟨qa,rfl,hqa⟩ h3)),by omega,fun vn H5 s5 t5=>?_⟩;refine fin (xs++[.ref qa]) (cs++[q]) _ (b3.put hr0) a7 (bD (T2.upd (D:=r) ⟨qa,rfl,hqa⟩ h3) (aJ (fun _ _ z=>z.upd h3) pr3)) (T2.upd (D:=r) ⟨qa,rfl,hqa⟩ h3) (by unfold D2;rw[aA nrw.symm];exact hD3) ?_ (by rw[List.length_append];simp;omega) vn H5 s5 t5;rw[<- hcs];simp[RM.bH,c2]
   ·have c2:hd=cm:=by
     have:decide (V.int hd=V.int cm)=true:=by
      cases e:decide (V.int hd=V.int cm)with
      |true=>rfl
      |false=>rw[e]at c2;exact absurd rfl c2
     exact V.int.inj (of_decide_eq_true this)
    subst c2;refine⟨_,rfl,_,rfl,_,rfl,.ref qa,q,hd.toNat,congrArg (fun z=>[V.ref qa,V.int z]) (Int.toNat_of_nonneg h0).symm,T2.c ⟨qa,rfl,hqa⟩,by omega,fun vn H5 s5 t5=>?_⟩;refine fin xs cs _ b3 h3 pr3 ⟨qa,rfl,hqa⟩ hD3 ?_ (by omega) vn H5 s5 t5;rw[<- hcs];simp[RM.bH]
abbrev s_wr:Stmt:=(top 52)
theorem sc_wr:aL ["cells","headings","walks","walked","point"] ["cells"] (aI s_wr):=⟨rfl,rfl,rfl,by decide+kernel,rfl,by decide+kernel,by decide+kernel⟩
theorem wU{K:W.Frag}{d:Adr}{H:Hp}{as:List Addr}{ps:List PI}(h:Paired (T2 H) (as.map V.ref) ps):∀a∈as,∀H2,a9 H H2->sp_br K d [.ref a] H2 (fun r H3=>a9 H2 H3/\∃b,r=.ref b/\H3 b=some (.tup ((hJ H a).map V.int))) E0:=by intro a ha H2 s2;have t:=(xJ h a ha).mono s2;refine⟨.ref a,pairOf H a,rfl,t.c,fun r H3 s3 ⟨b,e,hb⟩=>⟨s3,b,e,hb⟩⟩
noncomputable def sp_wr(K:W.Frag)(d:Adr):Sp:=fun vs H Q _=>∃(c:Addr)(C:List (Nat×Nat)),vs=[.ref c]/\D2 H c (CS C)/\C.length<=256/\Roof.pinched C=false/\∀r H',a9 H H'->LLT H' (.ref r) (RM.iWs (Roof.walksOf C))->Q (.ref r) H'
theorem ok_wr(F:Fun K "walks_round" "walks_round" s_wr f fd)(T:Txt K mg base d)(D_haw:aR P w K mg base CX0 3 "headings_along_walls" ["cells"] (sp_haw K d))(D_br:aR P w K mg base CX0 1 "by_row" ["place"] (sp_br K d))(D_wf:aR P w K mg base CX0 3 "walk_from" ["start","headings","walked"] (sp_wf K d)):bM P w K mg base CX0 5 f fd ["cells"] (sp_wr K d):=by
 refine F.ok sc_wr (fun vs H Q E h=>by obtain⟨c,C,rfl,_⟩:=h;rfl) (fun cdv A outer s H vs Q E hr h=>?_);have hu:=bJ hr;obtain⟨c,C,rfl,hC,hl,hpin,k⟩:=h;refine⟨_,(aB (aS (i:=1) sc_wr.nd rfl (Or.inl rfl) (aT D_haw (hm hr) aY rfl (a8 (pv 0) aC)))
   (aB (aS (i:=2) sc_wr.nd rfl (Or.inl rfl) (fO aC))
   (aB (aS (i:=3) sc_wr.nd rfl (Or.inl rfl) eQ)
   (aB (cF PassesOwn.never rfl (eO (FI rfl D_br (hm hr) rfl T.sorted rfl (a8 (pv 1) aC))) (aN (i:=4) sc_wr.nd rfl (Or.inl rfl)) (aE (cE (e9 (cH hu (pv 4) (pv 3))) (aE (cZ (iJ PySem.F.plainAttrs_list PySem.F.slot_list_append PySem.F.type_list_append cI (pv 2) (a8 (aT D_wf (hm hr) aY rfl (a8 (pv 4) (a8 (pv 1) (a8 (pv 3) aC)))) aC)))) bC)))
   (aE (aP (pv 2))))))),?_⟩
 refine⟨_,rfl,c,C,rfl,hC,hl,fun h H1 s1 hh hH=>?_⟩;refine⟨Nat.zero_le _,fun w hw=>fun wk hwk=>?_⟩;have nhw:w≠wk:=aG a7 hwk;have fwk:H1 wk=none:=(a9.upd hw).free hwk;have s2:a9 H1 (upd (upd H1 w (.lst [])) wk (.dT [])):=a9.trans (a9.upd hw) (a9.upd hwk);refine⟨_,rfl,h,_,rfl,R2.mono s2 hH.rd,fun as hk=>?_⟩;have hk2:=xZ hk;rw[jH]at hk2;refine⟨hJ (upd (upd H1 w (.lst [])) wk (.dT [])),fun a _=>by unfold hJ;exact List.cons_ne_nil _ _,wU hk2,fun L out H2 hL pm pw s3 h2=>?_⟩;obtain⟨ys,pr,yp,yr⟩:=pU hk2 pm pw;have ey:=RM.tJ hpin yp yr;subst ey;have nLw:L≠w:=(aG (by rw[aA nhw,a7]) hL).symm;have nLk:L≠wk:=(aG a7 hL).symm;have prT:∀{i:Nat}{v:V},(out.map V.ref)[i]? =some v->∃q,(RM.bX C)[i]? =some q/\T2 H1 v (RM.iP q)\/(RM.bX C)[i]? =some q/\T2 (upd (upd H1 w (.lst [])) wk (.dT [])) v (RM.iP q):=fun{i v} hv=>by
  obtain⟨z,hz,t⟩:=pairs_at pr hv;unfold RM.iW at hz;rw[List.getElem?_map]at hz;cases e:(RM.bX C)[i]? with
  |none=>rw[e]at hz;cases hz
  |some q=>rw[e]at hz;cases hz;exact⟨q,.inr ⟨rfl,t⟩⟩
 have w2:(upd (upd H1 w (.lst [])) wk (.dT [])) w=some (.lst []):=by rw[aA nhw,a7]
 have k2':(upd (upd H1 w (.lst [])) wk (.dT [])) wk=some (.dT []):=a7;generalize hHa:(upd (upd H1 w (.lst [])) wk (.dT []))=Ha at*;refine⟨L,rfl,⟨_,SqL.of h2⟩,kB (K:=K) (a:=L) (xs:=out.map V.ref) (fun i σ H3=>∃(seen:List Roof.Point)(ws:List Roof.Walk)(xs:List V)(v4:Option V),σ=[some (.ref c),some (.ref h),some (.ref w),some (.ref wk),v4]/\a9 H1 H3/\(∀a p,T2 Ha (.ref a) p->T2 H3 (.ref a) p)/\H3 L=some (.lst (out.map V.ref))/\H3 w=some (.lst xs)/\Paired (fun v z=>∃b,v=V.ref b/\b≠w/\LT H3 (.ref b) z) xs (RM.iWs ws)/\D2 H3 wk (KS (RM.iW seen))/\RM.eY C seen i ws/\ws.length<=i)
  ⟨[],[],[],none,rfl,a9.trans s2 s3,fun a p t=>t.mono s3,h2,s3 _ _ w2,.nil,s3 _ _ k2',RM.eY.start C,Nat.le_refl _⟩ (fun i σ H3 _ ⟨_,_,_,_,_,_,_,h3,_⟩=>SqL.of h3) ?_ ?_⟩
 ·rintro i v σ H3 hv ⟨seen,ws,xs,v4,rfl,s4,tup,hL3,hw3,prw,hD3,st,lws⟩;obtain⟨q,hq,t⟩:∃q,(RM.bX C)[i]? =some q/\T2 Ha v (RM.iP q):=by
   obtain⟨q,z|z⟩:=prT hv
   ·exact⟨q,z.1,z.2.mono s2⟩
   ·exact⟨q,z⟩
  obtain⟨a,rfl,ha⟩:=t;obtain⟨_,e,ha3⟩:=tup a _ ⟨a,rfl,ha⟩;cases e;have hil:i<out.length:=by have:=(List.getElem?_eq_some_iff.mp hv).1;simpa using this
  refine⟨_,rfl,_,rfl,wk,_,rfl,R2.get (p:=RM.iP q) hD3.rd ha3,_,rfl,?_⟩;rw[HE];refine cG (fun c1=>?_) (fun c1=>?_)
  ·have c1:q∉seen:=fun z=>qX c1 (RM.gL.mpr z)
   obtain⟨f,f1,f2,f3,f4,seen',w',e1,e2,st'⟩:=st.next hpin hq c1;have nhk:h≠wk:=aG hH fwk;have ls:=st'.len hpin;have el:(RM.iW seen').length=seen'.length:=by simp[RM.iW]
   refine⟨_,rfl,.inl ⟨rfl,_,SqL.of hw3⟩,_,rfl,_,rfl,_,rfl,.ref a,h,wk,RM.cY (RM.iW C),RM.iW seen,RM.iP q,f,rfl,⟨a,rfl,ha3⟩,R2.mono s4 hH.rd,hD3,nhk,f1,f2,f3,f4,?_,fun r H4 b4 hr4 lt4 hD4=>?_⟩
   ·have:(RM.iW seen++f.map (·.1)).length<=4*256:=by rw[<- e1,el];omega
    rw[List.length_append,List.length_map]at this;omega
   ·have hw4:H4 w=some (.lst xs):=b4 _ _ nhw hw3;have nrw:r≠w:=fun z=>by rw[z,hw3]at hr4;cases hr4
    have hDwk:H3 wk=some (.dT (kvF k2 (KS (RM.iW seen)))):=hD3;have lx:=pairs_len prw;have lws2:xs.length<=1024:=by
     have h1:(RM.iWs ws).length=ws.length:=by simp[RM.iWs]
     have h2:out.length=(RM.bX C).length:=by have:=pairs_len pr;simpa[RM.iW]using this
     have h3:(RM.bX C).length<=4*C.length:=by have a1:=RM.nK (RM.iW C);have a2:=yp.length_eq;simp only[RM.iW,List.length_map]at a1 a2;omega
     omega
    have T4:∀{v:V}{p:PI},T2 H3 v p->T2 (upd H4 w (.lst (xs++[.ref r]))) v p:=fun t=>(t.but b4 hDwk (by intro _ z;cases z)).upd hw4
    refine⟨w,xs,.ref r,rfl,rfl,hw4,few lws2,seen',ws++[w'],xs++[.ref r],_,rfl,a9.put (But.same b4 s4 fwk) hw,fun a p t=>T4 (tup a p t),by rw[aA nLw];exact b4 _ _ nLk hL3,a7,?_,by unfold D2;rw[aA nhw.symm,e1];exact hD4,st',by rw[List.length_append];simp;omega⟩;have e3:RM.iWs (ws++[w'])=RM.iWs ws++[RM.bH none f]:=by simp[RM.iWs,e2]
    rw[e3];refine bD ⟨r,rfl,nrw,lt4.upd hw4 nrw⟩ (aJ (fun v z ⟨b,e,nb,b0,ys,eb,hb,py⟩=>⟨b,e,nb,?_⟩) prw);cases eb;have nbk:b≠wk:=eT hb hDwk (by intro z;cases z);exact LT.upd ⟨b,ys,rfl,b4 _ _ nbk hb,aJ (fun _ _ t=>t.but b4 hDwk (by intro _ z;cases z)) py⟩ hw4 nb
  ·have c1:q∈seen:=RM.gL.mp (nG c1);exact⟨seen,ws,xs,_,rfl,s4,tup,hL3,hw3,prw,hD3,st.skip hq c1,by omega⟩
 ·rintro σ H3 ⟨seen,ws,xs,v4,rfl,s4,tup,hL3,hw3,prw,hD3,st,lws⟩;have h2:(out.map V.ref).length=(RM.bX C).length:=by have:=pairs_len pr;simpa[RM.iW]using this
  rw[h2]at st;have e:=st.done;subst e;exact⟨_,rfl,k w H3 (a9.trans s1 s4) ⟨w,xs,rfl,hw3,aJ (fun v z ⟨b,e,nb,t⟩=>by rw[e];exact t) prw⟩⟩
abbrev s_ht:Stmt:=(top 53)
theorem sc_ht:aL ["t","walks","cells"] ["t"] (aI s_ht):=⟨rfl,rfl,rfl,by decide+kernel,rfl,by decide+kernel,by decide+kernel⟩
theorem J0{a b:List Roof.Walk}(h:RM.iWs a=RM.iWs b):a=b:=RM.map_inj (fun x _ y _ q=>RM.map_inj (fun p _ p' _ r=>fT r) q) h
theorem fD{F:Nat->Nat->Bool}(h:Roof.isHouse (RM.aO F)=true):(RM.aO F).length<=256/\Roof.pinched (RM.aO F)=false/\RM.aO F≠[]:=by
 cases e:RM.aO F with
 |nil=>rw[e]at h;cases h
 |cons c r=>have h2:=RM.sJ e;rw[h]at h2;rw[e]at h2;simp only[Bool.true_eq,Bool.and_eq_true,decide_eq_true_iff,Bool.not_eq_true']at h2;exact⟨h2.1,h2.2.1,List.cons_ne_nil _ _⟩
noncomputable def sp_ht(K:W.Frag)(d:Adr):Sp:=fun vs H Q E=>∃(a:Addr)(ns:List Int),vs=[.ref a]/\SqL K H a (ns.map V.int)/\ns.length<=4096/\RM.inB ns/\(∀F,Roof.houseOf (RoofBNeutral.text ns)=some (RM.aO F)->Roof.isHouse (RM.aO F)=true->∀r H',a9 H H'->H r=none->D2 H' r (CS (RM.aO F))->Q (.ref r) H')/\(Roof.houseOf (RoofBNeutral.text ns)=none->E (.ref d.c8) none H)
theorem ok_ht(F:Fun K "house_told" "house_told" s_ht f fd)(T:Txt K mg base d)(D_wt2:aR P w K mg base CXf 5 "walks_told" ["t"] (sp_wt2 K d))(D_cw:aR P w K mg base CX0 2 "cells_within" ["walks"] (sp_cw K d))(D_wr:aR P w K mg base CX0 5 "walks_round" ["cells"] (sp_wr K d))(D_ih:aR P w K mg base CX0 4 "is_house" ["cells"] (sp_ih K d)):bM P w K mg base CXf 6 f fd ["t"] (sp_ht K d):=by
 refine okX F sc_ht (fun vs H Q E h=>by obtain⟨a,ns,rfl,_⟩:=h;rfl) (fun cdv A outer s H vs Q E hr hok h=>?_);have hu:=bJ hr;obtain⟨a,ns,rfl,hS,hl,hB,k1,k2⟩:=h;refine⟨_,(aB (aS (i:=1) sc_ht.nd rfl (Or.inl rfl) (aT D_wt2 (hm hr) (FN hok) rfl (a8 (pv 0) aC)))
   (aB (aS (i:=2) sc_ht.nd rfl (Or.inl rfl) (aT D_cw (hm hr) aY rfl (a8 (pv 1) aC)))
   (aB (cE (PW.pt (xG (KI (j0 (aT D_ih (hm hr) aY rfl (a8 (pv 2) aC)) (fun _=>rfl))) (rS (bV (KP hr.units) (aT D_wr (hm hr) aY rfl (a8 (pv 2) aC)) (pv 1) (bZ _))))) (aE (eD hok PySem.F.excBase_Exception T.eE rfl)) bC)
   (aE (aP (pv 2)))))),?_⟩
 refine⟨_,rfl,a,ns,rfl,hS,hl,fun z hz v H1 s1 llt=>?_,fun hn=>k2 (RM.AU hB hn)⟩;obtain⟨W,oW,rfl,_⟩:=RM.pR hz;have hh:=RM.AS hB oW hz;have okp:RM.rY W:=fun w hw=>(oW.2 w hw).2
 refine⟨_,rfl,v,W,rfl,llt,okp,fun c H2 s2 hc hD=>?_⟩;have hhe:Roof.houseOf (RoofBNeutral.text ns)=(if Roof.isHouse (RM.aO (RM.dI W))=true/\Roof.walksOf (RM.aO (RM.dI W))=W then some (RM.aO (RM.dI W))else none):=hh;generalize RM.dI W=F at hD hhe;refine⟨_,rfl,c,F,rfl,hD,fun H3 s3=>⟨_,rfl,?_⟩⟩;refine cG (fun c1=>DO (k2 ?_)) (fun c1=>?_)
 ·rw[hhe,if_neg];intro z;rw[z.1]at c1;cases c1
 have c1:Roof.isHouse (RM.aO F)=true:=by
  cases e:Roof.isHouse (RM.aO F)with
  |true=>rfl
  |false=>rw[e]at c1;exact absurd rfl c1
 obtain⟨h256,hpin,hne⟩:=fD c1;have hD3:D2 H3 c (CS (RM.aO F)):=s3 _ _ hD;refine⟨_,rfl,c,RM.aO F,rfl,hD3,h256,hpin,fun r H4 s4 llt4=>?_⟩;refine⟨_,rfl,dWs (RM.iWs (Roof.walksOf (RM.aO F))),dWs (RM.iWs W),JZ llt4,JZ (llt.mono (a9.trans s2 (a9.trans s3 s4))),uA _,uA _,_,rfl,?_⟩;rw[LG];refine cG (fun c2=>k2 ?_) (fun c2=>?_)
 ·rw[hhe,if_neg];intro z;exact qX c2 (by rw[z.2])
 ·have e:Roof.walksOf (RM.aO F)=W:=J0 (nG c2);exact⟨_,rfl,k1 F (by rw[hhe,if_pos ⟨c1,e⟩]) c1 c H4 (a9.trans s1 (a9.trans s2 (a9.trans s3 s4))) (s1.free hc) (s4 _ _ hD3)⟩
abbrev s_hco:Stmt:=(top 58)
theorem sc_hco:aL ["cells","found","cell","quarter"] ["cells"] (aI s_hco):=⟨rfl,rfl,rfl,by decide+kernel,rfl,by decide+kernel,by decide+kernel⟩
noncomputable def sp_hco(K:W.Frag)(d:Adr):Sp:=fun vs H Q _=>∃(c:Addr)(C:List (Nat×Nat)),vs=[.ref c]/\D2 H c (CS C)/\C.Nodup/\(∀x∈C,x.1<64/\x.2<64)/\C.length<=256/\∀r H',a9 H H'->H r=none->LT H' (.ref r) ((Roof.halvesOf C).map RM.hP)->Q (.ref r) H'
theorem ok_hco(F:Fun K "half_cells_of" "half_cells_of" s_hco f fd)(T:Txt K mg base d)(D_m:aR P w K mg base CX0 1 "moved" ["place","step"] (sp_m K d))(D_br:aR P w K mg base CX0 1 "by_row" ["place"] (sp_br K d)):bM P w K mg base CX0 5 f fd ["cells"] (sp_hco K d):=by
 refine F.ok sc_hco (fun vs H Q E h=>by obtain⟨c,C,rfl,_⟩:=h;rfl) (fun cdv A outer s H vs Q E hr h=>?_);have hu:=bJ hr;obtain⟨aQUARTERS,mG,c_QUARTERS⟩:=T.mG;obtain⟨c,C,rfl,hC,nd,bd,hl,k⟩:=h;refine⟨_,(aB (aS (i:=1) sc_hco.nd rfl (Or.inl rfl) (fO aC))
   (aB (j1 (cF PassesOwn.never rfl (l9 (pv 0)) (aN (i:=2) sc_hco.nd rfl (Or.inl rfl)) (aE (cF PassesOwn.never rfl (jW (fC mG rfl)) (aN (i:=3) sc_hco.nd rfl (Or.inl rfl)) (aE (cZ (iJ PySem.F.plainAttrs_list PySem.F.slot_list_append PySem.F.type_list_append cI (pv 1) (a8 (aT D_m (hm hr) aY rfl (a8 (dE (a8 (gJ A5 aQ (cU cN (pv 2) aQ (fun _ _=>rfl))) (a8 (gJ A5 aQ (cU cN (pv 2) aQ (fun _ _=>rfl))) aC))) (a8 (pv 3) aC))) aC))))))))
   (aE (aP (FH D_br (hm hr) rfl T.sorted rfl (a8 (pv 1) aC)))))),?_⟩
 obtain⟨qs,hqs,prq⟩:=c_QUARTERS;refine⟨Nat.zero_le _,fun f hf=>?_⟩;have nc:c≠f:=aG hC hf;have lockd:∀od,(upd H c (.frz od (.dT (kvF k2 (CS C))))) f=none:=fun od=>gG hC hf
 refine⟨c,.dT (kvF k2 (CS C)),by rw[aA nc];exact hC,trivial,fun od=>⟨_,rfl,c,od,rfl,.inr ⟨_,a7,kC (d:=c) (od:=od) (kvs:=kvF k2 (CS C))
  (fun i σ H2=>∃(xs:List V)(v2 v3:Option V),σ=[some (.ref c),some (.ref f),v2,v3]/\a9 (upd H c (.frz od (.dT (kvF k2 (CS C))))) H2/\H2 f=some (.lst xs)/\Paired (T2 H2) xs (RM.fN ((RM.iW C).take i)))
  ⟨[],none,none,rfl,a9.both (a9.upd hf),by rw[aA nc.symm,a7],.nil⟩ (fun i σ H2 ⟨_,_,_,_,s2,_⟩=>s2 _ _ a7) ?_ ?_⟩⟩⟩
 ·rintro i kk vv q σ H2 hi hq ⟨xs,v2,v3,rfl,s2,h2,pr⟩;obtain⟨p,hp,rfl⟩:=sG hi;have hp2:(RM.iW C)[i]? =some p:=by have:=congrArg (Option.map Prod.fst) hp;rw[<- List.getElem?_map,lM]at this;exact this
  have hil:i<C.length:=by have:=DU hp2;simpa[RM.iW]using this
  refine⟨_,rfl,⟨_,hqs _⟩,jD (K:=K) (a:=aQUARTERS) (xs:=qs) (fun j σ H3=>∃(xs:List V)(v3:Option V),σ=[some (.ref c),some (.ref f),some (.ref q),v3]/\a9 (upd H c (.frz od (.dT (kvF k2 (CS C))))) H3/\T2 H3 (.ref q) p/\H3 f=some (.lst xs)/\Paired (T2 H3) xs (RM.fN ((RM.iW C).take i)++(RM.uF p).take j))
   ⟨xs,v3,rfl,s2,⟨q,rfl,hq⟩,h2,by rw[List.take_zero,List.append_nil];exact pr⟩ (fun i σ H2 _ _=>hqs H2) ?_ ?_⟩
  ·rintro j x σ H3 hx ⟨xs,v3,rfl,s3,tq,h3,pr⟩;obtain⟨z,hz,cz⟩:=pairs_at prq hx;have lx:=pairs_len pr;rw[List.length_append,RM.zS,List.length_take,List.length_take]at lx;have lq:(RM.uF p).length=4:=rfl;obtain⟨_,e,hq3⟩:=id tq;cases e;refine⟨_,rfl,.inl ⟨rfl,_,SqL.of h3⟩,_,rfl,q,_,_,_,rfl,rfl,SqT.of hq3,bQ (by decide) rfl,_,_,rfl,rfl,.inl ⟨by decide,by decide⟩,_,rfl,q,_,_,_,rfl,rfl,SqT.of hq3,bQ (by decide) rfl,_,_,rfl,rfl,.inl ⟨by decide,by decide⟩,(by show 2<=sizeLine;decide),fun t ht=>?_⟩;have s4:a9 H3 (upd H3 t (.tup [.int (2*p.1),.int (2*p.2)])):=a9.upd ht;refine⟨_,rfl,.ref t,x,(2*p.1,2*p.2),z,rfl,T2.c ⟨t,rfl,a7⟩,cz _,fun n H5 s5 t5=>?_⟩;have h5:=s5 _ _ (s4 _ _ h3);have s35:=a9.trans s4 s5;refine⟨f,xs,n,rfl,rfl,h5,few (m:=2000) (by omega),xs++[n],_,rfl,a9.put (a9.trans s3 s35) (lockd od),(tq.mono s35).upd h5,a7,?_⟩;rw[RM.D5 p hz,<- List.append_assoc];exact bD (t5.upd h5) (aJ (fun _ _ y=>(y.mono s35).upd h5) pr)
  ·rintro σ H3 ⟨xs,v3,rfl,s3,tq,h3,pr⟩;refine⟨xs,_,_,rfl,s3,h3,?_⟩;rw[RM.xF hp2];have e:qs.length=4:=pairs_len prq;rw[e]at pr;exact pr
 ·rintro σ H2 ⟨xs,v2,v3,rfl,s2,h2,pr⟩;have el:(kvF k2 (CS C)).length=(RM.iW C).length:=by rw[eB,pQ];simp[RM.iW]
  rw[el,List.take_of_length_le (Nat.le_refl _)]at pr;have s3:a9 H (upd H2 c (.dT (kvF k2 (CS C)))):=a9.unlock hC s2;have h3:(upd H2 c (.dT (kvF k2 (CS C)))) f=some (.lst xs):=by rw[aA nc.symm];exact h2
  have hC2:H2 c=some (.frz od (.dT (kvF k2 (CS C)))):=s2 _ _ a7;have pr3:Paired (T2 (upd H2 c (.dT (kvF k2 (CS C))))) xs (RM.fN (RM.iW C)):=aJ (fun _ _ z=>z.qP hC2 (by intro _ z;cases z)) pr;refine⟨hC2,?_⟩;generalize (upd H2 c (.dT (kvF k2 (CS C))))=H3 at s3 h3 pr3 ⊢;obtain⟨as,rfl⟩:=BK pr3;refine⟨_,rfl,f,as,hJ H3,rfl,SqL.of h3,fun a _=>by unfold hJ;exact List.cons_ne_nil _ _,wU pr3,fun L out H4 hL pm pw s4 h4=>?_⟩;obtain⟨ys,py,yp,yr⟩:=pU pr3 pm pw;have ey:=RM.tT nd bd yp yr;subst ey;exact k L H4 (a9.trans s3 s4) (s3.free hL) ⟨L,_,rfl,h4,aJ (fun _ _ z=>z.mono s4) py⟩
abbrev s_id:Stmt:=(top 59)
theorem sc_id:aL ["half","layer","step"] ["half","layer"] (aI s_id):=⟨rfl,rfl,rfl,by decide+kernel,rfl,by decide+kernel,by decide+kernel⟩
noncomputable def sp_id(K:W.Frag)(d:Adr):Sp:=fun vs H Q _=>∃(v:V)(p:PI)(l:Addr)(L:List PI),vs=[v,.ref l]/\T2 H v p/\R2 H l (KS L)/\∀H',a9 H H'->Q (.bl ((RM.eX p).all fun q=>L.contains q)) H'
theorem ok_id(F:Fun K "is_deeper" "is_deeper" s_id f fd)(T:Txt K mg base d)(D_m:aR P w K mg base CX0 1 "moved" ["place","step"] (sp_m K d)):bM P w K mg base CX0 2 f fd ["half","layer"] (sp_id K d):=by
 refine F.ok sc_id (fun vs H Q E h=>by obtain⟨v,p,l,L,rfl,_⟩:=h;rfl) (fun cdv A outer s H vs Q E hr h=>?_);have hu:=bJ hr;obtain⟨aHALVES_ABOUT,gM,c_HALVES_ABOUT⟩:=T.gM;obtain⟨v,p,l,L,rfl,hv,hL,k⟩:=h;refine⟨_,(aB (cF PassesOwn.never rfl (jW (fC gM rfl)) (aN (i:=2) sc_id.nd rfl (Or.inl rfl)) (aE (cE (e9 (cH hu (aT D_m (hm hr) aY rfl (a8 (pv 0) (a8 (pv 2) aC))) (pv 1))) (aE (aP iK)) bC)))
   (aE (aP iK))),?_⟩
 obtain⟨qs,hqs,prq⟩:=c_HALVES_ABOUT;have e8:qs.length=8:=pairs_len prq;refine⟨_,rfl,⟨_,hqs _⟩,jD (K:=K) (a:=aHALVES_ABOUT) (xs:=qs) (fun j σ H2=>∃(v2:Option V),σ=[some v,some (.ref l),v2]/\a9 H H2/\∀m,m<j->∀q,(RM.eX p)[m]? =some q->q∈L)
  ⟨none,rfl,a9.refl _,by intro m hm;omega⟩ (fun i σ H2 _ _=>hqs H2) ?_ ?_⟩
 ·rintro j x σ H2 hx ⟨v2,rfl,s2,old⟩;obtain⟨z,hz,cz⟩:=pairs_at prq hx;have ha:=RM.BF p hz;refine⟨_,rfl,_,rfl,v,x,p,z,rfl,(hv.mono s2).c,cz _,fun n H3 s3 t3=>?_⟩;obtain⟨na,rfl,hna⟩:=t3;refine⟨_,rfl,l,_,rfl,R2.get (hL.mono (a9.trans s2 s3)) hna,_,rfl,?_⟩;rw[HE];refine cG (fun c1=>?_) (fun c1=>?_)
  ·have c1:=qX c1;have h:=k H3 (a9.trans s2 s3);have e:((RM.eX p).all fun q=>L.contains q)=false:=by rw[Bool.eq_false_iff];intro z;rw[List.all_eq_true]at z;have:=z _ (List.mem_of_getElem? ha);exact c1 (by simpa using this)
   rw[e]at h;exact h
  ·have c1:=nG c1;refine⟨_,rfl,a9.trans s2 s3,fun m hm q hq=>?_⟩;by_cases e:m=j
   ·subst e;rw[ha]at hq;cases hq;exact c1
   ·exact old m (by omega) q hq
 ·rintro σ H2 ⟨v2,rfl,s2,old⟩;have h:=k H2 s2;have e:((RM.eX p).all fun q=>L.contains q)=true:=by rw[List.all_eq_true];intro q hq;obtain⟨m,hm⟩:=List.mem_iff_getElem?.mp hq;have hlt:=DU hm;have hl8:(RM.eX p).length=8:=rfl;have:=old m (by rw[e8];omega) q hm;simpa using this
  rw[e]at h;exact h
abbrev s_do:Stmt:=(top 60)
theorem sc_do:aL ["cells","depths","layer","depth","half","layer_above"] ["cells"] (aI s_do):=⟨rfl,rfl,rfl,by decide+kernel,rfl,by decide+kernel,by decide+kernel⟩
noncomputable def sp_do(K:W.Frag)(d:Adr):Sp:=fun vs H Q _=>∃(c:Addr)(C:List (Nat×Nat)),vs=[.ref c]/\D2 H c (CS C)/\C.Nodup/\(∀x∈C,x.1<64/\x.2<64)/\C.length<=256/\C≠[]/\∀r H',a9 H H'->H r=none->D2 H' r (IV (RM.bN (Roof.halvesOf C)))->Q (.ref r) H'
theorem ok_do(F:Fun K "depths_of" "depths_of" s_do f fd)(T:Txt K mg base d)(D_hco:aR P w K mg base CX0 5 "half_cells_of" ["cells"] (sp_hco K d))(D_id:aR P w K mg base CX0 2 "is_deeper" ["half","layer"] (sp_id K d)):bM P w K mg base CX0 6 f fd ["cells"] (sp_do K d):=by
 refine F.ok sc_do (fun vs H Q E h=>by obtain⟨c,C,rfl,_⟩:=h;rfl) (fun cdv A outer s H vs Q E hr h=>?_);have hu:=bJ hr;obtain⟨c,C,rfl,hC,nd,bd,hl,hne,k⟩:=h;have hok:=RM.cC bd;have hhl:=RM.fE C;have hlhs:((Roof.halvesOf C).map RM.hP).length<=1024:=by rw[List.length_map];omega
 have hnd:((Roof.halvesOf C).map RM.hP).Nodup:=RM.cT ((RM.cX nd bd).imp fun{a b} h e=>by omega) fun x hx y hy e=>RM.mF (hok x hx) (hok y hy) e
 have hend:∀n,64<=n->RM.aU ((Roof.halvesOf C).map RM.hP) n=[]:=fun n hn=>by rw[RM.dG hok,RM.f9 hok hn];rfl
 have hdep:∀n,0<n->RM.aU ((Roof.halvesOf C).map RM.hP) n=[]->RM.iB ((Roof.halvesOf C).map RM.hP) n=RM.bN (Roof.halvesOf C):=fun n h0 e=>RM.B7 hok h0 e
 have hne0:RM.aU ((Roof.halvesOf C).map RM.hP) 0≠[]:=by
  intro z;have:((Roof.halvesOf C).map RM.hP).length=0:=by rw[show(Roof.halvesOf C).map RM.hP=[]from z];rfl
  rw[List.length_map,hhl]at this;exact hne (List.eq_nil_of_length_eq_zero (by omega))
 refine⟨_,(aB (aS (i:=1) sc_do.nd rfl (Or.inl rfl) eQ)
   (aB (aS (i:=2) sc_do.nd rfl (Or.inl rfl) (aT D_hco (hm hr) aY rfl (a8 (pv 0) aC)))
   (aB (aS (i:=3) sc_do.nd rfl (Or.inl rfl) aQ)
   (aB (mX PassesOwn.never (rW (pv 2) (fun _=>rfl)) (aB (cF PassesOwn.never rfl (eO (pv 2)) (aN (i:=4) sc_do.nd rfl (Or.inl rfl)) (aE (g8 hu (pv 1) (pv 4) (pv 3) rfl)))
   (aB (aS (i:=5) sc_do.nd rfl (Or.inr rfl) (oV (BA rfl (L6 hr)) (by rfl) T.dict (by rfl) (a8 (BO (own:=[("half",4)]) rfl sc_do.nd (eO (pv 2)) (fL (by first|decide+kernel|kernel_rfl)) (fun _ _ _ _ _=>(aN (i:=4) sc_do.nd rfl (Or.inl rfl))) (fun _ _ _ _ _=>qU) (fun _ _ _ _ _=>(dE (a8 (pv 4) (a8 iK aC))))) aC)))
   (aB (FD (i:=2) (own:=[("half",4)]) rfl sc_do.nd rfl rfl (by exact vK rfl rfl rfl rfl) (eO (pv 2)) (fL (by first|decide+kernel|kernel_rfl)) (fun _ _ _ _ _=>(aN (i:=4) sc_do.nd rfl (Or.inl rfl))) (fun _ _ _ _ _=>(HY (j0 (aT D_id (hm hr) aY rfl (a8 (pv 4) (a8 (pv 5) aC))) (fun _=>rfl)))) (fun _ _ _ _ _=>(pv 4)))
   (aE (FE (i:=3) sc_do.nd rfl (Or.inl rfl) aQ AO))))))
   (aE (aP (pv 1))))))),?_⟩
 refine fun d0 hd0=>?_
 have nc:c≠d0:=aG hC hd0;refine⟨_,rfl,c,C,rfl,by unfold D2;rw[aA nc];exact hC,nd,bd,hl,fun r H1 s1 fr lt=>?_⟩;generalize (Roof.halvesOf C).map RM.hP=hs at*;have s01:a9 H H1:=a9.trans (a9.upd hd0) s1;have hD1:D2 H1 d0 []:=s1 _ _ a7;dsimp only[lT,EY,CW,tC];refine mO (fun σ H2=>∃(n:Nat)(la:Addr)(v4 v5:Option V),σ=[some (.ref c),some (.ref d0),some (.ref la),some (.int (n:Int)),v4,v5]/\a9 H H2/\LT H2 (.ref la) (RM.aU hs n)/\D2 H2 d0 (IV (RM.iB hs n)))
  (fun σ _=>100 - cnt σ 3)
  ⟨0,r,none,none,rfl,s01,lt,hD1⟩ ?_ (fun _ _ _ _ f ⟨v,e,k,t,q⟩=>⟨v,e,k,t,f _ _ q⟩)
 rintro σ H2 ⟨n,la,v4,v5,rfl,s2,⟨_,xs,e,hla,pr⟩,hD⟩;cases e;have lx:=pairs_len pr;have lL:(RM.aU hs n).length<=hs.length:=by
  have hndl:∀n,(RM.aU hs n).Nodup:=fun n=>by
   induction n with
   |zero=>exact hnd
   |succ n ih=>exact ih.filter _
  exact RM.cK (hndl n) fun p hp=>RM.mC hs n p hp
 have hndl:(RM.aU hs n).Nodup:=by
  clear hD pr lx lL;induction n with
  |zero=>exact hnd
  |succ n ih=>exact ih.filter _
 refine⟨_,rfl,_,.inl ⟨_,SqL.of hla,rfl⟩,?_⟩;refine cG (fun cq=>?_) (fun cq=>?_)
 ·have hn64:n<64:=by apply Nat.lt_of_not_le;intro z;rw[hend n z]at pr;cases pr;cases cq
  have ldT:(RM.iB hs n).length<=1024:=by
   unfold RM.iB;split
   ·simp
   ·rw[List.length_map];exact hlhs
  have nla:la≠d0:=eT hla hD (by intro z;cases z);refine⟨_,rfl,la,rfl,⟨_,SqL.of hla⟩,kB (K:=K) (a:=la) (xs:=xs) (fun i σ H3=>∃(v4:Option V),σ=[some (.ref c),some (.ref d0),some (.ref la),some (.int (n:Int)),v4,v5]/\But d0 H2 H3/\D2 H3 d0 (IV (RM.bS (RM.iB hs n) (((RM.aU hs n).take i).map fun p=>(p,(n:Int))))))
   ⟨v4,rfl,But.refl _ _,hD⟩ (fun i σ H3 _ ⟨_,_,b3,_⟩=>SqL.of (b3 _ _ nla hla)) ?_ ?_⟩
  ·rintro i x σ H3 hx ⟨v4,rfl,b3,hD3⟩;obtain⟨p,hp,tp⟩:=pairs_at pr hx;obtain⟨a,rfl,ha⟩:=tp.QF b3 hD;refine⟨_,rfl,_,rfl,_,rfl,d0,_,rfl,D2.put hD3 ha _ ?_,_,rfl,b3.here,?_⟩
   ·rw[fB];have h1:=RM.gB (((RM.aU hs n).take i).map fun p=>(p,(n:Int))) (RM.iB hs n);rw[List.length_map,List.length_take]at h1;exact few (m:=5000) (Nat.le_trans h1 (by omega))
   ·unfold D2;rw[a7,t9,<- RM.sY,RM.take_snoc hp,List.map_append];rfl
  ·rintro σ H3 ⟨v4,rfl,b3,hD3⟩;rw[lx,List.take_of_length_le (Nat.le_refl _),RM.z5 hnd]at hD3;have hla3:H3 la=some (.lst xs):=b3 _ _ nla hla;have pr3:Paired (T2 H3) xs (RM.aU hs n):=aJ (fun _ _ z=>z.QF b3 hD) pr;have s3:a9 H H3:=But.same b3 s2 hd0;refine⟨_,rfl,la,rfl,⟨_,SqL.of hla3⟩,fun D hD0=>lG (K:=K) (a:=la) (xs:=xs)
    (fun i H4=>a9 H3 H4/\∃ps:List Addr,H4 D=some (.lst (ps.map V.ref))/\Paired (fun p (q:PI)=>∃a,H4 p=some (.tup [.ref a,.bl true])/\H4 a=some (.tup [.int q.1,.int q.2])) ps ((RM.aU hs n).take i)) ⟨a9.upd hD0,[],a7,.nil⟩ (fun i H4 _ ⟨s4,_⟩=>s4.seq (SqL.of hla3)) ?_ ?_⟩
   ·rintro i x H4 hx ⟨s4,ps,h4,pp⟩;obtain⟨p,hp,tp⟩:=pairs_at pr3 hx;obtain⟨a,rfl,ha⟩:=tp.mono s4;have lp:=pairs_len pp;rw[List.length_take]at lp;have hil:=DU hp;refine⟨rfl,_,rfl,(by show 2<=sizeLine;decide),fun t ht=>?_⟩;have s5:a9 H4 (upd H4 t (.tup [.ref a,.bl true])):=a9.upd ht;have h5:=s5 _ _ h4;have kT:∀b ys,(upd H4 t (.tup [.ref a,.bl true])) b=some (.tup ys)->(upd (upd H4 t (.tup [.ref a,.bl true])) D (.lst (ps.map V.ref++[.ref t]))) b=some (.tup ys):=fun b ys e=>by rw[aA (eT e h5 (by intro z;cases z))];exact e
    refine⟨_,h5,by rw[List.length_map];exact few (m:=2000) (by omega),a9.put (a9.trans s4 s5) hD0,ps++[t],by rw[a7,List.map_append];rfl,?_⟩;rw[RM.take_snoc hp];exact bD (R:=fun p' (q:PI)=>∃a',(upd (upd H4 t (.tup [.ref a,.bl true])) D (.lst (ps.map V.ref++[.ref t]))) p'=some (.tup [.ref a',.bl true])/\(upd (upd H4 t (.tup [.ref a,.bl true])) D (.lst (ps.map V.ref++[.ref t]))) a'=some (.tup [.int q.1,.int q.2]))
     ⟨a,kT _ _ a7,kT _ _ (s5 _ _ ha)⟩ (aJ (fun p' q ⟨a',e1,e2⟩=>⟨a',kT _ _ (s5 _ _ e1),kT _ _ (s5 _ _ e2)⟩) pp)
   ·rintro H4 ⟨s4,ps,h4,pp⟩;rw[lx,List.take_of_length_le (Nat.le_refl _)]at pp;have pk:Paired (fun p (kv:List Key×V)=>∃q,H4 p=some (.tup [.ref q,kv.2])/\H4 q=some (.tup (kv.1.map kV))) ps (kvF k2 (KS (RM.aU hs n))):=by
     clear hla3 pr3 lx lL hndl hD3 hla pr hD h4;generalize RM.aU hs n=L at pp;induction pp with
     |nil=>exact .nil
     |cons h _ ih=>exact .cons h ih
    refine⟨D,ps,_,rfl,SqL.of h4,pk,fun ab hab=>?_⟩;rw[D6 hndl];have s5:a9 H4 (upd H4 ab (.dT (kvF k2 (KS (RM.aU hs n))))):=a9.upd hab;have hA5:D2 (upd H4 ab (.dT (kvF k2 (KS (RM.aU hs n))))) ab (KS (RM.aU hs n)):=a7;have s35:a9 H3 (upd H4 ab (.dT (kvF k2 (KS (RM.aU hs n))))):=a9.trans s4 s5;generalize (upd H4 ab (.dT (kvF k2 (KS (RM.aU hs n)))))=H5 at s5 hA5 s35 ⊢;have hla5:=s35 _ _ hla3;refine⟨_,rfl,la,rfl,⟨_,SqL.of hla5⟩,fun D2' hD2=>lG (K:=K) (a:=la) (xs:=xs)
     (fun i H6=>a9 H5 H6/\∃ys,H6 D2'=some (.lst ys)/\Paired (T2 H6) ys (((RM.aU hs n).take i).filter fun p=>(RM.eX p).all fun q=>(RM.aU hs n).contains q)) ⟨a9.upd hD2,[],a7,.nil⟩ (fun i H6 _ ⟨s6,_⟩=>s6.seq (SqL.of hla5)) ?_ ?_⟩
    ·rintro i x H6 hx ⟨s6,ys,h6,py⟩;obtain⟨p,hp,tp⟩:=pairs_at pr3 hx;have tp6:=tp.mono (a9.trans s35 s6);have ly:=pairs_len py;have lf:=List.length_filter_le (fun p=>(RM.eX p).all fun q=>(RM.aU hs n).contains q) ((RM.aU hs n).take i);rw[List.length_take]at lf;refine⟨rfl,_,rfl,_,rfl,x,p,ab,RM.aU hs n,rfl,tp6,R2.mono s6 hA5.rd,fun H7 s7=>⟨_,rfl,?_⟩⟩;have h7:=s7 _ _ h6;refine cG (fun c1=>?_) (fun c1=>?_)
     ·refine⟨_,rfl,ys,h7,few (m:=2000) (Nat.le_trans (Nat.le_of_eq ly) (Nat.le_trans lf (by omega))),a9.put (a9.trans s6 s7) hD2,ys++[x],a7,?_⟩;rw[RM.take_snoc hp,List.filter_append,List.filter_cons_of_pos (by exact c1),List.filter_nil];exact bD ((tp6.mono s7).upd h7) (aJ (fun _ _ z=>(z.mono s7).upd h7) py)
     ·refine⟨a9.trans s6 s7,ys,h7,?_⟩;rw[RM.take_snoc hp,List.filter_append,List.filter_cons_of_neg (by exact c1),List.filter_nil,List.append_nil];exact aJ (fun _ _ z=>z.mono s7) py
    ·rintro H6 ⟨s6,ys,h6,py⟩;rw[lx,List.take_of_length_le (Nat.le_refl _)]at py;have s36:a9 H3 H6:=a9.trans s35 s6;refine⟨_,rfl,_,_,rfl,rfl,⟨n+1,D2',_,_,rfl,a9.trans s3 s36,⟨D2',ys,rfl,h6,py⟩,s36 _ _ hD3⟩,?_⟩;show 100 - ((n:Int)+1).toNat<100 - ((n:Int)).toNat
     omega
 ·have e:xs=[]:=by
   cases xs with
   |nil=>rfl
   |cons _ _=>exact absurd rfl cq
  subst e;have en:RM.aU hs n=[]:=by
   cases h:RM.aU hs n with
   |nil=>rfl
   |cons _ _=>rw[h]at pr;cases pr
  have n0:0<n:=by apply Nat.pos_of_ne_zero;intro z;subst z;exact hne0 en
  rw[hdep n n0 en]at hD;exact⟨_,rfl,k d0 H2 s2 hd0 hD⟩
abbrev s_ho:Stmt:=(top 61)
theorem sc_ho:aL ["point","depths","step"] ["point","depths"] (aI s_ho):=⟨rfl,rfl,rfl,by decide+kernel,rfl,by decide+kernel,by decide+kernel⟩
noncomputable def sp_ho(K:W.Frag)(d:Adr):Sp:=fun vs H Q _=>∃(v:V)(p:PI)(dA:Addr)(h:List Nat),vs=[v,.ref dA]/\T2 H v p/\R2 H dA (IV (RM.bN h))/\∀m H',a9 H H'->m∈RM.dQ h p->(∀x∈RM.dQ h p,m<=x)->Q (.int m) H'
theorem ok_ho(F:Fun K "height_over" "height_over" s_ho f fd)(T:Txt K mg base d)(D_m:aR P w K mg base CX0 1 "moved" ["place","step"] (sp_m K d)):bM P w K mg base CX0 2 f fd ["point","depths"] (sp_ho K d):=by
 refine F.ok sc_ho (fun vs H Q E h=>by obtain⟨v,p,dA,h,rfl,_⟩:=h;rfl) (fun cdv A outer s H vs Q E hr h=>?_);have hu:=bJ hr;obtain⟨aHALVES_AT_A_POINT,dR,c_HALVES_AT_A_POINT⟩:=T.dR;obtain⟨v,p,dA,h,rfl,hv,hA,k⟩:=h;refine⟨_,(aE (aP (bT (LL rfl) (by rfl) T.min (by rfl) (a8 (BO (own:=[("step",2)]) rfl sc_ho.nd (jW (fC dR rfl)) (fL (by first|decide+kernel|kernel_rfl)) (fun _ _ _ _ _=>(aN (i:=2) sc_ho.nd rfl (Or.inl rfl))) (fun _ _ _ _ _=>qU) (fun _ _ _ _ _=>(gJ m6 (FK hu (pv 1) (aT D_m (hm hr) aY rfl (a8 (pv 0) (a8 (pv 2) aC))) (JU ES aQ) ⟨rfl,rfl,rfl,rfl⟩) aQ))) aC)))),?_⟩;obtain⟨qs,hqs,prq⟩:=c_HALVES_AT_A_POINT;have e4:qs.length=4:=pairs_len prq;refine⟨_,rfl,⟨_,hqs _⟩,fun D hD=>KW (K:=K) (a:=aHALVES_AT_A_POINT) (xs:=qs)
  (fun i H2=>a9 H H2/\H2 D=some (.lst (((RM.dQ h p).take i).map V.int))) ⟨a9.upd hD,a7⟩ (fun i H2 _ _=>hqs H2) ?_ ?_⟩
 ·rintro i x H2 hx ⟨s2,h2⟩;obtain⟨z,hz,cz⟩:=pairs_at prq hx;have hat:=RM.JK h p hz;refine⟨rfl,_,rfl,dA,rfl,.inr ⟨_,hA.mono s2⟩,_,rfl,_,rfl,v,x,p,z,rfl,(hv.mono s2).c,cz _,fun n H3 s3 t3=>?_⟩;obtain⟨na,rfl,hna⟩:=t3;have h3:=s3 _ _ h2;have eg:(RM.aK (IV (RM.bN h)) (p.1+z.1,p.2+z.2)).getD (V.int (-1))=V.int (RM.dJ h (p.1+z.1,p.2+z.2)):=by rw[fW,<- RM.GS];cases RM.aK (RM.bN h) (p.1+z.1,p.2+z.2)<;>rfl
  refine⟨_,rfl,_,R2.get (p:=(p.1+z.1,p.2+z.2)) (hA.mono (a9.trans s2 s3)) hna,RM.dJ h (p.1+z.1,p.2+z.2),1,eg,rfl,_,h3,?_,a9.put (a9.trans s2 s3) hD,?_⟩
  ·rw[List.length_map,List.length_take];have:(RM.dQ h p).length=4:=rfl;exact few (m:=10) (by omega)
  ·rw[a7,RM.take_snoc hat];simp
 ·rintro H2 ⟨s2,h2⟩;rw[e4]at h2;have h2:H2 D=some (.lst ((RM.dQ h p).map V.int)):=h2;exact⟨D,RM.dQ h p,rfl,SqL.of h2,by show 0<4;decide,fun m hm hle=>k m H2 s2 hm hle⟩
abbrev s_ho2:Stmt:=(top 62)
theorem sc_ho2:aL ["depths","heights","half","side","point"] ["depths"] (aI s_ho2):=⟨rfl,rfl,rfl,by decide+kernel,rfl,by decide+kernel,by decide+kernel⟩
noncomputable def sp_ho2(K:W.Frag)(d:Adr):Sp:=fun vs H Q _=>∃(dA:Addr)(h:List Nat),vs=[.ref dA]/\D2 H dA (IV (RM.bN h))/\(∀r∈h,RM.okR r)/\h.length<=1024/\∀r ht H',a9 H H'->H r=none->D2 H' r (IV ht)->RM.zG h ht->Q (.ref r) H'
theorem ok_ho2(F:Fun K "heights_of" "heights_of" s_ho2 f fd)(T:Txt K mg base d)(D_ss:aR P w K mg base CX0 2 "side_start" ["square","side"] (sp_ss K d))(D_ho:aR P w K mg base CX0 2 "height_over" ["point","depths"] (sp_ho K d)):bM P w K mg base CX0 3 f fd ["depths"] (sp_ho2 K d):=by
 refine F.ok sc_ho2 (fun vs H Q E h=>by obtain⟨dA,h,rfl,_⟩:=h;rfl) (fun cdv A outer s H vs Q E hr h=>?_);have hu:=bJ hr;obtain⟨aALL_SIDES,bG,c_ALL_SIDES⟩:=T.bG;obtain⟨dA,h,rfl,hA,hok,hl,k⟩:=h;refine⟨_,(aB (aS (i:=1) sc_ho2.nd rfl (Or.inl rfl) eQ)
   (aB (j1 (cF PassesOwn.never rfl (l9 (pv 0)) (aN (i:=2) sc_ho2.nd rfl (Or.inl rfl)) (aE (cF PassesOwn.never rfl (jW (fC bG rfl)) (aN (i:=3) sc_ho2.nd rfl (Or.inl rfl)) (aB (aS (i:=4) sc_ho2.nd rfl (Or.inl rfl) (aT D_ss (hm hr) aY rfl (a8 (pv 2) (a8 (pv 3) aC))))
   (aE (cE (e9 (cH hu (pv 4) (pv 1))) (aE (g8 hu (pv 1) (pv 4) (aT D_ho (hm hr) aY rfl (a8 (pv 4) (a8 (pv 0) aC))) rfl)) bC)))))))
   (aE (aP (pv 1))))),?_⟩
 refine fun f hf=>?_
 have nc:dA≠f:=aG hA hf;have lockd:∀od,(upd H dA (.frz od (.dT (kvF k2 (IV (RM.bN h)))))) f=none:=fun od=>gG hA hf
 have ekeys:(IV (RM.bN h)).map (·.1)=h.map RM.hP:=by rw[jH];unfold RM.bN;rw[RM.iO]
 refine⟨dA,.dT (kvF k2 (IV (RM.bN h))),by rw[aA nc];exact hA,trivial,fun od=>⟨_,rfl,dA,od,rfl,.inr ⟨_,a7,kC (d:=dA) (od:=od) (kvs:=kvF k2 (IV (RM.bN h)))
  (fun i σ H2=>∃(ht:List (PI×Int))(v2 v3 v4:Option V),σ=[some (.ref dA),some (.ref f),v2,v3,v4]/\a9 (upd H dA (.frz od (.dT (kvF k2 (IV (RM.bN h)))))) H2/\D2 H2 f (IV ht)/\RM.g7 h ht i 0)
  ⟨[],none,none,none,rfl,a9.both (a9.upd hf),by unfold D2;rw[aA nc.symm,a7];rfl,RM.g7.start h⟩ (fun i σ H2 ⟨_,_,_,_,_,s2,_⟩=>s2 _ _ a7) ?_ ?_⟩⟩⟩
 ·rintro i kk vv q σ H2 hi hq ⟨ht,v2,v3,v4,rfl,s2,hD,pre⟩;obtain⟨p,hp,rfl⟩:=sG hi;have hp2:(h.map RM.hP)[i]? =some p:=by have:=congrArg (Option.map Prod.fst) hp;rw[<- List.getElem?_map,ekeys]at this;exact this
  obtain⟨r,hr,rfl⟩:∃r,h[i]? =some r/\p=RM.hP r:=by
   rw[List.getElem?_map]at hp2;cases e:h[i]? with
   |none=>rw[e]at hp2;cases hp2
   |some r=>rw[e]at hp2;exact⟨r,rfl,(Option.some.inj hp2).symm⟩
  have hil:=DU hr;refine⟨_,rfl,⟨_,c_ALL_SIDES _⟩,jD (K:=K) (a:=aALL_SIDES) (xs:=[.int 0,.int 1,.int 2,.int 3]) (fun j σ H3=>∃(ht:List (PI×Int))(v3 v4:Option V),σ=[some (.ref dA),some (.ref f),some (.ref q),v3,v4]/\a9 (upd H dA (.frz od (.dT (kvF k2 (IV (RM.bN h)))))) H3/\T2 H3 (.ref q) (RM.hP r)/\D2 H3 f (IV ht)/\RM.g7 h ht i j)
   ⟨ht,v3,v4,rfl,s2,⟨q,rfl,hq⟩,hD,pre⟩ (fun i σ H2 _ _=>c_ALL_SIDES H2) ?_ ?_⟩
  ·rintro j x σ H3 hx ⟨ht,v3,v4,rfl,s3,tq,hD,pre⟩;obtain⟨hj,rfl⟩:=mU hx;refine⟨_,rfl,_,rfl,.ref q,RM.hP r,j,rfl,tq.c,hj,fun n H4 s4 t4=>?_⟩;obtain⟨na,rfl,hna⟩:=t4;have hD4:D2 H4 f (IV ht):=s4 _ _ hD;refine⟨_,rfl,_,rfl,f,_,rfl,R2.get (p:=RM.aF (RM.hP r) j) hD4.rd hna,_,rfl,?_⟩;rw[zF];refine cG (fun c1=>?_) (fun c1=>?_)
   ·refine⟨_,rfl,_,rfl,.ref na,RM.aF (RM.hP r) j,dA,h,rfl,⟨na,rfl,hna⟩,.inr ⟨od,(a9.trans s3 s4) _ _ a7⟩,fun m H5 s5 hm hle=>?_⟩;have em:=RM.J2 hok (List.mem_of_getElem? hr) hm hle;subst em;have hD5:D2 H5 f (IV ht):=s5 _ _ hD4;have lp:=pre.len;refine⟨_,rfl,_,rfl,f,_,rfl,D2.put hD5 (s5 _ _ hna) _ (by rw[fB];exact few (m:=5000) (by omega)),_,_,_,rfl,a9.put (a9.trans s3 (a9.trans s4 s5)) (lockd od),T2.qP (tq.mono (a9.trans s4 s5)) hD5 (by intro _ z;cases z),?_,pre.put hr⟩;unfold D2;rw[a7,t9]
   ·have c1:(RM.aK ht (RM.aF (RM.hP r) j)).isSome=true:=by
     cases e:(RM.aK ht (RM.aF (RM.hP r) j)).isSome with
     |true=>rfl
     |false=>rw[e]at c1;exact absurd rfl c1
    exact⟨ht,_,_,rfl,a9.trans s3 s4,tq.mono s4,hD4,pre.keep hr c1⟩
  ·rintro σ H3 ⟨ht,v3,v4,rfl,s3,tq,hD,pre⟩;exact⟨ht,_,_,_,rfl,s3,hD,pre.next⟩
 ·rintro σ H2 ⟨ht,v2,v3,v4,rfl,s2,hD,pre⟩;have el:(kvF k2 (IV (RM.bN h))).length=h.length:=by rw[eB,fB];unfold RM.bN;rw[List.length_map,List.length_map]
  rw[el]at pre;exact⟨s2 _ _ a7,_,rfl,k f ht _ (a9.unlock hA s2) hf (by unfold D2;rw[aA nc.symm];exact hD) pre.done⟩
abbrev s_fo2:Stmt:=(top 65)
theorem sc_fo2:aL ["half","side","depth","heights","start_is_low","end_is_low"] ["half","side","depth","heights"] (aI s_fo2):=⟨rfl,rfl,rfl,by decide+kernel,rfl,by decide+kernel,by decide+kernel⟩
noncomputable def sp_fo2(K:W.Frag)(d:Adr):Sp:=fun vs H Q _=>∃(v:V)(r s0:Nat)(h:List Nat)(hA:Addr)(ht:List (PI×Int)),vs=[v,.int (s0:Nat),.int (RM.dJ h (RM.hP r)),.ref hA]/\T2 H v (RM.hP r)/\s0<4/\r∈h/\R2 H hA (IV ht)/\RM.zG h ht/\∀H',a9 H H'->Q (.int (RM.wD h ((RM.hP r).1,(RM.hP r).2,(s0:Int)))) H'
theorem ok_fo2(F:Fun K "facing_of" "facing_of" s_fo2 f fd)(T:Txt K mg base d)(D_ss:aR P w K mg base CX0 2 "side_start" ["square","side"] (sp_ss K d))(D_se:aR P w K mg base CX0 3 "side_end" ["square","side"] (sp_se K d))(D_lo:aR P w K mg base CX0 1 "left_of" ["direction"] (sp_lo K d))(D_ro:aR P w K mg base CX0 1 "right_of" ["direction"] (sp_ro K d))(D_o:aR P w K mg base CX0 1 "opposite" ["direction"] (sp_o K d)):bM P w K mg base CX0 4 f fd ["half","side","depth","heights"] (sp_fo2 K d):=by
 refine F.ok sc_fo2 (fun vs H Q E h=>by obtain⟨v,r,s0,h,hA,ht,rfl,_⟩:=h;rfl) (fun cdv A outer s H vs Q E hr h=>?_);have hu:=bJ hr;obtain⟨v,r,s0,h,hA,ht,rfl,hv,hs,hrm,hT,ok,k⟩:=h;have g1:=ok.all r hrm s0 hs;have ec:RM.aF (RM.hP r) ((s0+1)%4)=RM.aF (RM.hP r) (s0+1):=by unfold RM.aF;rw[Nat.mod_mod]
 have g2:RM.aK ht (RM.aF (RM.hP r) (s0+1))=some (RM.hgt h (RM.aF (RM.hP r) (s0+1))):=by rw[<- ec];exact ok.all r hrm ((s0+1)%4) (by omega)
 have ef:RM.wD h ((RM.hP r).1,(RM.hP r).2,(s0:Int))=RM.GO s0 (RM.hgt h (RM.aF (RM.hP r) s0)) (RM.hgt h (RM.aF (RM.hP r) (s0+1))) (RM.dJ h (RM.hP r)):=by unfold RM.wD;simp
 rw[ef]at k;generalize RM.hgt h (RM.aF (RM.hP r) s0)=u at*;generalize RM.hgt h (RM.aF (RM.hP r) (s0+1))=w at*;generalize RM.dJ h (RM.hP r)=dd at*;refine⟨_,(aB (aS (i:=4) sc_fo2.nd rfl (Or.inl rfl) (qV jY (gU hu (pv 3) (aT D_ss (hm hr) aY rfl (a8 (pv 0) (a8 (pv 1) aC))) (fun _ _=>rfl)) (pv 2) (bZ _)))
   (aB (aS (i:=5) sc_fo2.nd rfl (Or.inl rfl) (qV jY (gU hu (pv 3) (aT D_se (hm hr) aY rfl (a8 (pv 0) (a8 (pv 1) aC))) (fun _ _=>rfl)) (pv 2) (bZ _)))
   (aB (cE (PW.pt (oQ (j0 (pv 4) (fun _=>rfl)) (mW (j0 (pv 5) (fun _=>rfl))))) (aE (aP (pv 1))) bC)
   (aB (cE (j0 (pv 5) (fun _=>rfl)) (aE (aP (aT D_lo (hm hr) aY rfl (a8 (pv 1) aC)))) bC)
   (aB (cE (j0 (pv 4) (fun _=>rfl)) (aE (aP (aT D_ro (hm hr) aY rfl (a8 (pv 1) aC)))) bC)
   (aE (aP (aT D_o (hm hr) aY rfl (a8 (pv 1) aC))))))))),?_⟩
 refine⟨_,rfl,_,rfl,_,rfl,v,RM.hP r,s0,rfl,hv.c,hs,fun n H1 s1 t1=>?_⟩;obtain⟨na,rfl,hna⟩:=t1;have d1:kY H1 hA (.ref na) (some (.int u)):=by have:=(hT.mono s1).get (p:=RM.aF (RM.hP r) s0) hna;rw[fW,g1]at this;exact this
 refine⟨hA,_,rfl,d1,_,rfl,rfl,?_⟩;refine⟨_,rfl,_,rfl,_,rfl,v,RM.hP r,s0,rfl,(hv.mono s1).c,hs,fun n H2 s2 t2=>?_⟩;obtain⟨ma,rfl,hma⟩:=t2;have d2:kY H2 hA (.ref ma) (some (.int w)):=by have:=(hT.mono (a9.trans s1 s2)).get (p:=RM.aF (RM.hP r) (s0+1)) hma;rw[fW,g2]at this;exact this
 refine⟨hA,_,rfl,d2,_,rfl,rfl,?_⟩;have k:=k H2 (a9.trans s1 s2);unfold RM.GO at k;have du:decide (V.int u=V.int dd)=true↔u=dd:=by rw[decide_eq_true_iff];exact⟨V.int.inj,fun z=>by rw[z]⟩
 have dw:decide (V.int w=V.int dd)=true↔w=dd:=by rw[decide_eq_true_iff];exact⟨V.int.inj,fun z=>by rw[z]⟩
 by_cases cu:u=dd
 ·by_cases cw:w=dd
  ·rw[if_pos ⟨cu,cw⟩]at k;rw[du.mpr cu,dw.mpr cw];exact⟨_,rfl,_,rfl,_,rfl,_,rfl,_,rfl,k⟩
  ·rw[if_neg (fun z=>cw z.2),if_neg cw,if_pos cu]at k;have e2:decide (V.int w=V.int dd)=false:=by rw[Bool.eq_false_iff];exact fun z=>cw (dw.mp z)
   rw[du.mpr cu,e2];exact⟨_,rfl,_,rfl,_,rfl,_,rfl,_,rfl,_,rfl,_,rfl,_,rfl,_,rfl,_,rfl,k⟩
 ·by_cases cw:w=dd
  ·rw[if_neg (fun z=>cu z.1),if_pos cw]at k;have e1:decide (V.int u=V.int dd)=false:=by rw[Bool.eq_false_iff];exact fun z=>cu (du.mp z)
   rw[e1,dw.mpr cw];exact⟨_,rfl,_,rfl,_,rfl,_,rfl,_,rfl,_,rfl,k⟩
  ·rw[if_neg (fun z=>cu z.1),if_neg cw,if_neg cu]at k;have e1:decide (V.int u=V.int dd)=false:=by rw[Bool.eq_false_iff];exact fun z=>cu (du.mp z)
   have e2:decide (V.int w=V.int dd)=false:=by rw[Bool.eq_false_iff];exact fun z=>cw (dw.mp z)
   rw[e1,e2];exact⟨_,rfl,_,rfl,_,rfl,_,rfl,_,rfl,_,rfl,_,rfl,_,rfl,k⟩
abbrev s_fo3:Stmt:=(top 66)
theorem sc_fo3:aL ["depths","heights","facings","half","depth","side"] ["depths","heights"] (aI s_fo3):=⟨rfl,rfl,rfl,by decide+kernel,rfl,by decide+kernel,by decide+kernel⟩
theorem JF{h:List Nat}{i:Nat}{p:PI}{v:V}(hp:(IV (RM.bN h))[i]? =some (p,v)):∃r,h[i]? =some r/\p=RM.hP r/\v=.int (RM.dJ h (RM.hP r)):=by
 unfold IV RM.bN at hp;rw[List.getElem?_map,List.getElem?_map,List.getElem?_map]at hp;cases e:h[i]? with
 |none=>rw[e]at hp;cases hp
 |some r=>rw[e]at hp;cases hp;exact⟨r,rfl,rfl,rfl⟩
noncomputable def sp_fo3(K:W.Frag)(d:Adr):Sp:=fun vs H Q _=>∃(dA hA:Addr)(h:List Nat)(ht:List (PI×Int)),vs=[.ref dA,.ref hA]/\D2 H dA (IV (RM.bN h))/\D2 H hA (IV ht)/\dA≠hA/\RM.zG h ht/\(h.map RM.hP).Nodup/\h.length<=1024/\∀r H',a9 H H'->H r=none->D3 H' r (IV (RM.bR h))->Q (.ref r) H'
theorem ok_fo3(F:Fun K "facings_of" "facings_of" s_fo3 f fd)(T:Txt K mg base d)(D_fo2:aR P w K mg base CX0 4 "facing_of" ["half","side","depth","heights"] (sp_fo2 K d)):bM P w K mg base CX0 5 f fd ["depths","heights"] (sp_fo3 K d):=by
 refine F.ok sc_fo3 (fun vs H Q E h=>by obtain⟨dA,hA,h,ht,rfl,_⟩:=h;rfl) (fun cdv A outer s H vs Q E hr h=>?_);have hu:=bJ hr;obtain⟨aALL_SIDES,bG,c_ALL_SIDES⟩:=T.bG;obtain⟨dA,hA,h,ht,rfl,hD,hT,nAT,ok,hnd,hl,k⟩:=h;refine⟨_,(aB (aS (i:=2) sc_fo3.nd rfl (Or.inl rfl) eQ)
   (aB (j1 (cF PassesOwn.never rfl (uJ (pv 0)) (m5 rfl (bP (aN (i:=3) sc_fo3.nd rfl (Or.inl rfl)) (bP (aN (i:=4) sc_fo3.nd rfl (Or.inl rfl)) j2))) (aE (cF PassesOwn.never rfl (jW (fC bG rfl)) (aN (i:=5) sc_fo3.nd rfl (Or.inl rfl)) (aE (g8 hu (pv 2) (dE (a8 (cU cN (pv 3) aQ (fun _ _=>rfl)) (a8 (cU cN (pv 3) aQ (fun _ _=>rfl)) (a8 (pv 5) aC)))) (aT D_fo2 (hm hr) aY rfl (a8 (pv 3) (a8 (pv 5) (a8 (pv 4) (a8 (pv 1) aC))))) rfl))))))
   (aE (aP (pv 2))))),?_⟩
 refine fun f hf=>?_
 have nc:dA≠f:=aG hD hf;have lockd:∀od,(upd H dA (.frz od (.dT (kvF k2 (IV (RM.bN h)))))) f=none:=fun od=>gG hD hf
 have lockT:∀od,D2 (upd H dA (.frz od (.dT (kvF k2 (IV (RM.bN h)))))) hA (IV ht):=fun od=>by unfold D2;rw[aA nAT.symm];exact hT
 refine⟨dA,.dT (kvF k2 (IV (RM.bN h))),by rw[aA nc];exact hD,trivial,fun od=>⟨_,rfl,dA,od,_,rfl,a7,uV (d:=dA) (od:=od) (kvs:=kvF k2 (IV (RM.bN h)))
  (fun i σ H2=>∃(v3 v4 v5:Option V),σ=[some (.ref dA),some (.ref hA),some (.ref f),v3,v4,v5]/\a9 (upd H dA (.frz od (.dT (kvF k2 (IV (RM.bN h)))))) H2/\D3 H2 f (IV ((RM.fX ((h.map RM.hP).take i)).map fun t=>(t,RM.wD h t))))
  ⟨none,none,none,rfl,a9.both (a9.upd hf),by unfold D3;rw[aA nc.symm,a7];rfl⟩ (fun i σ H2 ⟨_,_,_,_,s2,_⟩=>s2 _ _ a7) ?_ ?_⟩⟩
 ·rintro i kk vv q T2' σ H2 hi hq hT2 ⟨v3,v4,v5,rfl,s2,hF⟩;obtain⟨p,hp,rfl⟩:=sG hi;obtain⟨r,hr',rfl,rfl⟩:=JF hp;have hp2:(h.map RM.hP)[i]? =some (RM.hP r):=by rw[List.getElem?_map,hr'];rfl
  have hil:=DU hr';have s3:a9 H2 (upd H2 T2' (.tup [.ref q,.int (RM.dJ h (RM.hP r))])):=a9.upd hT2;refine⟨T2',_,rfl,SqT.of a7,rfl,_,_,rfl,_,_,rfl,rfl,?_⟩;have hF3:D3 (upd H2 T2' (.tup [.ref q,.int (RM.dJ h (RM.hP r))])) f _:=s3 _ _ hF;have hq3:=s3 _ _ hq;have s23:=a9.trans s2 s3;generalize (upd H2 T2' (.tup [.ref q,.int (RM.dJ h (RM.hP r))]))=H3 at s3 hF3 hq3 s23 ⊢;refine⟨_,rfl,⟨_,c_ALL_SIDES _⟩,jD (K:=K) (a:=aALL_SIDES) (xs:=[.int 0,.int 1,.int 2,.int 3]) (fun j σ H4=>∃(v5:Option V),σ=[some (.ref dA),some (.ref hA),some (.ref f),some (.ref q),some (.int (RM.dJ h (RM.hP r))),v5]/\a9 (upd H dA (.frz od (.dT (kvF k2 (IV (RM.bN h)))))) H4/\T2 H4 (.ref q) (RM.hP r)/\D3 H4 f (IV ((RM.fX ((h.map RM.hP).take i)++(RM.vI (RM.hP r)).take j).map fun t=>(t,RM.wD h t))))
   ⟨v5,rfl,s23,⟨q,rfl,hq3⟩,by rw[List.take_zero,List.append_nil];exact hF3⟩ (fun i σ H2 _ _=>c_ALL_SIDES H2) ?_ ?_⟩
  ·rintro j x σ H4 hx ⟨v5,rfl,s4,tq,hF⟩;obtain⟨hj,rfl⟩:=mU hx;refine⟨_,rfl,_,rfl,_,rfl,_,rfl,.ref q,r,j,h,hA,ht,rfl,tq,hj,List.mem_of_getElem? hr',R2.mono s4 (lockT od).rd,ok,fun H5 s5=>?_⟩;obtain⟨_,e,hq5⟩:=tq.mono s5;cases e;refine⟨_,rfl,_,rfl,q,_,_,_,rfl,rfl,SqT.of hq5,bQ (by decide) rfl,_,rfl,q,_,_,_,rfl,rfl,SqT.of hq5,bQ (by decide) rfl,_,rfl,(by show 3<=sizeLine;decide),fun t ht'=>?_⟩;have s6:a9 H5 (upd H5 t (.tup [.int (RM.hP r).1,.int (RM.hP r).2,.int (j:Int)])):=a9.upd ht';have hF6:D3 (upd H5 t (.tup [.int (RM.hP r).1,.int (RM.hP r).2,.int (j:Int)])) f (IV ((RM.fX ((h.map RM.hP).take i)++(RM.vI (RM.hP r)).take j).map fun t=>(t,RM.wD h t))):=s6 _ _ (s5 _ _ hF);refine⟨f,_,rfl,D3.put (p:=((RM.hP r).1,(RM.hP r).2,(j:Int))) hF6 a7 _ ?_,_,rfl,a9.put (a9.trans s4 (a9.trans s5 s6)) (lockd od),T2.qP (tq.mono (a9.trans s5 s6)) hF6 (by intro _ z;cases z),?_⟩
   ·rw[fB,List.length_map,List.length_append,List.length_take];have h1:=RM.CT (h.map RM.hP) i;rw[List.length_map]at h1;have h2:(RM.vI (RM.hP r)).length=4:=rfl;exact few (m:=5000) (by omega)
   ·unfold D3;rw[a7,t9,RM.fM,RM.CV (RM.hP r) hj]
    ·simp
    ·rw[RM.iO];exact RM.CU hnd hp2 hj
  ·rintro σ H4 ⟨v5,rfl,s4,tq,hF⟩;refine⟨_,_,_,rfl,s4,?_⟩;rw[RM.zO hp2];exact hF
 ·rintro σ H2 ⟨v3,v4,v5,rfl,s2,hF⟩;have el:(kvF k2 (IV (RM.bN h))).length=(h.map RM.hP).length:=by rw[eB,fB];unfold RM.bN;rw[List.length_map]
  rw[el,List.take_of_length_le (Nat.le_refl _)]at hF;exact⟨s2 _ _ a7,_,rfl,k f _ (a9.unlock hD s2) hf (by unfold D3;rw[aA nc.symm];exact hF)⟩
abbrev s_ta:Stmt:=(top 67)
theorem sc_ta:aL ["triangle","across","i","j","side"] ["triangle"] (aI s_ta):=⟨rfl,rfl,rfl,by decide+kernel,rfl,by decide+kernel,by decide+kernel⟩
noncomputable def sp_ta(K:W.Frag)(d:Adr):Sp:=fun vs H Q _=>∃(v:V)(t:PI3),vs=[v]/\T3 H v t/\0<=t.2.2/\t.2.2<4/\∀r H',a9 H H'->T3 H' r ((RM.aM (t.1,t.2.1) t.2.2.toNat).1,(RM.aM (t.1,t.2.1) t.2.2.toNat).2,(t.2.2+2)%4)->Q r H'
theorem ok_ta(F:Fun K "triangle_across" "triangle_across" s_ta f fd)(T:Txt K mg base d)(D_b:aR P w K mg base CX0 2 "beyond" ["place","direction"] (sp_b K d))(D_o:aR P w K mg base CX0 1 "opposite" ["direction"] (sp_o K d)):bM P w K mg base CX0 3 f fd ["triangle"] (sp_ta K d):=by
 refine F.ok sc_ta (fun vs H Q E h=>by obtain⟨v,t,rfl,_⟩:=h;rfl) (fun cdv A outer s H vs Q E hr h=>?_);have hu:=bJ hr;obtain⟨v,t,rfl,⟨a,rfl,ha⟩,h0,h4,k⟩:=h;refine⟨_,(aB (vR (pv 0) (m5 rfl (bP (aN (i:=2) sc_ta.nd rfl (Or.inl rfl)) (bP (aN (i:=3) sc_ta.nd rfl (Or.inl rfl)) (bP (aN (i:=4) sc_ta.nd rfl (Or.inl rfl)) j2)))))
   (aB (aS (i:=1) sc_ta.nd rfl (Or.inl rfl) (aT D_b (hm hr) aY rfl (a8 (dE (a8 (pv 2) (a8 (pv 3) aC))) (a8 (pv 4) aC))))
   (aE (aP (dE (a8 (cU cN (pv 1) aQ (fun _ _=>rfl)) (a8 (cU cN (pv 1) aQ (fun _ _=>rfl)) (a8 (aT D_o (hm hr) aY rfl (a8 (pv 4) aC)) aC)))))))),?_⟩
 refine⟨_,rfl,a,_,rfl,SqT.of ha,rfl,_,_,rfl,_,_,rfl,_,_,rfl,rfl,?_⟩;refine⟨_,rfl,_,rfl,(by show 2<=sizeLine;decide),fun b hb=>?_⟩;have s1:a9 H (upd H b (.tup [.int t.1,.int t.2.1])):=a9.upd hb;refine⟨_,rfl,.ref b,(t.1,t.2.1),t.2.2.toNat,congrArg (fun z=>[V.ref b,V.int z]) (Int.toNat_of_nonneg h0).symm,T2.c ⟨b,rfl,a7⟩,by omega,fun n H2 s2 t2=>?_⟩;obtain⟨na,rfl,hna⟩:=t2;refine⟨_,rfl,na,_,_,_,rfl,rfl,SqT.of hna,bQ (by decide) rfl,_,rfl,na,_,_,_,rfl,rfl,SqT.of hna,bQ (by decide) rfl,_,rfl,_,rfl,(by show 3<=sizeLine;decide),fun c hc=>?_⟩;exact k _ _ (a9.trans s1 (a9.trans s2 (a9.upd hc))) ⟨c,rfl,a7⟩
abbrev s_tol:Stmt:=(top 68)
theorem sc_tol:aL ["triangle","i","j","side"] ["triangle"] (aI s_tol):=⟨rfl,rfl,rfl,by decide+kernel,rfl,by decide+kernel,by decide+kernel⟩
noncomputable def sp_tol(K:W.Frag)(d:Adr):Sp:=fun vs H Q _=>∃(v:V)(t:PI3),vs=[v]/\T3 H v t/\∀r H',a9 H H'->T3 H' r (t.1,t.2.1,(t.2.2+1)%4)->Q r H'
theorem ok_tol(F:Fun K "triangle_on_left" "triangle_on_left" s_tol f fd)(T:Txt K mg base d)(D_lo:aR P w K mg base CX0 1 "left_of" ["direction"] (sp_lo K d)):bM P w K mg base CX0 2 f fd ["triangle"] (sp_tol K d):=by
 refine F.ok sc_tol (fun vs H Q E h=>by obtain⟨v,t,rfl,_⟩:=h;rfl) (fun cdv A outer s H vs Q E hr h=>?_);have hu:=bJ hr;obtain⟨v,t,rfl,⟨a,rfl,ha⟩,k⟩:=h;refine⟨_,(aB (vR (pv 0) (m5 rfl (bP (aN (i:=1) sc_tol.nd rfl (Or.inl rfl)) (bP (aN (i:=2) sc_tol.nd rfl (Or.inl rfl)) (bP (aN (i:=3) sc_tol.nd rfl (Or.inl rfl)) j2)))))
   (aE (aP (dE (a8 (pv 1) (a8 (pv 2) (a8 (aT D_lo (hm hr) aY rfl (a8 (pv 3) aC)) aC))))))),?_⟩
 refine⟨_,rfl,a,_,rfl,SqT.of ha,rfl,_,_,rfl,_,_,rfl,_,_,rfl,rfl,?_⟩;refine⟨_,rfl,_,rfl,_,rfl,_,rfl,(by show 3<=sizeLine;decide),fun c hc=>?_⟩;exact k _ _ (a9.upd hc) ⟨c,rfl,a7⟩
abbrev s_tor:Stmt:=(top 69)
theorem sc_tor:aL ["triangle","i","j","side"] ["triangle"] (aI s_tor):=⟨rfl,rfl,rfl,by decide+kernel,rfl,by decide+kernel,by decide+kernel⟩
noncomputable def sp_tor(K:W.Frag)(d:Adr):Sp:=fun vs H Q _=>∃(v:V)(t:PI3),vs=[v]/\T3 H v t/\∀r H',a9 H H'->T3 H' r (t.1,t.2.1,(t.2.2+3)%4)->Q r H'
theorem ok_tor(F:Fun K "triangle_on_right" "triangle_on_right" s_tor f fd)(T:Txt K mg base d)(D_ro:aR P w K mg base CX0 1 "right_of" ["direction"] (sp_ro K d)):bM P w K mg base CX0 2 f fd ["triangle"] (sp_tor K d):=by
 refine F.ok sc_tor (fun vs H Q E h=>by obtain⟨v,t,rfl,_⟩:=h;rfl) (fun cdv A outer s H vs Q E hr h=>?_);have hu:=bJ hr;obtain⟨v,t,rfl,⟨a,rfl,ha⟩,k⟩:=h;refine⟨_,(aB (vR (pv 0) (m5 rfl (bP (aN (i:=1) sc_tor.nd rfl (Or.inl rfl)) (bP (aN (i:=2) sc_tor.nd rfl (Or.inl rfl)) (bP (aN (i:=3) sc_tor.nd rfl (Or.inl rfl)) j2)))))
   (aE (aP (dE (a8 (pv 1) (a8 (pv 2) (a8 (aT D_ro (hm hr) aY rfl (a8 (pv 3) aC)) aC))))))),?_⟩
 refine⟨_,rfl,a,_,rfl,SqT.of ha,rfl,_,_,rfl,_,_,rfl,_,_,rfl,rfl,?_⟩;refine⟨_,rfl,_,rfl,_,rfl,_,rfl,(by show 3<=sizeLine;decide),fun c hc=>?_⟩;exact k _ _ (a9.upd hc) ⟨c,rfl,a7⟩
abbrev s_nf:Stmt:=(top 70)
theorem sc_nf:aL ["first","number","facings","numbers","facing","waiting","triangle"] ["first","number","facings","numbers"] (aI s_nf):=⟨rfl,rfl,rfl,by decide+kernel,rfl,by decide+kernel,by decide+kernel⟩
noncomputable def sp_nf(K:W.Frag)(d:Adr):Sp:=fun vs H Q _=>∃(v:V)(n:Int)(fA nA:Addr)(fac num:List (PI3×Int))(t0:PI3),vs=[v,.int n,.ref fA,.ref nA]/\T3 H v t0/\R3 H fA (IV fac)/\D3 H nA (IV num)/\fA≠nA/\(∀t z,RM.aK fac t=some z->0<=t.2.2/\t.2.2<4)/\(RM.aK fac t0).isSome=true/\RM.aK num t0=none/\fac.length<=4096/\(num.map (·.1)).Nodup/\(∀t∈num.map (·.1),t∈fac.map (·.1))/\∀(N:List PI3)(H':Hp),But nA H H'->D3 H' nA (IV (num++N.map fun p=>(p,n)))->N.Nodup->(∀p,p∈N↔RM.Rch (RM.okT (RM.aK fac) t0) RM.nbP (RM.isN (RM.aK num)) t0 p)->Q .non H'
theorem ok_nf(F:Fun K "number_face" "number_face" s_nf f fd)(T:Txt K mg base d)(D_tol:aR P w K mg base CX0 2 "triangle_on_left" ["triangle"] (sp_tol K d))(D_tor:aR P w K mg base CX0 2 "triangle_on_right" ["triangle"] (sp_tor K d))(D_ta:aR P w K mg base CX0 3 "triangle_across" ["triangle"] (sp_ta K d)):bM P w K mg base CX0 4 f fd ["first","number","facings","numbers"] (sp_nf K d):=by
 refine F.ok sc_nf (fun vs H Q E h=>by obtain⟨v,n,fA,nA,fac,num,t0,rfl,_⟩:=h;rfl) (fun cdv A outer s H vs Q E hr h=>?_);have hu:=bJ hr;obtain⟨v,n,fA,nA,fac,num,t0,rfl,⟨a0,rfl,ha0⟩,hF,hN,nFN,hside,h0s,h0n,hlen,nnd,nsub,k⟩:=h;obtain⟨fz,hfz⟩:∃fz,RM.aK fac t0=some fz:=by
  cases e:RM.aK fac t0 with
  |none=>rw[e]at h0s;cases h0s
  |some z=>exact⟨z,rfl⟩
 have hFb:∀H',But nA H H'->R3 H' fA (IV fac):=fun H' e=>by
  rcases hF with h|⟨o,h⟩
  ·exact .inl (e _ _ nFN h)
  ·exact .inr ⟨o,e _ _ nFN h⟩
 have d0:kY H fA (.ref a0) (some (.int fz)):=by have:=hF.get (p:=t0) ha0;rw[fW,hfz]at this;exact this
 refine⟨_,(aB (aS (i:=4) sc_nf.nd rfl (Or.inl rfl) (gU hu (pv 2) (pv 0) (fun _ _=>rfl)))
   (aB (aS (i:=5) sc_nf.nd rfl (Or.inl rfl) (fO (a8 (pv 0) aC)))
   (aE (mX PassesOwn.never (rW (pv 5) (fun _=>rfl)) (aB (aS (i:=6) sc_nf.nd rfl (Or.inl rfl) (zX PySem.F.plainAttrs_list PySem.F.slot_list_pop PySem.F.type_list_pop A9 (pv 5)))
   (aE (cE (PW.pt (oQ (bV jY (FL hu (pv 2) (pv 6) ⟨rfl,rfl,rfl,rfl⟩) (pv 4) (bZ _)) (mW (e9 (cH hu (pv 6) (pv 3)))))) (aB (g8 hu (pv 3) (pv 6) (pv 1) rfl)
   (aB (cZ (iJ PySem.F.plainAttrs_list PySem.F.slot_list_append PySem.F.type_list_append cI (pv 5) (a8 (aT D_tol (hm hr) aY rfl (a8 (pv 6) aC)) aC)))
   (aB (cZ (iJ PySem.F.plainAttrs_list PySem.F.slot_list_append PySem.F.type_list_append cI (pv 5) (a8 (aT D_tor (hm hr) aY rfl (a8 (pv 6) aC)) aC)))
   (aE (cZ (iJ PySem.F.plainAttrs_list PySem.F.slot_list_append PySem.F.type_list_append cI (pv 5) (a8 (aT D_ta (hm hr) aY rfl (a8 (pv 6) aC)) aC))))))) bC))))))),?_⟩
 refine⟨_,rfl,_,rfl,fA,_,rfl,d0,_,rfl,(by show 1<=sizeLine;decide),fun w hw=>?_⟩;have nwn:w≠nA:=(aG hN hw).symm;have s1:a9 H (upd H w (.lst [.ref a0])):=a9.upd hw;dsimp only[lT,EY,CW,tC];refine mO (fun σ H2=>∃(xs:List V)(ws N:List PI3)(v6:Option V),σ=[some (.ref a0),some (.int n),some (.ref fA),some (.ref nA),some (.int fz),some (.ref w),v6]/\But nA H H2/\H2 w=some (.lst xs)/\Paired (T3 H2) xs ws/\D3 H2 nA (IV (num++N.map fun p=>(p,n)))/\RM.gC (RM.okT (RM.aK fac) t0) RM.nbP (RM.isN (RM.aK num)) t0 N ws/\N.Nodup/\(∀p∈N,(RM.aK fac p).isSome=true/\RM.aK num p=none)/\xs.length<=1+3*N.length)
  (fun _ H2=>tQ H2 w+4*(10000 - lO H2 nA))
  ⟨[.ref a0],[t0],[],none,rfl,a9.but s1,a7,.cons ⟨a0,rfl,s1 _ _ ha0⟩ .nil,by rw[List.map_nil,List.append_nil];exact s1 _ _ hN,RM.gC.first,List.nodup_nil,fun p hp=>(by cases hp),by simp⟩ ?_ (fun _ _ _ _ f ⟨v,e,k,t,q⟩=>⟨v,e,k,t,f _ _ q⟩)
 rintro σ H2 ⟨xs,ws,N,v6,rfl,b2,h2,pr,hD,sr,Nnd,Nin,lxs⟩;have keysN:(num++N.map fun p=>(p,n)).map (·.1)=num.map (·.1)++N:=by rw[List.map_append];congr 1;rw[List.map_map];exact List.map_id N
 have tot:num.length+N.length<=4096:=by
  have hnd2:(num.map (·.1)++N).Nodup:=by rw[List.nodup_append];exact⟨nnd,Nnd,fun a ha b hb e=>RM.lK.mp (Nin b hb).2 (e▸ha)⟩
  have:=RM.cK hnd2 (b:=fac.map (·.1)) fun p hp=>by
   rcases List.mem_append.mp hp with hp|hp
   ·exact nsub p hp
   ·exact(RM.aV p fac).mp (Nin p hp).1
  rw[List.length_append,List.length_map,List.length_map]at this;omega
 refine⟨_,rfl,_,.inl ⟨_,SqL.of h2,rfl⟩,?_⟩;refine cG (fun cq=>?_) (fun cq=>?_)
 ·have hne:xs≠[]:=by intro z;rw[z]at cq;cases cq
  have hpos:0<xs.length:=List.length_pos_iff.mpr hne;obtain⟨y,hy⟩:∃y,xs[xs.length - 1]? =some y:=⟨_,List.getElem?_eq_getElem (by omega)⟩
  obtain⟨q,hq,ty⟩:=pairs_at pr hy;have ews:=IX (pairs_len pr).symm hq;refine⟨_,rfl,.inl ⟨rfl,_,SqL.of h2⟩,w,xs,y,rfl,rfl,h2,hy,?_⟩;have b4:But nA H (upd H2 w (.lst xs.dropLast)):=b2.put hw;have pr4:Paired (T3 (upd H2 w (.lst xs.dropLast))) xs.dropLast ws.dropLast:=aJ (fun _ _ z=>z.upd h2) (eS pr);have hD4:D3 (upd H2 w (.lst xs.dropLast)) nA (IV (num++N.map fun p=>(p,n))):=by unfold D3;rw[aA nwn.symm];exact hD
  have ty4:T3 (upd H2 w (.lst xs.dropLast)) y q:=ty.upd h2;have h4:(upd H2 w (.lst xs.dropLast)) w=some (.lst xs.dropLast):=a7;have ml:tQ H2 w=xs.length:=lF h2;have mt:lO H2 nA=num.length+N.length:=by rw[G3 hD,fB,List.length_append,List.length_map]
  generalize (upd H2 w (.lst xs.dropLast))=H4 at b4 pr4 hD4 ty4 h4 ⊢;rw[ews]at sr;obtain⟨ya,rfl,hya⟩:=ty4;have ld:xs.dropLast.length=xs.length - 1:=List.length_dropLast ..;have less:tQ H4 w+4*(10000 - lO H4 nA)<tQ H2 w+4*(10000 - lO H2 nA):=by rw[ml,mt,lF h4,G3 hD4,fB,List.length_append,List.length_map,ld];omega
  have o0:RM.okT (RM.aK fac) t0 t0:=rfl;have u0:¬RM.isN (RM.aK num) t0:=by unfold RM.isN;rw[h0n];intro z;cases z
  have skip:(¬RM.okT (RM.aK fac) t0 q\/RM.isN (RM.aK num) q\/q∈N)->∃(xs':List V)(ws' N':List PI3)(v6':Option V),([some (.ref a0),some (.int n),some (.ref fA),some (.ref nA),some (.int fz),some (.ref w),some (.ref ya)]:List (Option V))=[some (.ref a0),some (.int n),some (.ref fA),some (.ref nA),some (.int fz),some (.ref w),v6']/\But nA H H4/\H4 w=some (.lst xs')/\Paired (T3 H4) xs' ws'/\D3 H4 nA (IV (num++N'.map fun p=>(p,n)))/\RM.gC (RM.okT (RM.aK fac) t0) RM.nbP (RM.isN (RM.aK num)) t0 N' ws'/\N'.Nodup/\(∀p∈N',(RM.aK fac p).isSome=true/\RM.aK num p=none)/\xs'.length<=1+3*N'.length:=
   fun z=>⟨xs.dropLast,ws.dropLast,N,some (.ref ya),rfl,b4,h4,pr4,hD4,sr.pop o0 u0 z,Nnd,Nin,by omega⟩
  have gq:=(hFb H4 b4).get (p:=q) hya;rw[fW]at gq;cases eq:RM.aK fac q with
  |none=>rw[eq]at gq;refine⟨_,rfl,fA,rfl,.inr ⟨_,hFb H4 b4⟩,_,rfl,_,gq,_,rfl,rfl,_,rfl,?_⟩;refine⟨skip (.inl fun z=>?_),less⟩;have z:RM.aK fac q=RM.aK fac t0:=z;rw[eq,hfz]at z;cases z
  |some z=>
   rw[eq]at gq;refine⟨_,rfl,fA,rfl,.inr ⟨_,hFb H4 b4⟩,_,rfl,_,gq,_,rfl,rfl,_,rfl,?_⟩;refine cG (fun c1=>?_) (fun c1=>G5 ⟨skip (.inl fun z'=>c1 (decide_eq_true ?_)),less⟩)
   ·have c1:z=fz:=V.int.inj (of_decide_eq_true c1);have okq:RM.okT (RM.aK fac) t0 q:=by
     show RM.aK fac q=RM.aK fac t0
     rw[eq,hfz,c1]
    refine⟨_,rfl,_,rfl,nA,_,rfl,R3.get (p:=q) hD4.rd hya,_,rfl,?_⟩;rw[zF];refine cG (fun c2=>?_) (fun c2=>?_)
    ·have c2:q∉ (num++N.map fun p=>(p,n)).map (·.1):=fun z=>by rw[(RM.aV q _).mpr z]at c2;cases c2
     have c3:q∉num.map (·.1)/\q∉N:=by rw[keysN]at c2;exact⟨fun z=>c2 (List.mem_append_left _ z),fun z=>c2 (List.mem_append_right _ z)⟩
     have nq:=RM.lK.mpr c3.1;have uq:¬RM.isN (RM.aK num) q:=by unfold RM.isN;rw[nq];intro z;cases z
     have sr5:=sr.push okq uq;obtain⟨sd0,sd4⟩:=hside q z eq;refine⟨_,rfl,_,rfl,_,rfl,nA,_,rfl,D3.put hD4 hya _ (by rw[fB,List.length_append,List.length_map];exact few (m:=5000) (by omega)),?_⟩;rw[t9,RM.fM _ c2];have eN:num++N.map (fun p=>(p,n))++[(q,n)]=num++(N++[q]).map fun p=>(p,n):=by simp
     rw[eN];have hD4':H4 nA=some (.dT (kvF k3 (IV (num++N.map fun p=>(p,n))))):=hD4;have tK:∀{v:V}{p:PI3},T3 H4 v p->T3 (upd H4 nA (.dT (kvF k3 (IV (num++(N++[q]).map fun p=>(p,n)))))) v p:=fun t=>t.qP hD4' (by intro _ z;cases z)
     have b5:But nA H (upd H4 nA (.dT (kvF k3 (IV (num++(N++[q]).map fun p=>(p,n)))))):=b4.here;have h5:(upd H4 nA (.dT (kvF k3 (IV (num++(N++[q]).map fun p=>(p,n)))))) w=some (.lst xs.dropLast):=by rw[aA nwn];exact h4
     have pr5:=aJ (fun _ _ t=>tK t) pr4;have ty5:=tK ⟨ya,rfl,hya⟩;have hD5:D3 (upd H4 nA (.dT (kvF k3 (IV (num++(N++[q]).map fun p=>(p,n)))))) nA (IV (num++(N++[q]).map fun p=>(p,n))):=a7;generalize (upd H4 nA (.dT (kvF k3 (IV (num++(N++[q]).map fun p=>(p,n))))))=H5 at b5 h5 pr5 ty5 hD5 ⊢;refine⟨_,rfl,.inl ⟨rfl,_,SqL.of h5⟩,_,rfl,.ref ya,q,rfl,ty5,fun r1 H6 s6 t6=>?_⟩;have h6:=s6 _ _ h5;refine⟨w,xs.dropLast,r1,rfl,rfl,h6,few (m:=20000) (by omega),?_⟩;have b7:But nA H (upd H6 w (.lst (xs.dropLast++[r1]))):=(b5.trans (a9.but s6)).put hw;have pr7:Paired (T3 (upd H6 w (.lst (xs.dropLast++[r1])))) (xs.dropLast++[r1]) (ws.dropLast++[(q.1,q.2.1,(q.2.2+1)%4)]):=bD (t6.upd h6) (aJ (fun _ _ t=>(t.mono s6).upd h6) pr5);have ty7:T3 (upd H6 w (.lst (xs.dropLast++[r1]))) (.ref ya) q:=(ty5.mono s6).upd h6;have hD7:D3 (upd H6 w (.lst (xs.dropLast++[r1]))) nA (IV (num++(N++[q]).map fun p=>(p,n))):=by unfold D3;rw[aA nwn.symm];exact s6 _ _ hD5
     have h7:(upd H6 w (.lst (xs.dropLast++[r1]))) w=some (.lst (xs.dropLast++[r1])):=a7;generalize (upd H6 w (.lst (xs.dropLast++[r1])))=H7 at b7 pr7 ty7 hD7 h7 ⊢;refine⟨_,rfl,.inl ⟨rfl,_,SqL.of h7⟩,_,rfl,.ref ya,q,rfl,ty7,fun r2 H8 s8 t8=>?_⟩;have h8:=s8 _ _ h7;refine⟨w,_,r2,rfl,rfl,h8,few (m:=20000) (by rw[List.length_append];simp;omega),?_⟩;have b9:But nA H (upd H8 w (.lst (xs.dropLast++[r1]++[r2]))):=(b7.trans (a9.but s8)).put hw;have pr9:=bD (t8.upd (o:=.lst (xs.dropLast++[r1]++[r2])) h8) (aJ (fun _ _ t=>(t.mono s8).upd h8) pr7);have ty9:T3 (upd H8 w (.lst (xs.dropLast++[r1]++[r2]))) (.ref ya) q:=(ty7.mono s8).upd h8;have hD9:D3 (upd H8 w (.lst (xs.dropLast++[r1]++[r2]))) nA (IV (num++(N++[q]).map fun p=>(p,n))):=by unfold D3;rw[aA nwn.symm];exact s8 _ _ hD7
     have h9:(upd H8 w (.lst (xs.dropLast++[r1]++[r2]))) w=some (.lst (xs.dropLast++[r1]++[r2])):=a7;generalize (upd H8 w (.lst (xs.dropLast++[r1]++[r2])))=H9 at b9 pr9 ty9 hD9 h9 ⊢;refine⟨_,rfl,.inl ⟨rfl,_,SqL.of h9⟩,_,rfl,.ref ya,q,rfl,ty9,sd0,sd4,fun r3 HA sA tA=>?_⟩;have hA:=sA _ _ h9;have hDA:D3 (upd HA w (.lst (xs.dropLast++[r1]++[r2]++[r3]))) nA (IV (num++(N++[q]).map fun p=>(p,n))):=by unfold D3;rw[aA nwn.symm];exact sA _ _ hD9
     refine⟨w,_,r3,rfl,rfl,hA,few (m:=20000) (by rw[List.length_append,List.length_append];simp;omega),⟨_,_,N++[q],_,rfl,(b9.trans (a9.but sA)).put hw,a7,bD (tA.upd hA) (aJ (fun _ _ t=>(t.mono sA).upd hA) pr9),hDA,?_,?_,?_,?_⟩,?_⟩
     ·have e:ws.dropLast++RM.nbP q=ws.dropLast++[(q.1,q.2.1,(q.2.2+1)%4)]++[(q.1,q.2.1,(q.2.2+3)%4)]++[((RM.aM (q.1,q.2.1) q.2.2.toNat).1,(RM.aM (q.1,q.2.1) q.2.2.toNat).2,(q.2.2+2)%4)]:=by unfold RM.nbP;simp
      rw[e]at sr5;exact sr5
     ·rw[List.nodup_append];exact⟨Nnd,by simp,fun a ha b hb e=>c3.2 (by simp at hb;rw[<- hb,<- e];exact ha)⟩
     ·intro p hp;rcases List.mem_append.mp hp with hp|hp
      ·exact Nin p hp
      ·have:p=q:=by simpa using hp
       rw[this];exact⟨by rw[eq];rfl,nq⟩
     ·simp only[List.length_append,List.length_cons,List.length_nil];omega
     ·rw[ml,mt,lF a7,G3 hDA,fB];simp only[List.length_append,List.length_map,List.length_cons,List.length_nil];omega
    ·have c2:q∈num.map (·.1)++N:=by
      rw[<- keysN];refine(RM.aV q _).mp ?_;cases e:(RM.aK (num++N.map fun p=>(p,n)) q).isSome with
      |true=>rfl
      |false=>rw[e]at c2;exact absurd rfl c2
     refine⟨skip (.inr ?_),less⟩;rcases List.mem_append.mp c2 with z|z
     ·exact .inl ((RM.aV q num).mpr z)
     ·exact .inr z
   ·have z':RM.aK fac q=RM.aK fac t0:=z';rw[eq,hfz]at z';rw[Option.some.inj z'];rfl
 ·have e:xs=[]:=by
   cases xs with
   |nil=>rfl
   |cons _ _=>exact absurd rfl cq
  subst e;cases pr;exact k N H2 b2 hD Nnd fun p=>sr.done p
abbrev s_no:Stmt:=(top 71)
theorem sc_no:aL ["facings","numbers","count","triangle"] ["facings"] (aI s_no):=⟨rfl,rfl,rfl,by decide+kernel,rfl,by decide+kernel,by decide+kernel⟩
noncomputable def sp_no(K:W.Frag)(d:Adr):Sp:=fun vs H Q _=>∃(fA:Addr)(h:List Nat),vs=[.ref fA]/\D3 H fA (IV (RM.bR h))/\(∀r∈h,RM.okR r)/\h.length<=1024/\∀r Ns H',a9 H H'->H r=none->D3 H' r (IV (RM.aD 0 Ns))->RM.Numbering h (Roof.trianglesOf h).length Ns->Q (.ref r) H'
theorem ok_no(F:Fun K "numbers_of" "numbers_of" s_no f fd)(T:Txt K mg base d)(D_nf:aR P w K mg base CX0 4 "number_face" ["first","number","facings","numbers"] (sp_nf K d)):bM P w K mg base CX0 5 f fd ["facings"] (sp_no K d):=by
 refine F.ok sc_no (fun vs H Q E h=>by obtain⟨fA,h,rfl,_⟩:=h;rfl) (fun cdv A outer s H vs Q E hr h=>?_);have hu:=bJ hr;obtain⟨fA,h,rfl,hF,hok,hl,k⟩:=h;have tl:=RM.wW h;have hlt:(Roof.trianglesOf h).length<Roof.NONE:=by unfold Roof.NONE;omega
 have fl:(RM.bR h).length<=4096:=by have:=congrArg List.length (RM.dO h);rw[List.length_map,List.length_map]at this;omega
 refine⟨_,(aB (aS (i:=1) sc_no.nd rfl (Or.inl rfl) eQ)
   (aB (aS (i:=2) sc_no.nd rfl (Or.inl rfl) aQ)
   (aB (j1 (cF PassesOwn.never rfl (l9 (pv 0)) (aN (i:=3) sc_no.nd rfl (Or.inl rfl)) (aE (cE (e9 (cH hu (pv 3) (pv 1))) (aB (cZ (aT D_nf (hm hr) aY rfl (a8 (pv 3) (a8 (pv 2) (a8 (pv 0) (a8 (pv 1) aC))))))
   (aE (FE (i:=2) sc_no.nd rfl (Or.inl rfl) aQ AO))) bC))))
   (aE (aP (pv 1)))))),?_⟩
 refine fun f hf=>?_
 have nc:fA≠f:=aG hF hf;have lockd:∀od,(upd H fA (.frz od (.dT (kvF k3 (IV (RM.bR h)))))) f=none:=fun od=>gG hF hf
 refine⟨fA,.dT (kvF k3 (IV (RM.bR h))),by rw[aA nc];exact hF,trivial,fun od=>⟨_,rfl,fA,od,rfl,.inr ⟨_,a7,kC (d:=fA) (od:=od) (kvs:=kvF k3 (IV (RM.bR h)))
  (fun i σ H2=>∃(Ns:List (List PI3))(v3:Option V),σ=[some (.ref fA),some (.ref f),some (.int (Ns.length:Nat)),v3]/\a9 (upd H fA (.frz od (.dT (kvF k3 (IV (RM.bR h)))))) H2/\D3 H2 f (IV (RM.aD 0 Ns))/\RM.Numbering h i Ns)
  ⟨[],none,rfl,a9.both (a9.upd hf),by unfold D3;rw[aA nc.symm,a7];rfl,RM.Numbering.start hok⟩ (fun i σ H2 ⟨_,_,_,s2,_⟩=>s2 _ _ a7) ?_ ?_⟩⟩⟩
 ·rintro i kk vv q σ H2 hi hq ⟨Ns,v3,rfl,s2,hD,R⟩;obtain⟨t,ht,rfl⟩:=AI hi;obtain⟨tn,htn,rfl⟩:∃tn,(Roof.trianglesOf h)[i]? =some tn/\t=RM.tP tn:=by
   have:=congrArg (Option.map Prod.fst) ht;rw[<- List.getElem?_map,jH,RM.dO,List.getElem?_map]at this;cases e:(Roof.trianglesOf h)[i]? with
   |none=>rw[e]at this;cases this
   |some tn=>rw[e]at this;exact⟨tn,rfl,(Option.some.inj this).symm⟩
  have hm:=List.mem_of_getElem? htn;refine⟨_,rfl,_,rfl,f,_,rfl,R3.get (p:=RM.tP tn) hD.rd hq,_,rfl,?_⟩;rw[zF];refine cG (fun c1=>?_) (fun c1=>?_)
  ·have c1:RM.aK (RM.aD 0 Ns) (RM.tP tn)=none:=by
    cases e:RM.aK (RM.aD 0 Ns) (RM.tP tn)with
    |none=>rfl
    |some z=>rw[e]at c1;cases c1
   obtain⟨lab,firsts,O,_,_⟩:=R.ex;have hin:=RM.C6 hok tn hm;refine⟨_,rfl,_,rfl,_,rfl,_,rfl,.ref q,(Ns.length:Int),fA,f,RM.bR h,RM.aD 0 Ns,RM.tP tn,rfl,⟨q,rfl,hq⟩,.inr ⟨od,s2 _ _ a7⟩,hD,nc,fun t z e=>RM.E2 e,by rw[hin];rfl,c1,fl,by rw[RM.bA];exact O.nd,fun t ht=>by rw[RM.bA]at ht;rw[RM.dO];exact O.sub t ht,fun N H3 b3 hD3 nd3 hN=>?_⟩;have s3:a9 (upd H fA (.frz od (.dT (kvF k3 (IV (RM.bR h)))))) H3:=But.same b3 s2 (lockd od);refine⟨_,rfl,_,_,rfl,rfl,Ns++[N],some (.ref q),?_,s3,by rw[RM.iM];exact hD3,R.face hok (fun t ht=>RM.C6 hok t ht) (fun p hp=>RM.yW h p hp) hlt htn c1 hN nd3⟩;have el:((Ns++[N]).length:Int)=(Ns.length:Int)+1:=by rw[List.length_append];simp
   rw[el];rfl
  ·have c1:(RM.aK (RM.aD 0 Ns) (RM.tP tn)).isSome=true:=by
    cases e:(RM.aK (RM.aD 0 Ns) (RM.tP tn)).isSome with
    |true=>rfl
    |false=>rw[e]at c1;exact absurd rfl c1
   exact⟨Ns,_,rfl,s2,hD,R.skip htn c1⟩
 ·rintro σ H2 ⟨Ns,v3,rfl,s2,hD,R⟩;have el:(kvF k3 (IV (RM.bR h))).length=(Roof.trianglesOf h).length:=by have:=congrArg List.length (RM.dO h);rw[List.length_map,List.length_map]at this;rw[eB,fB,this]
  rw[el]at R;exact⟨s2 _ _ a7,_,rfl,k f Ns _ (a9.unlock hF s2) hf (by unfold D3;rw[aA nc.symm];exact hD) R⟩
abbrev s_fo:Stmt:=(top 72)
theorem sc_fo:aL ["numbers","faces","triangle","number"] ["numbers"] (aI s_fo):=⟨rfl,rfl,rfl,by decide+kernel,rfl,by decide+kernel,by decide+kernel⟩
noncomputable def sp_fo(K:W.Frag)(d:Adr):Sp:=fun vs H Q _=>∃(nA:Addr)(Ns:List (List PI3)),vs=[.ref nA]/\D3 H nA (IV (RM.aD 0 Ns))/\(∀N∈Ns,N≠[])/\(RM.aD 0 Ns).length<=4096/\∀r H',a9 H H'->H r=none->LLS H' r Ns->Q (.ref r) H'
theorem ok_fo(F:Fun K "faces_of" "faces_of" s_fo f fd)(T:Txt K mg base d):bM P w K mg base CX0 1 f fd ["numbers"] (sp_fo K d):=by
 refine F.ok sc_fo (fun vs H Q E h=>by obtain⟨nA,Ns,rfl,_⟩:=h;rfl) (fun cdv A outer s H vs Q E hr h=>?_);have hu:=bJ hr;obtain⟨nA,Ns,rfl,hN,hne,hl,k⟩:=h;refine⟨_,(aB (aS (i:=1) sc_fo.nd rfl (Or.inl rfl) (fO aC))
   (aB (j1 (cF PassesOwn.never rfl (uJ (pv 0)) (m5 rfl (bP (aN (i:=2) sc_fo.nd rfl (Or.inl rfl)) (bP (aN (i:=3) sc_fo.nd rfl (Or.inl rfl)) j2))) (aB (cE (bV jY (pv 3) (bT cM (by rfl) T.len PySem.boot_len (a8 (pv 1) aC)) (bZ _)) (aE (cZ (iJ PySem.F.plainAttrs_list PySem.F.slot_list_append PySem.F.type_list_append cI (pv 1) (a8 (fO aC) aC)))) bC)
   (aE (cZ (iJ PySem.F.plainAttrs_list PySem.F.slot_list_append PySem.F.type_list_append cI (cU nJ (pv 1) (pv 3) (fun _ _=>rfl)) (a8 (pv 2) aC)))))))
   (aE (aP (pv 1))))),?_⟩
 refine⟨Nat.zero_le _,fun f hf=>?_⟩;have nc:nA≠f:=aG hN hf;have lockd:∀od,(upd H nA (.frz od (.dT (kvF k3 (IV (RM.aD 0 Ns)))))) f=none:=fun od=>gG hN hf
 refine⟨nA,.dT (kvF k3 (IV (RM.aD 0 Ns))),by rw[aA nc];exact hN,trivial,fun od=>⟨_,rfl,nA,od,_,rfl,a7,uV (d:=nA) (od:=od) (kvs:=kvF k3 (IV (RM.aD 0 Ns)))
  (fun i σ H2=>∃(bs:List Addr)(Fs:List (List PI3))(v2 v3:Option V),σ=[some (.ref nA),some (.ref f),v2,v3]/\a9 (upd H nA (.frz od (.dT (kvF k3 (IV (RM.aD 0 Ns)))))) H2/\H2 f=some (.lst (bs.map V.ref))/\Paired (LS H2) bs Fs/\(f::bs).Nodup/\(∀b∈bs,(upd H nA (.frz od (.dT (kvF k3 (IV (RM.aD 0 Ns)))))) b=none)/\RM.pP Ns i Fs)
  ⟨[],[],none,none,rfl,a9.both (a9.upd hf),by rw[aA nc.symm,a7];rfl,.nil,by simp,fun b hb=>(by cases hb),RM.pP.start Ns⟩ (fun i σ H2 ⟨_,_,_,_,_,s2,_⟩=>s2 _ _ a7) ?_ ?_⟩⟩
 ·rintro i kk vv q T' σ H2 hi hq hT' ⟨bs,Fs,v2,v3,rfl,s2,hf2,pr,nd,fr,pre⟩;obtain⟨t,ht,rfl⟩:=AI hi;obtain⟨m,hm,rfl⟩:∃m,(RM.aD 0 Ns)[i]? =some (t,m)/\vv=.int m:=by
   unfold IV at ht;rw[List.getElem?_map]at ht;cases e:(RM.aD 0 Ns)[i]? with
   |none=>rw[e]at ht;cases ht
   |some x=>rw[e]at ht;cases ht;exact⟨x.2,rfl,rfl⟩
  have s3:a9 H2 (upd H2 T' (.tup [.ref q,.int m])):=a9.upd hT';refine⟨T',_,rfl,SqT.of a7,rfl,_,_,rfl,_,_,rfl,rfl,?_⟩;have s23:=a9.trans s2 s3;have hf3:=s3 _ _ hf2;have tq3:T3 (upd H2 T' (.tup [.ref q,.int m])) (.ref q) t:=⟨q,rfl,s3 _ _ hq⟩;have pr3:=aJ (fun _ _ z=>LS.mono s3 z) pr;generalize (upd H2 T' (.tup [.ref q,.int m]))=H3 at s3 s23 hf3 tq3 pr3 ⊢;have hil:=DU hm;have lb:=pairs_len pr;have lFs:Fs.length<=4096:=by have h1:=RM.kE pre.ne;have h2:=congrArg List.length (RM.bA Fs 0);rw[List.length_map,pre.eq,List.length_take]at h2;omega
  have fin:∀(H5:Hp)(cs:List Addr)(b:Addr)(F:List (List PI3))(L:List PI3),a9 (upd H nA (.frz od (.dT (kvF k3 (IV (RM.aD 0 Ns)))))) H5->H5 f=some (.lst ((cs++[b]).map V.ref))->Paired (LS H5) cs F->LS H5 b L->(f::(cs++[b])).Nodup->(∀c∈cs++[b],(upd H nA (.frz od (.dT (kvF k3 (IV (RM.aD 0 Ns)))))) c=none)->T3 H5 (.ref q) t->m=(F.length:Int)->RM.pP Ns (i+1) (F++[L++[t]]) ->
    ∃ys,H5 b=some (.lst ys)/\ys.length<=4096/\((cs++[b]).map V.ref)[m.toNat]? =some (.ref b)/\∃(bs:List Addr)(Fs:List (List PI3))(v2 v3:Option V),([some (.ref nA),some (.ref f),some (.ref q),some (.int m)]:List (Option V))=[some (.ref nA),some (.ref f),v2,v3]/\a9 (upd H nA (.frz od (.dT (kvF k3 (IV (RM.aD 0 Ns)))))) (upd H5 b (.lst (ys++[.ref q])))/\(upd H5 b (.lst (ys++[.ref q]))) f=some (.lst (bs.map V.ref))/\Paired (LS (upd H5 b (.lst (ys++[.ref q])))) bs Fs/\(f::bs).Nodup/\(∀b∈bs,(upd H nA (.frz od (.dT (kvF k3 (IV (RM.aD 0 Ns)))))) b=none)/\RM.pP Ns (i+1) Fs:=by
   intro H5 cs b F L s5 hf5 pF pL nd5 fr5 tq5 em pre2;obtain⟨ys,hb5,py⟩:=pL;have hat:((cs++[b]).map V.ref)[m.toNat]? =some (.ref b):=by
    have e1:m.toNat=F.length:=by omega
    have e2:=pairs_len pF;rw[e1,<- e2,List.map_append,List.getElem?_append_right (by simp)];simp
   have ly:=pairs_len py;have lL:L.length<=4096:=by have h2:=congrArg List.length pre2.eq;have h3:=congrArg List.length (RM.bA (F++[L++[t]]) 0);rw[List.length_map]at h3;rw[List.length_take]at h2;rw[List.flatten_append,List.length_append]at h3;simp at h3;omega
   have ndp:=List.nodup_cons.mp nd5;have nbf:b≠f:=fun z=>ndp.1 (z▸List.mem_append_right _ List.mem_cons_self)
   have ncb:∀c∈cs,c≠b:=fun c hc=>(List.nodup_append.mp ndp.2).2.2 c hc b List.mem_cons_self
   refine⟨ys,hb5,by omega,hat,cs++[b],F++[L++[t]],_,_,rfl,a9.put s5 (fr5 b (List.mem_append_right _ List.mem_cons_self)),by rw[aA nbf.symm];exact hf5,?_,nd5,fr5,pre2⟩;exact bD ⟨ys++[.ref q],a7,bD (tq5.upd hb5) (aJ (fun _ _ z=>z.upd hb5) py)⟩ (aJ (fun c G ⟨hc,_,z⟩=>z.upd hb5 (ncb c hc)) (lA pF))
  refine⟨_,rfl,_,rfl,f,_,rfl,.inl (SqL.of hf3),rfl,_,rfl,?_⟩;rw[List.length_map,lb];rcases pre.step hne hm with⟨em,pre2⟩|⟨F,L,eF,em,pre2⟩
  ·refine cG (fun c1=>?_) (fun c1=>absurd (decide_eq_true (by rw[em])) c1);refine⟨_,rfl,.inl ⟨rfl,_,SqL.of hf3⟩,Nat.zero_le _,fun l hl0=>?_⟩;have s4:a9 H3 (upd H3 l (.lst [])):=a9.upd hl0;have hf4:=s4 _ _ hf3;have nlf:l≠f:=fun z=>by rw[z,hf3]at hl0;cases hl0
   refine⟨f,_,.ref l,rfl,rfl,hf4,by rw[List.length_map,lb];exact few (m:=4096) lFs,?_⟩;have nlb:∀b∈bs,b≠l:=fun b hb z=>by obtain⟨j,hj⟩:=List.mem_iff_getElem?.mp hb;obtain⟨_,_,⟨ys,hy,_⟩⟩:=pairs_at pr3 hj;rw[z,hl0]at hy;cases hy
   have nbf:∀b∈bs,b≠f:=fun b hb z=>(List.nodup_cons.mp nd).1 (z▸hb)
   have eb:bs.map V.ref++[V.ref l]=(bs++[l]).map V.ref:=by simp
   rw[eb];have hf5:(upd (upd H3 l (.lst [])) f (.lst ((bs++[l]).map V.ref))) f=some (.lst ((bs++[l]).map V.ref)):=a7;obtain⟨ys,y1,y2,y3,y4⟩:=fin (upd (upd H3 l (.lst [])) f (.lst ((bs++[l]).map V.ref))) bs l Fs [] (a9.put (a9.trans s23 s4) (lockd od)) hf5 (aJ (fun b F ⟨hb,_,z⟩=>(LS.mono s4 z).upd hf4 (nbf b hb)) (lA pr3)) ⟨[],by rw[aA nlf,a7],.nil⟩ (by
     rw[List.nodup_cons]at nd ⊢;refine⟨fun z=>?_,?_⟩
     ·rcases List.mem_append.mp z with z|z
      ·exact nd.1 z
      ·exact nlf (List.mem_singleton.mp z).symm
     ·rw[List.nodup_append];exact⟨nd.2,by simp,fun a ha b hb e=>nlb a ha (by simp at hb;rw[e,hb])⟩) (by
     intro c hc;rcases List.mem_append.mp hc with hc|hc
     ·exact fr c hc
     ·have:c=l:=by simpa using hc
      rw[this];exact s23.free hl0) ((tq3.mono s4).upd hf4) em pre2
   exact⟨_,rfl,_,rfl,f,_,_,_,rfl,rfl,SqL.of hf5,bQ (by omega) y3,.inl ⟨rfl,_,SqL.of y1⟩,_,rfl,l,ys,.ref q,rfl,rfl,y1,few y2,y4⟩
  ·refine cG (fun c1=>?_) (fun c1=>?_)
   ·have c1:=V.int.inj (of_decide_eq_true c1);rw[eF,List.length_append]at c1;simp at c1;omega
   ·subst eF;obtain⟨cs,b,eb,p1,p2⟩:=pZ pr3;subst eb;obtain⟨ys,y1,y2,y3,y4⟩:=fin _ cs b F L s23 hf3 p1 p2 nd fr tq3 em pre2;exact⟨_,rfl,_,rfl,f,_,_,_,rfl,rfl,SqL.of hf3,bQ (by omega) y3,.inl ⟨rfl,_,SqL.of y1⟩,_,rfl,b,ys,.ref q,rfl,rfl,y1,few y2,y4⟩
 ·rintro σ H2 ⟨bs,Fs,v2,v3,rfl,s2,hf2,pr,nd,fr,pre⟩;have el:(kvF k3 (IV (RM.aD 0 Ns))).length=(RM.aD 0 Ns).length:=by rw[eB,fB]
  rw[el]at pre;have e:=pre.done hne;subst e;have hN2:H2 nA=some (.frz od (.dT (kvF k3 (IV (RM.aD 0 Fs))))):=s2 _ _ a7;refine⟨hN2,_,rfl,k f _ (a9.unlock hN s2) hf ⟨bs,by rw[aA nc.symm];exact hf2,aJ (fun b F ⟨xs,h1,h2⟩=>⟨xs,?_,aJ (fun _ _ z=>z.qP hN2 (by intro _ z;cases z)) h2⟩) pr⟩⟩;rw[aA (eT h1 hN2 (by intro z;cases z))];exact h1
abbrev s_i:Stmt:=(inClass (top 64) 0)
theorem sc_i:aL ["self","cells"] ["self","cells"] (aI s_i):=⟨rfl,rfl,rfl,by decide+kernel,rfl,by decide+kernel,by decide+kernel⟩
structure mJ(C:List (Nat×Nat))(R:Addr)(H:Hp)(x:Addr)(cA dA hA fA nA gA:Addr)(ht:List (PI×Int))(Ns:List (List PI3)):Prop where
 ins:∃dx fs,H x=some (.ins R dx fs)/\fs.lookup ("cells" : Str)=some (.ref cA)/\fs.lookup ("depths" : Str)=some (.ref dA)/\fs.lookup ("heights" : Str)=some (.ref hA)/\fs.lookup ("facings" : Str)=some (.ref fA)/\fs.lookup ("numbers" : Str)=some (.ref nA)/\fs.lookup ("faces" : Str)=some (.ref gA)
 cells:D2 H cA (CS C)
 GR:D2 H dA (IV (RM.bN (Roof.halvesOf C)))
 C3:D2 H hA (IV ht)
 hok:RM.zG (Roof.halvesOf C) ht
 C7:D3 H fA (IV (RM.bR (Roof.halvesOf C)))
 IJ:D3 H nA (IV (RM.aD 0 Ns))
 nok:RM.Numbering (Roof.halvesOf C) (Roof.trianglesOf (Roof.halvesOf C)).length Ns
 faces:LLS H gA Ns
 apart:[cA,dA,hA,fA,nA,gA].Nodup
theorem mJ.mono{C:List (Nat×Nat)}{R:Addr}{H H':Hp}{x cA dA hA fA nA gA:Addr}{ht:List (PI×Int)}{Ns:List (List PI3)}(r:mJ C R H x cA dA hA fA nA gA ht Ns)(e:a9 H H'):mJ C R H' x cA dA hA fA nA gA ht Ns:=
 ⟨let⟨dx,fs,h,q⟩:=r.ins;⟨dx,fs,e _ _ h,q⟩,e _ _ r.cells,e _ _ r.GR,e _ _ r.C3,r.hok,e _ _ r.C7,e _ _ r.IJ,r.nok,r.faces.mono e,r.apart⟩
theorem LLS.QM{H:Hp}{a x:Addr}{Fs:List (List PI3)}{C dx:Addr}{fs:List (Str×V)}{o:HO}(h:LLS H a Fs)(hx:H x=some (.ins C dx fs)):LLS (upd H x o) a Fs:=by obtain⟨bs,h1,h2⟩:=h;refine⟨bs,by rw[aA (eT h1 hx (by intro z;cases z))];exact h1,aJ (fun b F ⟨xs,e1,e2⟩=>⟨xs,by rw[aA (eT e1 hx (by intro z;cases z))];exact e1,aJ (fun _ _ z=>z.qP hx (by intro _ z;cases z)) e2⟩) h2⟩
noncomputable def sp_i(K:W.Frag)(d:Adr):Sp:=fun vs H Q _=>∃(x dx cA:Addr)(C:List (Nat×Nat)),vs=[.ref x,.ref cA]/\H x=some (.ins d.Roof dx [])/\D2 H cA (CS C)/\C.Nodup/\(∀c∈C,c.1<64/\c.2<64)/\C.length<=256/\C≠[]/\∀dA hA fA nA gA ht Ns H',(∀b o,H b=some o->b≠x->H' b=some o)->mJ C d.Roof H' x cA dA hA fA nA gA ht Ns->Q .non H'
theorem ok_i(F:Fun K "__init__" "Roof.__init__" s_i f fd)(T:Txt K mg base d)(D_do:aR P w K mg base CX0 6 "depths_of" ["cells"] (sp_do K d))(D_ho2:aR P w K mg base CX0 3 "heights_of" ["depths"] (sp_ho2 K d))(D_fo3:aR P w K mg base CX0 5 "facings_of" ["depths","heights"] (sp_fo3 K d))(D_no:aR P w K mg base CX0 5 "numbers_of" ["facings"] (sp_no K d))(D_fo:aR P w K mg base CX0 1 "faces_of" ["numbers"] (sp_fo K d)):bM P w K mg base CX0 7 f fd ["self","cells"] (sp_i K d):=by
 refine F.ok sc_i (fun vs H Q E h=>by obtain⟨x,dx,cA,C,rfl,_⟩:=h;rfl) (fun cdv A outer s H vs Q E hr h=>?_);have hu:=bJ hr;obtain⟨x,dx,cA,C,rfl,hx,hC,nd,bd,h256,hne,k⟩:=h;have hok:=RM.cC bd;have hhl:=RM.fE C;have hl:(Roof.halvesOf C).length<=1024:=by omega
 have hnd:((Roof.halvesOf C).map RM.hP).Nodup:=RM.cT ((RM.cX nd bd).imp fun{a b} h e=>by omega) fun a ha b hb e=>RM.mF (hok a ha) (hok b hb) e
 refine⟨_,(aB (oS (pv 0) (pv 1) rfl)
   (aB (oS (pv 0) (aT D_do (hm hr) aY rfl (a8 (pv 1) aC)) rfl)
   (aB (oS (pv 0) (aT D_ho2 (hm hr) aY rfl (a8 (fQ (pv 0) rfl) aC)) rfl)
   (aB (oS (pv 0) (aT D_fo3 (hm hr) aY rfl (a8 (fQ (pv 0) rfl) (a8 (fQ (pv 0) rfl) aC))) rfl)
   (aB (oS (pv 0) (aT D_no (hm hr) aY rfl (a8 (fQ (pv 0) rfl) aC)) rfl)
   (aE (oS (pv 0) (aT D_fo (hm hr) aY rfl (a8 (fQ (pv 0) rfl) aC)) rfl))))))),?_⟩
 refine⟨_,rfl,_,rfl,x,d.Roof,dx,[],rfl,hx,T.c7,T.IL,by decide,?_⟩;have ncx:cA≠x:=eT hC hx (by intro z;cases z);have c1:But x H (upd H x (.ins d.Roof dx (bO "cells" (.ref cA) []))):=(But.refl x H).here;have x1:(upd H x (.ins d.Roof dx (bO "cells" (.ref cA) []))) x=some (.ins d.Roof dx (bO "cells" (.ref cA) [])):=a7;have l1:=dF "cells" (.ref cA) [];generalize e1:bO "cells" (V.ref cA) []=fs1 at c1 x1 l1 ⊢;have q1:fs1.lookup ("cells" : Str)=some (.ref cA):=by rw[<- e1,bI,if_pos rfl]
 generalize (upd H x (.ins d.Roof dx fs1))=H1 at c1 x1 ⊢;have hC1:D2 H1 cA (CS C):=c1 _ _ ncx hC;refine⟨_,rfl,cA,C,rfl,hC1,nd,bd,h256,hne,fun dA H2 s2 fd2 hD2=>?_⟩;refine⟨_,rfl,x,d.Roof,dx,fs1,rfl,s2 _ _ x1,T.c7,T.jZ,by simp at l1;omega,?_⟩;have c2:But x H (upd H2 x (.ins d.Roof dx (bO "depths" (.ref dA) fs1))):=(c1.trans (a9.but s2)).here;have x2:(upd H2 x (.ins d.Roof dx (bO "depths" (.ref dA) fs1))) x=some (.ins d.Roof dx (bO "depths" (.ref dA) fs1)):=a7;have ndx:dA≠x:=eT hD2 (s2 _ _ x1) (by intro z;cases z);have hD3:D2 (upd H2 x (.ins d.Roof dx (bO "depths" (.ref dA) fs1))) dA (IV (RM.bN (Roof.halvesOf C))):=by unfold D2;rw[aA ndx];exact hD2
 have l2:=dF "depths" (.ref dA) fs1;have a2:∀g,g≠("depths" : Str)->(bO "depths" (.ref dA) fs1).lookup g=fs1.lookup g:=fun g hg=>by rw[bI,if_neg hg]
 have q2:(bO "depths" (.ref dA) fs1).lookup ("depths" : Str)=some (.ref dA):=by rw[bI,if_pos rfl]
 have ncd:cA≠dA:=fun z=>by have:=hC1;unfold D2 at this;rw[z,fd2]at this;cases this
 generalize bO "depths" (V.ref dA) fs1=fs2 at*;generalize (upd H2 x (.ins d.Roof dx fs2))=H3 at c2 x2 hD3 ⊢;refine⟨_,rfl,x,d.Roof,dx,fs2,_,rfl,x2,T.c7,T.jZ,q2,?_⟩;refine⟨dA,Roof.halvesOf C,rfl,hD3,hok,hl,fun hA ht H4 s4 fh4 hH4 htok=>?_⟩;refine⟨_,rfl,x,d.Roof,dx,fs2,rfl,s4 _ _ x2,T.c7,T.lB,by simp at l1;omega,?_⟩;have c3:But x H (upd H4 x (.ins d.Roof dx (bO "heights" (.ref hA) fs2))):=(c2.trans (a9.but s4)).here;have x3:(upd H4 x (.ins d.Roof dx (bO "heights" (.ref hA) fs2))) x=some (.ins d.Roof dx (bO "heights" (.ref hA) fs2)):=a7;have nhx:hA≠x:=eT hH4 (s4 _ _ x2) (by intro z;cases z);have hH5:D2 (upd H4 x (.ins d.Roof dx (bO "heights" (.ref hA) fs2))) hA (IV ht):=by unfold D2;rw[aA nhx];exact hH4
 have hD5:D2 (upd H4 x (.ins d.Roof dx (bO "heights" (.ref hA) fs2))) dA (IV (RM.bN (Roof.halvesOf C))):=by unfold D2;rw[aA ndx];exact s4 _ _ hD3
 have l3:=dF "heights" (.ref hA) fs2;have a3:∀g,g≠("heights" : Str)->(bO "heights" (.ref hA) fs2).lookup g=fs2.lookup g:=fun g hg=>by rw[bI,if_neg hg]
 have q3:(bO "heights" (.ref hA) fs2).lookup ("heights" : Str)=some (.ref hA):=by rw[bI,if_pos rfl]
 have nch:cA≠hA:=fun z=>by have:=c2 _ _ ncx hC;rw[z,fh4]at this;cases this
 have ndh:dA≠hA:=fun z=>by have:=hD3;unfold D2 at this;rw[z,fh4]at this;cases this
 generalize bO "heights" (V.ref hA) fs2=fs3 at*;generalize (upd H4 x (.ins d.Roof dx fs3))=H5 at c3 x3 hH5 hD5 ⊢;have q32:fs3.lookup ("depths" : Str)=some (.ref dA):=by rw[a3 _ (by decide)];exact q2
 refine⟨_,rfl,x,d.Roof,dx,fs3,_,rfl,x3,T.c7,T.jZ,q32,_,rfl,x,d.Roof,dx,fs3,_,rfl,x3,T.c7,T.lB,q3,?_⟩;refine⟨dA,hA,Roof.halvesOf C,ht,rfl,hD5,hH5,ndh,htok,hnd,hl,fun fA H6 s6 ff6 hF6=>?_⟩;refine⟨_,rfl,x,d.Roof,dx,fs3,rfl,s6 _ _ x3,T.c7,T.gF,by simp at l1;omega,?_⟩;have c4:But x H (upd H6 x (.ins d.Roof dx (bO "facings" (.ref fA) fs3))):=(c3.trans (a9.but s6)).here;have x4:(upd H6 x (.ins d.Roof dx (bO "facings" (.ref fA) fs3))) x=some (.ins d.Roof dx (bO "facings" (.ref fA) fs3)):=a7;have nfx:fA≠x:=eT hF6 (s6 _ _ x3) (by intro z;cases z);have hF7:D3 (upd H6 x (.ins d.Roof dx (bO "facings" (.ref fA) fs3))) fA (IV (RM.bR (Roof.halvesOf C))):=by unfold D3;rw[aA nfx];exact hF6
 have hH7:D2 (upd H6 x (.ins d.Roof dx (bO "facings" (.ref fA) fs3))) hA (IV ht):=by unfold D2;rw[aA nhx];exact s6 _ _ hH5
 have hD7:D2 (upd H6 x (.ins d.Roof dx (bO "facings" (.ref fA) fs3))) dA (IV (RM.bN (Roof.halvesOf C))):=by unfold D2;rw[aA ndx];exact s6 _ _ hD5
 have l4:=dF "facings" (.ref fA) fs3;have a4:∀g,g≠("facings" : Str)->(bO "facings" (.ref fA) fs3).lookup g=fs3.lookup g:=fun g hg=>by rw[bI,if_neg hg]
 have q4:(bO "facings" (.ref fA) fs3).lookup ("facings" : Str)=some (.ref fA):=by rw[bI,if_pos rfl]
 have ncf:cA≠fA:=fun z=>by have:=c3 _ _ ncx hC;rw[z,ff6]at this;cases this
 have ndf:dA≠fA:=fun z=>by have:=hD5;unfold D2 at this;rw[z,ff6]at this;cases this
 have nhf:hA≠fA:=fun z=>by have:=hH5;unfold D2 at this;rw[z,ff6]at this;cases this
 generalize bO "facings" (V.ref fA) fs3=fs4 at*;generalize (upd H6 x (.ins d.Roof dx fs4))=H7 at c4 x4 hF7 hH7 hD7 ⊢;refine⟨_,rfl,x,d.Roof,dx,fs4,_,rfl,x4,T.c7,T.gF,q4,?_⟩;refine⟨fA,Roof.halvesOf C,rfl,hF7,hok,hl,fun nA Ns H8 s8 fn8 hN8 nok=>?_⟩;refine⟨_,rfl,x,d.Roof,dx,fs4,rfl,s8 _ _ x4,T.c7,T.uR,by simp at l1;omega,?_⟩;have c5:But x H (upd H8 x (.ins d.Roof dx (bO "numbers" (.ref nA) fs4))):=(c4.trans (a9.but s8)).here;have x5:(upd H8 x (.ins d.Roof dx (bO "numbers" (.ref nA) fs4))) x=some (.ins d.Roof dx (bO "numbers" (.ref nA) fs4)):=a7;have nnx:nA≠x:=eT hN8 (s8 _ _ x4) (by intro z;cases z);have hN9:D3 (upd H8 x (.ins d.Roof dx (bO "numbers" (.ref nA) fs4))) nA (IV (RM.aD 0 Ns)):=by unfold D3;rw[aA nnx];exact hN8
 have hF9:D3 (upd H8 x (.ins d.Roof dx (bO "numbers" (.ref nA) fs4))) fA (IV (RM.bR (Roof.halvesOf C))):=by unfold D3;rw[aA nfx];exact s8 _ _ hF7
 have hH9:D2 (upd H8 x (.ins d.Roof dx (bO "numbers" (.ref nA) fs4))) hA (IV ht):=by unfold D2;rw[aA nhx];exact s8 _ _ hH7
 have hD9:D2 (upd H8 x (.ins d.Roof dx (bO "numbers" (.ref nA) fs4))) dA (IV (RM.bN (Roof.halvesOf C))):=by unfold D2;rw[aA ndx];exact s8 _ _ hD7
 have l5:=dF "numbers" (.ref nA) fs4;have a5:∀g,g≠("numbers" : Str)->(bO "numbers" (.ref nA) fs4).lookup g=fs4.lookup g:=fun g hg=>by rw[bI,if_neg hg]
 have q5:(bO "numbers" (.ref nA) fs4).lookup ("numbers" : Str)=some (.ref nA):=by rw[bI,if_pos rfl]
 have ncn:cA≠nA:=fun z=>by have:=c4 _ _ ncx hC;rw[z,fn8]at this;cases this
 have ndn:dA≠nA:=fun z=>by have:=hD7;unfold D2 at this;rw[z,fn8]at this;cases this
 have nhn:hA≠nA:=fun z=>by have:=hH7;unfold D2 at this;rw[z,fn8]at this;cases this
 have nfn:fA≠nA:=fun z=>by have:=hF7;unfold D3 at this;rw[z,fn8]at this;cases this
 generalize bO "numbers" (V.ref nA) fs4=fs5 at*;generalize (upd H8 x (.ins d.Roof dx fs5))=H9 at c5 x5 hN9 hF9 hH9 hD9 ⊢;obtain⟨lab,firsts,O,_,_⟩:=nok.ex;have tl:=RM.wW (Roof.halvesOf C);have nl:(RM.aD 0 Ns).length<=4096:=by have h1:=congrArg List.length (RM.bA Ns 0);have h2:=RM.cK O.nd O.sub;rw[List.length_map]at h1 h2;omega
 refine⟨_,rfl,x,d.Roof,dx,fs5,_,rfl,x5,T.c7,T.uR,q5,?_⟩;refine⟨nA,Ns,rfl,hN9,O.ne,nl,fun gA HA sA fgA hG=>?_⟩;refine⟨_,rfl,x,d.Roof,dx,fs5,rfl,sA _ _ x5,T.c7,T.IK,by simp at l1;omega,?_⟩;have a6:∀g,g≠("faces" : Str)->(bO "faces" (.ref gA) fs5).lookup g=fs5.lookup g:=fun g hg=>by rw[bI,if_neg hg]
 have q6:(bO "faces" (.ref gA) fs5).lookup ("faces" : Str)=some (.ref gA):=by rw[bI,if_pos rfl]
 have xA:=sA _ _ x5;have ncg:cA≠gA:=fun z=>by have:=c5 _ _ ncx hC;rw[z,fgA]at this;cases this
 have ndg:dA≠gA:=fun z=>by have:=hD9;unfold D2 at this;rw[z,fgA]at this;cases this
 have nhg:hA≠gA:=fun z=>by have:=hH9;unfold D2 at this;rw[z,fgA]at this;cases this
 have nfg:fA≠gA:=fun z=>by have:=hF9;unfold D3 at this;rw[z,fgA]at this;cases this
 have nng:nA≠gA:=fun z=>by have:=hN9;unfold D3 at this;rw[z,fgA]at this;cases this
 refine k dA hA fA nA gA ht Ns _ (fun b o e nb=>by rw[aA nb];exact sA _ _ (c5 b o nb e)) ⟨⟨dx,_,a7,?_,?_,?_,?_,?_,q6⟩,?_,?_,?_,htok,?_,?_,nok,LLS.QM hG xA,?_⟩
 ·rw[a6 _ (by decide),a5 _ (by decide),a4 _ (by decide),a3 _ (by decide),a2 _ (by decide)];exact q1
 ·rw[a6 _ (by decide),a5 _ (by decide),a4 _ (by decide)];exact q32
 ·rw[a6 _ (by decide),a5 _ (by decide),a4 _ (by decide)];exact q3
 ·rw[a6 _ (by decide),a5 _ (by decide)];exact q4
 ·rw[a6 _ (by decide)];exact q5
 ·unfold D2;rw[aA ncx];exact sA _ _ (c5 _ _ ncx hC)
 ·unfold D2;rw[aA ndx];exact sA _ _ hD9
 ·unfold D2;rw[aA nhx];exact sA _ _ hH9
 ·unfold D3;rw[aA nfx];exact sA _ _ hF9
 ·unfold D3;rw[aA nnx];exact sA _ _ hN9
 ·simp only[List.nodup_cons,List.mem_cons,List.not_mem_nil,or_false,not_or,not_false_eq_true,List.nodup_nil,and_true];exact⟨⟨ncd,nch,ncf,ncn,ncg⟩,⟨ndh,ndf,ndn,ndg⟩,⟨nhf,nhn,nhg⟩,⟨nfn,nfg⟩,nng⟩
abbrev s_rt:Stmt:=(top 74)
theorem sc_rt:aL ["t"] ["t"] (aI s_rt):=⟨rfl,rfl,rfl,by decide+kernel,rfl,by decide+kernel,by decide+kernel⟩
structure lY(h:List Nat)(R:Addr)(H:Hp)(x:Addr):Prop where
 ex:∃dx fs dA hA fA ht,H x=some (.ins R dx fs)/\fs.lookup ("depths" : Str)=some (.ref dA)/\fs.lookup ("heights" : Str)=some (.ref hA)/\fs.lookup ("facings" : Str)=some (.ref fA)/\R2 H dA (IV (RM.bN h))/\R2 H hA (IV ht)/\RM.zG h ht/\R3 H fA (IV (RM.bR h))
theorem lY.mono{h:List Nat}{R:Addr}{H H':Hp}{x:Addr}(r:lY h R H x)(e:a9 H H'):lY h R H' x:=
 let⟨dx,fs,dA,hA,fA,ht,h1,q1,q2,q3,h2,h3,h4,h5⟩:=r.ex
 ⟨dx,fs,dA,hA,fA,ht,e _ _ h1,q1,q2,q3,h2.mono e,h3.mono e,h4,h5.mono e⟩
theorem mJ.l{C:List (Nat×Nat)}{R:Addr}{H:Hp}{x cA dA hA fA nA gA:Addr}{ht:List (PI×Int)}{Ns:List (List PI3)}(r:mJ C R H x cA dA hA fA nA gA ht Ns):lY (Roof.halvesOf C) R H x:=
 let⟨dx,fs,h1,_,q2,q3,q4,_⟩:=r.ins
 ⟨dx,fs,dA,hA,fA,ht,h1,q2,q3,q4,r.GR.rd,r.C3.rd,r.hok,r.C7.rd⟩
noncomputable def sp_rt(K:W.Frag)(d:Adr):Sp:=fun vs H Q E=>∃(a:Addr)(ns:List Int),vs=[.ref a]/\SqL K H a (ns.map V.int)/\ns.length<=4096/\RM.inB ns/\(∀F,Roof.houseOf (RoofBNeutral.text ns)=some (RM.aO F)->Roof.isHouse (RM.aO F)=true->∀x cA dA hA fA nA gA ht Ns H',a9 H H'->mJ (RM.aO F) d.Roof H' x cA dA hA fA nA gA ht Ns->Q (.ref x) H')/\(Roof.houseOf (RoofBNeutral.text ns)=none->E (.ref d.c8) none H)
theorem ok_rt(F:Fun K "roof_told" "roof_told" s_rt f fd)(T:Txt K mg base d)(D_ht:aR P w K mg base CXf 6 "house_told" ["t"] (sp_ht K d)){fI:Addr}{fdI:FuncData}(mkRoof:Mk K d.Roof fI)(D_i:bM P w K mg base CX0 7 fI fdI ["self","cells"] (sp_i K d))(bInit:Binds K fdI ["self","cells"] []):bM P w K mg base CXf 9 f fd ["t"] (sp_rt K d):=by
 refine okX F sc_rt (fun vs H Q E h=>by obtain⟨a,ns,rfl,_⟩:=h;rfl) (fun cdv A outer s H vs Q E hr hok h=>?_);have hu:=bJ hr;obtain⟨a,ns,rfl,hS,hl,hB,k1,k2⟩:=h;refine⟨_,(aE (aP (IC mkRoof D_i (hm hr) rfl T.LB bInit .nil aY (a8 (aT D_ht (hm hr) (FN hok) rfl (a8 (pv 0) aC)) aC)))),?_⟩;refine⟨_,rfl,a,ns,rfl,hS,hl,hB,fun F hF hH cA H1 s1 fc hC=>?_,k2⟩;obtain⟨h256,hpin,hne⟩:=fD hH;refine fun x dx nx ndx nex=>?_
 have hxx:(upd (upd H1 dx (.own x)) x (.ins d.Roof dx [])) x=some (.ins d.Roof dx []):=a7;refine⟨x,dx,cA,RM.aO F,rfl,hxx,by unfold D2;rw[aA (aG hC nx),aA (aG hC ndx)];exact hC,fK F,fun c hc=>⟨(RM.gO.mp hc).1,(RM.gO.mp hc).2.1⟩,h256,hne,fun dA hA fA nA gA ht Ns H2 kp ra=>⟨rfl,k1 F hF hH x cA dA hA fA nA gA ht Ns H2 (a9.trans s1 (a9.made nx ndx kp)) ra⟩⟩
abbrev s_iab:Stmt:=(top 17)
theorem sc_iab:aL ["triangle","before","after","ends","i","j","side","end"] ["triangle","before","after"] (aI s_iab):=⟨rfl,rfl,rfl,by decide+kernel,rfl,by decide+kernel,by decide+kernel⟩
noncomputable def sp_iab(K:W.Frag)(d:Adr):Sp:=fun vs H Q _=>∃(v:V)(t:PI3)(x y:Addr)(h g:List Nat),vs=[v,.ref x,.ref y]/\T3 H v t/\lY h d.Roof H x/\lY g d.Roof H y/\0<=t.2.2/\t.2.2<4/\(t.1,t.2.1)∈h.map RM.hP/\(t.1,t.2.1)∈g.map RM.hP/\∀H',a9 H H'->Q (.bl (decide (RM.f7 h g t=0))) H'
theorem ok_iab(F:Fun K "is_as_before" "is_as_before" s_iab f fd)(T:Txt K mg base d)(D_se:aR P w K mg base CX0 3 "side_end" ["square","side"] (sp_se K d))(D_ss:aR P w K mg base CX0 2 "side_start" ["square","side"] (sp_ss K d)):bM P w K mg base CX0 4 f fd ["triangle","before","after"] (sp_iab K d):=by
 refine F.ok sc_iab (fun vs H Q E h=>by obtain⟨v,t,x,y,h,g,rfl,_⟩:=h;rfl) (fun cdv A outer s H vs Q E hr h=>?_);have hu:=bJ hr;obtain⟨v,t,x,y,h,g,rfl,⟨a,rfl,ha⟩,hx,hy,s0,s4,m1,m2,k⟩:=h;have en:t.2.2=((t.2.2.toNat:Nat):Int):=(Int.toNat_of_nonneg s0).symm;obtain⟨dx,fs,dA,hA,fA,ht,x1,x2,x3,x4,x5,x6,x7,x8⟩:=hx.ex;obtain⟨dy,gs,eA,iA,gA,gt,y1,y2,y3,y4,y5,y6,y7,y8⟩:=hy.ex;have k:∀H',a9 H H'->Q (.bl (decide (RM.dJ h (t.1,t.2.1)=RM.dJ g (t.1,t.2.1)/\RM.hgt h (RM.aF (t.1,t.2.1) t.2.2.toNat)=RM.hgt g (RM.aF (t.1,t.2.1) t.2.2.toNat)/\RM.hgt h (RM.aF (t.1,t.2.1) (t.2.2.toNat+1))=RM.hgt g (RM.aF (t.1,t.2.1) (t.2.2.toNat+1))))) H':=fun H' e=>by
  have z:=k H' e;unfold RM.f7 at z;rw[if_neg (not_not_intro m1),if_neg (not_not_intro m2)]at z;split at z
  ·rename_i c;rw[decide_eq_true c];exact z
  ·rename_i c;rw[decide_eq_false c];exact z
 refine⟨_,(aB (vR (pv 0) (m5 rfl (bP (aN (i:=4) sc_iab.nd rfl (Or.inl rfl)) (bP (aN (i:=5) sc_iab.nd rfl (Or.inl rfl)) (bP (aN (i:=6) sc_iab.nd rfl (Or.inl rfl)) j2)))))
   (aB (cE (bV FT (gU hu (fQ (pv 1) rfl) (dE (a8 (pv 4) (a8 (pv 5) aC))) (fun _ _=>rfl)) (gU hu (fQ (pv 2) rfl) (dE (a8 (pv 4) (a8 (pv 5) aC))) (fun _ _=>rfl)) (bZ _)) (aE (aP iK)) bC)
   (aB (aS (i:=3) sc_iab.nd rfl (Or.inl rfl) (fO (a8 (aT D_ss (hm hr) aY rfl (a8 (dE (a8 (pv 4) (a8 (pv 5) aC))) (a8 (pv 6) aC))) (a8 (aT D_se (hm hr) aY rfl (a8 (dE (a8 (pv 4) (a8 (pv 5) aC))) (a8 (pv 6) aC))) aC))))
   (aE (aP (bT (LN rfl) (by rfl) T.all (by rfl) (a8 (BO (own:=[("end",7)]) rfl sc_iab.nd (eO (pv 3)) (fL (by first|decide+kernel|kernel_rfl)) (fun _ _ _ _ _=>(aN (i:=7) sc_iab.nd rfl (Or.inl rfl))) (fun _ _ _ _ _=>qU) (fun _ _ _ _ _=>(qV jY (gU hu (BQ (K:=K) (pv 1) rfl rfl) (pv 7) (fun _ _=>rfl)) (gU hu (BQ (K:=K) (pv 2) rfl rfl) (pv 7) (fun _ _=>rfl)) (bZ _)))) aC))))))),?_⟩
 refine⟨_,rfl,a,_,rfl,SqT.of ha,rfl,_,_,rfl,_,_,rfl,_,_,rfl,rfl,?_⟩;refine⟨_,rfl,x,d.Roof,dx,fs,_,rfl,x1,T.c7,T.jZ,x2,_,rfl,_,rfl,(by show 2<=sizeLine;decide),fun b hb=>?_⟩;have s1:a9 H (upd H b (.tup [.int t.1,.int t.2.1])):=a9.upd hb;have hbb:(upd H b (.tup [.int t.1,.int t.2.1])) b=some (.tup [.int t.1,.int t.2.1]):=a7;generalize (upd H b (.tup [.int t.1,.int t.2.1]))=H1 at s1 hbb ⊢;have g1:=(x5.mono s1).get (p:=(t.1,t.2.1)) hbb;rw[fW,RM.uZ m1]at g1;refine⟨dA,_,rfl,g1,?_⟩;refine⟨_,rfl,y,d.Roof,dy,gs,_,rfl,s1 _ _ y1,T.c7,T.jZ,y2,_,rfl,_,rfl,(by show 2<=sizeLine;decide),fun b2 hb2=>?_⟩;have s2:a9 H (upd H1 b2 (.tup [.int t.1,.int t.2.1])):=a9.trans s1 (a9.upd hb2);have hbb2:(upd H1 b2 (.tup [.int t.1,.int t.2.1])) b2=some (.tup [.int t.1,.int t.2.1]):=a7;generalize (upd H1 b2 (.tup [.int t.1,.int t.2.1]))=H2 at s2 hbb2 ⊢;have g2:=(y5.mono s2).get (p:=(t.1,t.2.1)) hbb2;rw[fW,RM.uZ m2]at g2;refine⟨eA,_,rfl,g2,rfl,_,rfl,?_⟩;rw[wI];refine cG (fun c=>?_) (fun c=>?_)
 ·have z:=k H2 s2;rw[decide_eq_false (fun q=>by rw[q.1]at c;simp at c)]at z;exact z
 have c:RM.dJ h (t.1,t.2.1)=RM.dJ g (t.1,t.2.1):=by
  by_cases q:RM.dJ h (t.1,t.2.1)=RM.dJ g (t.1,t.2.1)
  ·exact q
  ·exact absurd (by simpa using q) c
 refine⟨_,rfl,_,rfl,(by show 2<=sizeLine;decide),fun b3 hb3=>?_⟩;have s3:a9 H (upd H2 b3 (.tup [.int t.1,.int t.2.1])):=a9.trans s2 (a9.upd hb3);have hbb3:(upd H2 b3 (.tup [.int t.1,.int t.2.1])) b3=some (.tup [.int t.1,.int t.2.1]):=a7;generalize (upd H2 b3 (.tup [.int t.1,.int t.2.1]))=H3 at s3 hbb3 ⊢;refine⟨_,rfl,.ref b3,(t.1,t.2.1),t.2.2.toNat,congrArg (fun z=>[V.ref b3,V.int z]) en,T2.c ⟨b3,rfl,hbb3⟩,by omega,fun n H4 s4' t4=>?_⟩;have s4:a9 H H4:=a9.trans s3 s4';obtain⟨na,rfl,hna⟩:=t4;refine⟨_,rfl,_,rfl,(by show 2<=sizeLine;decide),fun b5 hb5=>?_⟩;have s5':a9 H4 (upd H4 b5 (.tup [.int t.1,.int t.2.1])):=a9.upd hb5;have hbb5:(upd H4 b5 (.tup [.int t.1,.int t.2.1])) b5=some (.tup [.int t.1,.int t.2.1]):=a7;generalize (upd H4 b5 (.tup [.int t.1,.int t.2.1]))=H5 at s5' hbb5 ⊢;have s5:a9 H H5:=a9.trans s4 s5';refine⟨_,rfl,.ref b5,(t.1,t.2.1),t.2.2.toNat,congrArg (fun z=>[V.ref b5,V.int z]) en,T2.c ⟨b5,rfl,hbb5⟩,by omega,fun n H6 s6' t6=>?_⟩;have s6:a9 H H6:=a9.trans s5 s6';obtain⟨ma,rfl,hma⟩:=t6;have hna:H6 na=some (.tup [.int (RM.aF (t.1,t.2.1) t.2.2.toNat).1,.int (RM.aF (t.1,t.2.1) t.2.2.toNat).2]):=s6' _ _ (s5' _ _ hna);refine⟨(by show 2<=sizeLine;decide),fun L hL=>?_⟩;have s7:a9 H (upd H6 L (.lst [.ref na,.ref ma])):=a9.trans s6 (a9.upd hL);have hna:=a9.upd (o:=.lst [.ref na,.ref ma]) hL _ _ hna;have hma:=a9.upd (o:=.lst [.ref na,.ref ma]) hL _ _ hma;have hLL:(upd H6 L (.lst [.ref na,.ref ma])) L=some (.lst [.ref na,.ref ma]):=a7
 generalize (upd H6 L (.lst [.ref na,.ref ma]))=H7 at s7 hna hma hLL ⊢;have at1:∀(i:Nat)(v:V),([.ref na,.ref ma]:List V)[i]? =some v->∃(c:Addr)(n:Nat),v=.ref c/\n<5/\H7 c=some (.tup [.int (RM.aF (t.1,t.2.1) n).1,.int (RM.aF (t.1,t.2.1) n).2])/\
   ([decide (RM.hgt h (RM.aF (t.1,t.2.1) t.2.2.toNat)=RM.hgt g (RM.aF (t.1,t.2.1) t.2.2.toNat)),decide (RM.hgt h (RM.aF (t.1,t.2.1) (t.2.2.toNat+1))=RM.hgt g (RM.aF (t.1,t.2.1) (t.2.2.toNat+1)))]:List Bool)[i]? =some (decide (RM.hgt h (RM.aF (t.1,t.2.1) n)=RM.hgt g (RM.aF (t.1,t.2.1) n))):=by
  intro i v e;match i,e with
  |0,e=>cases e;exact⟨na,_,rfl,by omega,hna,rfl⟩
  |1,e=>cases e;exact⟨ma,_,rfl,by omega,hma,rfl⟩
  |n+2,e=>cases e
 refine⟨_,rfl,L,rfl,⟨_,SqL.of hLL⟩,fun D hD=>lG (K:=K) (a:=L) (xs:=[.ref na,.ref ma])
  (fun i H8=>a9 H7 H8/\H8 D=some (.lst ((([decide (RM.hgt h (RM.aF (t.1,t.2.1) t.2.2.toNat)=RM.hgt g (RM.aF (t.1,t.2.1) t.2.2.toNat)),decide (RM.hgt h (RM.aF (t.1,t.2.1) (t.2.2.toNat+1))=RM.hgt g (RM.aF (t.1,t.2.1) (t.2.2.toNat+1)))]:List Bool).take i).map V.bl))) ⟨a9.upd hD,a7⟩ (fun i H8 _ ⟨s8,_⟩=>s8.seq (SqL.of hLL)) ?_ ?_⟩
 ·rintro i v H8 hv ⟨s8,h8⟩;obtain⟨c,n,rfl,hn,hc,hbs⟩:=at1 i v hv;have sH:=a9.trans s7 s8;have g3:=(x6.mono sH).get (p:=RM.aF (t.1,t.2.1) n) (s8 _ _ hc);rw[fW,x7.at m1 hn]at g3;have g4:=(y6.mono sH).get (p:=RM.aF (t.1,t.2.1) n) (s8 _ _ hc);rw[fW,y7.at m2 hn]at g4;refine⟨rfl,_,rfl,x,d.Roof,dx,fs,_,rfl,sH _ _ x1,T.c7,T.lB,x3,_,rfl,hA,_,rfl,g3,_,rfl,y,d.Roof,dy,gs,_,rfl,sH _ _ y1,T.c7,T.lB,y3,_,rfl,iA,_,rfl,g4,rfl,_,h8,?_,a9.put s8 hD,?_⟩
  ·rw[List.length_map,List.length_take];exact few (m:=10) (by simp;omega)
  ·rw[a7,RM.take_snoc hbs];simp
 ·rintro H8 ⟨s8,h8⟩;refine⟨D,_,rfl,SqL.of h8,?_⟩;have z:=k H8 (a9.trans s7 s8);have e:∀{a b:Prop} [Decidable a] [Decidable b],([decide a,decide b]:List Bool).all id=decide (a/\b):=fun{a b} _ _=>by simp
  rw[(show∀{a b:Prop} [Decidable a] [Decidable b],a->decide (a/\b)=decide b from fun{a b} _ _ ha=>by simp[ha]) c]at z;show Q (.bl (([decide _,decide _]:List Bool).all id)) H8
  rw[e];exact z
abbrev s_lo2:Stmt:=(top 18)
theorem sc_lo2:aL ["triangle","before","after"] ["triangle","before","after"] (aI s_lo2):=⟨rfl,rfl,rfl,by decide+kernel,rfl,by decide+kernel,by decide+kernel⟩
noncomputable def sp_lo2(K:W.Frag)(d:Adr):Sp:=fun vs H Q _=>∃(v:V)(t:PI3)(x y:Addr)(h g:List Nat),vs=[v,.ref x,.ref y]/\T3 H v t/\lY h d.Roof H x/\lY g d.Roof H y/\0<=t.2.2/\t.2.2<4/\∀H',a9 H H'->Q (.int (RM.f7 h g t)) H'
theorem ok_lo2(F:Fun K "lot_of" "lot_of" s_lo2 f fd)(T:Txt K mg base d)(D_iab:aR P w K mg base CX0 4 "is_as_before" ["triangle","before","after"] (sp_iab K d)):bM P w K mg base CX0 5 f fd ["triangle","before","after"] (sp_lo2 K d):=by
 refine F.ok sc_lo2 (fun vs H Q E h=>by obtain⟨v,t,x,y,h,g,rfl,_⟩:=h;rfl) (fun cdv A outer s H vs Q E hr h=>?_);have hu:=bJ hr;obtain⟨v,t,x,y,h,g,rfl,⟨a,rfl,ha⟩,hx,hy,s0,s4,k⟩:=h;obtain⟨dx,fs,dA,hA,fA,ht,x1,x2,x3,x4,x5,x6,x7,x8⟩:=hx.ex;obtain⟨dy,gs,eA,iA,gA,gt,y1,y2,y3,y4,y5,y6,y7,y8⟩:=hy.ex;refine⟨_,(aB (cE (e9 (cH hu (pv 0) (fQ (pv 1) rfl))) (aE (aP (cJ T.Q9 rfl))) bC)
   (aB (cE (e9 (cH hu (pv 0) (fQ (pv 2) rfl))) (aE (aP (cJ T.LC rfl))) bC)
   (aB (cE (j0 (aT D_iab (hm hr) aY rfl (a8 (pv 0) (a8 (pv 1) (a8 (pv 2) aC)))) (fun _=>rfl)) (aE (aP (cJ T.J7 rfl))) bC)
   (aE (aP (cJ T.DV rfl)))))),?_⟩
 refine⟨_,rfl,_,rfl,x,d.Roof,dx,fs,_,rfl,x1,T.c7,T.gF,x4,fA,_,rfl,R3.get (p:=t) x8 ha,_,rfl,?_⟩;rw[zF];refine cG (fun c=>?_) (fun c=>?_)
 ·have c:(t.1,t.2.1)∉h.map RM.hP:=fun z=>by rw[(RM.nQ s0 s4).mpr z]at c;cases c
  have z:=k H (a9.refl _);unfold RM.f7 at z;rw[if_pos c]at z;exact z
 have m1:(t.1,t.2.1)∈h.map RM.hP:=(RM.nQ s0 s4).mp (by
  cases e:(RM.aK (RM.bR h) t).isSome with
  |true=>rfl
  |false=>rw[e]at c;exact absurd rfl c)
 refine⟨_,rfl,_,rfl,y,d.Roof,dy,gs,_,rfl,y1,T.c7,T.gF,y4,gA,_,rfl,R3.get (p:=t) y8 ha,_,rfl,?_⟩;rw[zF];refine cG (fun c=>?_) (fun c=>?_)
 ·have c:(t.1,t.2.1)∉g.map RM.hP:=fun z=>by rw[(RM.nQ s0 s4).mpr z]at c;cases c
  have z:=k H (a9.refl _);unfold RM.f7 at z;rw[if_neg (not_not_intro m1),if_pos c]at z;exact z
 have m2:(t.1,t.2.1)∈g.map RM.hP:=(RM.nQ s0 s4).mp (by
  cases e:(RM.aK (RM.bR g) t).isSome with
  |true=>rfl
  |false=>rw[e]at c;exact absurd rfl c)
 refine⟨_,rfl,_,rfl,_,rfl,.ref a,t,x,y,h,g,rfl,⟨a,rfl,ha⟩,hx,hy,s0,s4,m1,m2,fun H1 s1=>⟨_,rfl,?_⟩⟩;have z:=k H1 s1;refine cG (fun c=>?_) (fun c=>?_)
 ·rw[of_decide_eq_true c]at z;exact z
 ·have c:RM.f7 h g t≠0:=fun q=>c (decide_eq_true q)
  have e:RM.f7 h g t=1:=by
   unfold RM.f7 at c ⊢;rw[if_neg (not_not_intro m1),if_neg (not_not_intro m2)]at c ⊢;split
   ·rename_i q;rw[if_pos q]at c;exact absurd rfl c
   ·rfl
  rw[e]at z;exact z
abbrev s_cr:Stmt:=(top 19)
theorem sc_cr:aL ["before","after","triangles","counts","triangle"] ["before","after"] (aI s_cr):=⟨rfl,rfl,rfl,by decide+kernel,rfl,by decide+kernel,by decide+kernel⟩
theorem zQ{C:List (Nat×Nat)}(hb:∀c∈C,c.1<64/\c.2<64):∀kv∈kvF k3 (IV (RM.bR (Roof.halvesOf C))),kR kv.1:=by
 intro kv hkv;unfold kvF at hkv;obtain⟨x,hx,rfl⟩:=List.mem_map.mp hkv;have hk:x.1∈(IV (RM.bR (Roof.halvesOf C))).map (·.1):=List.mem_map.mpr ⟨x,hx,rfl⟩;rw[jH,RM.dO]at hk;obtain⟨t,ht,e⟩:=List.mem_map.mp hk;obtain⟨i,j,hi,hj,er⟩:=RM.cC hb _ (RM.cR.mp ht);refine⟨i,j,t%4,hi,hj,Nat.mod_lt _ (by decide),?_⟩;show k3 x.1=_
 rw[<- e];unfold RM.tP;rw[er,RM.vX hi,RM.vW hi];rfl
theorem vE{κ β:Type}[DecidableEq κ]:∀(ps l:List (κ×β))(p:κ),p∈(RM.bS l ps).map (·.1)↔p∈l.map (·.1)\/p∈ps.map (·.1)
 |[],l,p=>by simp[RM.bS]
 |x::r,l,p=>by
  show p∈(RM.bS (RM.dD l x.1 x.2) r).map (·.1)↔ _
  rw[vE r,RM.pN,List.map_cons,List.mem_cons];by_cases c:x.1∈l.map (·.1)
  ·rw[if_pos c];constructor
   ·rintro(h|h)
    ·exact .inl h
    ·exact .inr (.inr h)
   ·rintro(h|h|h)
    ·exact .inl h
    ·exact .inl (h▸c)
    ·exact .inr h
  ·rw[if_neg c,List.mem_append,List.mem_singleton,or_assoc]
noncomputable def qQ(f:PI3->Int)(L:List PI3):List Int:=[((L.countP fun p=>decide (f p=0):Nat):Int),((L.countP fun p=>decide (f p=1):Nat):Int),((L.countP fun p=>decide (f p=2):Nat):Int),((L.countP fun p=>decide (f p=3):Nat):Int)]
theorem DF(f:PI3->Int)(L:List PI3)(t:PI3):qQ f (L++[t])=[((L.countP fun p=>decide (f p=0):Nat):Int)+(if f t=0 then 1 else 0),((L.countP fun p=>decide (f p=1):Nat):Int)+(if f t=1 then 1 else 0),((L.countP fun p=>decide (f p=2):Nat):Int)+(if f t=2 then 1 else 0),((L.countP fun p=>decide (f p=3):Nat):Int)+(if f t=3 then 1 else 0)]:=by
 unfold qQ;simp only[List.countP_append,List.countP_cons,List.countP_nil,Nat.zero_add,decide_eq_true_eq];congr 1
 ·split<;>simp
 ·congr 1
  ·split<;>simp
  ·congr 1
   ·split<;>simp
   ·congr 1;split<;>simp
theorem G2(h g:List Nat)(t:PI3):RM.f7 h g t=0\/RM.f7 h g t=1\/RM.f7 h g t=2\/RM.f7 h g t=3:=by
 unfold RM.f7;split
 ·exact .inr (.inr (.inl rfl))
 ·split
  ·exact .inr (.inr (.inr rfl))
  ·split
   ·exact .inl rfl
   ·exact .inr (.inl rfl)
noncomputable def sp_cr(K:W.Frag)(d:Adr):Sp:=fun vs H Q _=>∃(x y:Addr)(C D:List (Nat×Nat)),vs=[.ref x,.ref y]/\lY (Roof.halvesOf C) d.Roof H x/\lY (Roof.halvesOf D) d.Roof H y/\(∀c∈C,c.1<64/\c.2<64)/\(∀c∈D,c.1<64/\c.2<64)/\(Roof.trianglesOf (Roof.halvesOf C)).length<=4096/\(Roof.trianglesOf (Roof.halvesOf D)).length<=4096/\(Roof.trianglesOf (Roof.halvesOf C))≠[]/\((Roof.trianglesOf (Roof.halvesOf C)).map RM.tP).Nodup/\∀r (Ks:List PI3) H',a9 H H'->H r=none->Ks.Nodup->(∀p,p∈Ks↔p∈(Roof.trianglesOf (Roof.halvesOf C)).map RM.tP\/p∈(Roof.trianglesOf (Roof.halvesOf D)).map RM.tP)->H' r=some (.lst (((List.range 4).map fun(k:Nat)=>((Ks.countP fun p=>decide (RM.f7 (Roof.halvesOf C) (Roof.halvesOf D) p=(k:Int)):Nat):Int)).map V.int))->Q (.ref r) H'
theorem ok_cr(F:Fun K "change_row" "change_row" s_cr f fd)(T:Txt K mg base d)(D_lo2:aR P w K mg base CX0 5 "lot_of" ["triangle","before","after"] (sp_lo2 K d)):bM P w K mg base CX0 6 f fd ["before","after"] (sp_cr K d):=by
 refine F.ok sc_cr (fun vs H Q E h=>by obtain⟨x,y,C,D,rfl,_⟩:=h;rfl) (fun cdv A outer s H vs Q E hr h=>?_);have hu:=bJ hr;obtain⟨x,y,C,D,rfl,rx,ry,hC,hD,lC,lD,nC,dC,k⟩:=h;obtain⟨dx,fs,dA,hA,fA,ht,x1,x2,x3,x4,x5,x6,x7,x8⟩:=rx.ex;obtain⟨dy,gs,eA,iA,gA,gt,y1,y2,y3,y4,y5,y6,y7,y8⟩:=ry.ex;have ln:∀E:List (Nat×Nat),(kvF k3 (IV (RM.bR (Roof.halvesOf E)))).length=(Roof.trianglesOf (Roof.halvesOf E)).length:=fun E=>by have:=congrArg List.length (RM.dO (Roof.halvesOf E));rw[List.length_map,List.length_map]at this;rw[eB,fB,this]
 have ne0:kvF k3 (IV (RM.bR (Roof.halvesOf C)))≠[]:=fun c=>nC (List.eq_nil_of_length_eq_zero (by rw[<- ln,c];rfl))
 refine⟨_,(aB (aS (i:=2) sc_cr.nd rfl (Or.inl rfl) (oV BB (by rfl) T.dict (by rfl) (a8 (fQ (pv 0) rfl) aC)))
   (aB (cZ (iJ PySem.F.plainAttrs_dict PySem.F.slot_dict_update PySem.F.type_dict_update (IP hu) (pv 2) (a8 (fQ (pv 1) rfl) aC)))
   (aB (aS (i:=3) sc_cr.nd rfl (Or.inl rfl) (fO (a8 aQ (a8 aQ (a8 aQ (a8 aQ aC))))))
   (aB (j1 (cF PassesOwn.never rfl (l9 (pv 2)) (aN (i:=4) sc_cr.nd rfl (Or.inl rfl)) (aE (HZ (pv 3) (aT D_lo2 (hm hr) aY rfl (a8 (pv 4) (a8 (pv 0) (a8 (pv 1) aC)))) GI aQ AO set_list))))
   (aE (aP (pv 3))))))),?_⟩
 refine⟨_,rfl,x,d.Roof,dx,fs,_,rfl,x1,T.c7,T.gF,x4,fA,_,rfl,x8,ne0,zQ hC,fun f hf=>?_⟩;have s1:a9 H (upd H f (.dT (kvF k3 (IV (RM.bR (Roof.halvesOf C)))))):=a9.upd hf;have nfg:f≠gA:=fun z=>by rcases y8 with q|⟨o,q⟩<;>(rw[<- z,hf]at q;cases q)
 refine⟨_,rfl,.inr (.inr (.inl ⟨rfl,.inr ⟨_,a7⟩⟩)),_,rfl,y,d.Roof,dy,gs,_,rfl,s1 _ _ y1,T.c7,T.gF,y4,f,gA,_,_,rfl,rfl,nfg,a7,y8.mono s1,ne0,by rw[ln,ln];exact Nat.le_of_lt (few (m:=9000) (by omega)),?_⟩;rw[HJ,rT (fun _ _=>AJ)];have nd:((RM.bS (IV (RM.bR (Roof.halvesOf C))) (IV (RM.bR (Roof.halvesOf D)))).map (·.1)).Nodup:=RM.kN _ _ (by rw[jH,RM.dO];exact dC);have mm:∀p,p∈(RM.bS (IV (RM.bR (Roof.halvesOf C))) (IV (RM.bR (Roof.halvesOf D)))).map (·.1)↔p∈(Roof.trianglesOf (Roof.halvesOf C)).map RM.tP\/p∈(Roof.trianglesOf (Roof.halvesOf D)).map RM.tP:=fun p=>by rw[vE,jH,jH,RM.dO,RM.dO]
 generalize RM.bS (IV (RM.bR (Roof.halvesOf C))) (IV (RM.bR (Roof.halvesOf D)))=Kt at nd mm ⊢;have s2:a9 H (upd H f (.dT (kvF k3 Kt))):=a9.upd hf;have hf1:(upd H f (.dT (kvF k3 Kt))) f=some (.dT (kvF k3 Kt)):=a7;generalize (upd H f (.dT (kvF k3 Kt)))=H1 at s2 hf1 ⊢;refine⟨by show 4<=sizeLine;decide,fun c hc=>?_⟩;have nfc:f≠c:=aG hf1 hc;have hcH:H c=none:=s2.free hc;refine⟨f,.dT (kvF k3 Kt),by rw[aA nfc];exact hf1,trivial,fun od=>⟨_,rfl,f,od,rfl,.inr ⟨_,a7,kC (d:=f) (od:=od) (kvs:=kvF k3 Kt)
  (fun i σ H2=>∃v4:Option V,σ=[some (.ref x),some (.ref y),some (.ref f),some (.ref c),v4]/\a9 H H2/\H2 f=some (.frz od (.dT (kvF k3 Kt)))/\H2 c=some (.lst ((qQ (RM.f7 (Roof.halvesOf C) (Roof.halvesOf D)) ((Kt.map (·.1)).take i)).map V.int)))
  ⟨none,rfl,a9.put (a9.put s2 hcH) hf,a7,by rw[aA nfc.symm,a7];rfl⟩ (fun i σ H2 ⟨_,_,_,q,_⟩=>q) ?_ ?_⟩⟩⟩
 ·rintro i kk vv q σ H2 hi hq ⟨v4,rfl,s3,hf2,hc2⟩;obtain⟨t,ht',rfl⟩:=AI hi;have hKi:(Kt.map (·.1))[i]? =some t:=by rw[List.getElem?_map,ht'];rfl
  have sd:0<=t.2.2/\t.2.2<4:=by rcases(mm t).mp (List.mem_of_getElem? hKi)with e|e<;>(obtain⟨n,_,rfl⟩:=List.mem_map.mp e;unfold RM.tP;dsimp only;omega)
  refine⟨_,rfl,_,rfl,_,rfl,_,rfl,.ref q,t,x,y,_,_,rfl,⟨q,rfl,hq⟩,rx.mono s3,ry.mono s3,sd.1,sd.2,fun H3 s4=>?_⟩;have hc3:=s4 _ _ hc2;have hf3:=s4 _ _ hf2;have fin:∀(u:List Int),u=qQ (RM.f7 (Roof.halvesOf C) (Roof.halvesOf D)) ((Kt.map (·.1)).take (i+1))->a9 H (upd H3 c (.lst (u.map V.int)))/\(upd H3 c (.lst (u.map V.int))) f=some (.frz od (.dT (kvF k3 Kt)))/\(upd H3 c (.lst (u.map V.int))) c=some (.lst ((qQ (RM.f7 (Roof.halvesOf C) (Roof.halvesOf D)) ((Kt.map (·.1)).take (i+1))).map V.int)):=by rintro u rfl;exact⟨a9.put (a9.trans s3 s4) hcH,by rw[aA nfc];exact hf3,a7⟩
  have sn:=DF (RM.f7 (Roof.halvesOf C) (Roof.halvesOf D)) ((Kt.map (·.1)).take i) t;rw[<- RM.take_snoc hKi]at sn;unfold qQ at hc3;generalize (((((Kt.map (·.1)).take i).countP fun p=>decide (RM.f7 (Roof.halvesOf C) (Roof.halvesOf D) p=0):Nat)):Int)=n0 at sn hc3;generalize (((((Kt.map (·.1)).take i).countP fun p=>decide (RM.f7 (Roof.halvesOf C) (Roof.halvesOf D) p=1):Nat)):Int)=n1 at sn hc3;generalize (((((Kt.map (·.1)).take i).countP fun p=>decide (RM.f7 (Roof.halvesOf C) (Roof.halvesOf D) p=2):Nat)):Int)=n2 at sn hc3;generalize (((((Kt.map (·.1)).take i).countP fun p=>decide (RM.f7 (Roof.halvesOf C) (Roof.halvesOf D) p=3):Nat)):Int)=n3 at sn hc3;rcases G2 (Roof.halvesOf C) (Roof.halvesOf D) t with e|e|e|e
  ·rw[e];obtain⟨z1,z2,z3⟩:=fin [n0+1,n1,n2,n3] (by rw[sn,e];simp);exact⟨c,_,0,_,rfl,rfl,SqL.of hc3,by decide,rfl,_,_,rfl,rfl,c,_,0,0,rfl,rfl,hc3,rfl,_,rfl,z1,z2,z3⟩
  ·rw[e];obtain⟨z1,z2,z3⟩:=fin [n0,n1+1,n2,n3] (by rw[sn,e];simp);exact⟨c,_,1,_,rfl,rfl,SqL.of hc3,by decide,rfl,_,_,rfl,rfl,c,_,1,1,rfl,rfl,hc3,rfl,_,rfl,z1,z2,z3⟩
  ·rw[e];obtain⟨z1,z2,z3⟩:=fin [n0,n1,n2+1,n3] (by rw[sn,e];simp);exact⟨c,_,2,_,rfl,rfl,SqL.of hc3,by decide,rfl,_,_,rfl,rfl,c,_,2,2,rfl,rfl,hc3,rfl,_,rfl,z1,z2,z3⟩
  ·rw[e];obtain⟨z1,z2,z3⟩:=fin [n0,n1,n2,n3+1] (by rw[sn,e];simp);exact⟨c,_,3,_,rfl,rfl,SqL.of hc3,by decide,rfl,_,_,rfl,rfl,c,_,3,3,rfl,rfl,hc3,rfl,_,rfl,z1,z2,z3⟩
 ·rintro σ H2 ⟨v4,rfl,s3,hf2,hc2⟩;rw[show(kvF k3 Kt).length=(Kt.map (·.1)).length by rw[eB,List.length_map],List.take_of_length_le (Nat.le_refl _)]at hc2;exact⟨hf2,_,rfl,k c (Kt.map (·.1)) _ (a9.put s3 hf) hcH nd mm (by rw[aA nfc.symm];exact hc2)⟩
abbrev uB:Stmt:=(top 26)
theorem KC:aL ["tell"] ["tell"] (aI uB):=⟨rfl,rfl,rfl,by decide+kernel,rfl,by decide+kernel,by decide+kernel⟩
noncomputable def hds(d:Adr):List HD:=[⟨"NoHouse",d.c8,1,⟨61,11,61,18⟩,⟨62,17,62,18⟩,⟨62,16,62,18⟩,⟨62,15,62,19⟩,⟨62,8,62,19⟩,⟨61,4,62,19⟩⟩,⟨"OutOfBounds",d.cB,3,⟨63,11,63,22⟩,⟨64,17,64,18⟩,⟨64,16,64,18⟩,⟨64,15,64,19⟩,⟨64,8,64,19⟩,⟨63,4,64,19⟩⟩,⟨"Outside",d.fF,5,⟨65,11,65,18⟩,⟨66,17,66,18⟩,⟨66,16,66,18⟩,⟨66,15,66,19⟩,⟨66,8,66,19⟩,⟨65,4,66,19⟩⟩,⟨"NoFace",d.iD,6,⟨67,11,67,17⟩,⟨68,17,68,18⟩,⟨68,16,68,18⟩,⟨68,15,68,19⟩,⟨68,8,68,19⟩,⟨67,4,68,19⟩⟩,⟨"NoSize",d.iC,7,⟨69,11,69,17⟩,⟨70,17,70,18⟩,⟨70,16,70,18⟩,⟨70,15,70,19⟩,⟨70,8,70,19⟩,⟨69,4,70,19⟩⟩]
theorem LQ(d:Adr):eV uB=[.Try [.Return (some (.Call (.Name "tell" ⟨60,15,60,19⟩) [] [] ⟨60,15,60,21⟩)) ⟨60,8,60,21⟩] ((hds d).map HD.h) [] [] ⟨59,4,70,19⟩]:=rfl
structure Ans(K:W.Frag)(mg:Str->Option Value)(base:Heap)(d:Adr)(fA:Addr)(fdA:FuncData):Prop where
 fn:Fun K "answer_or_refusal" "answer_or_refusal" uB fA fdA
 at_:mg "answer_or_refusal" =some (.ref fA)
 bind:Binds K fdA ["tell"] []
 iU:mg "NoHouse" =some (.ref d.c8)
 iG:gP base d.c8
 dZ:mg "OutOfBounds" =some (.ref d.cB)
 dU:gP base d.cB
 iT:mg "Outside" =some (.ref d.fF)
 iE:gP base d.fF
 kM:mg "NoFace" =some (.ref d.iD)
 jP:gP base d.iD
 kL:mg "NoSize" =some (.ref d.iC)
 jO:gP base d.iC
 ap:[d.c8,d.cB,d.fF,d.iD,d.iC].Nodup
 bm:LX mg base
theorem Ans.L7{K:W.Frag}{mg:Str->Option Value}{base:Heap}{d:Adr}{fA:Addr}{fdA:FuncData}(A:Ans K mg base d fA fdA):∀h∈hds d,mg h.x=some (.ref h.C)/\(aI uB).names.lookup h.x=some .globalImplicit/\gP base h.C/\(h.x==("__debug__" : Str))=false:=by
 intro h hh;rcases List.mem_cons.mp hh with rfl|hh
 ·exact⟨A.iU,rfl,A.iG,rfl⟩
 rcases List.mem_cons.mp hh with rfl|hh
 ·exact⟨A.dZ,rfl,A.dU,rfl⟩
 rcases List.mem_cons.mp hh with rfl|hh
 ·exact⟨A.iT,rfl,A.iE,rfl⟩
 rcases List.mem_cons.mp hh with rfl|hh
 ·exact⟨A.kM,rfl,A.jP,rfl⟩
 rcases List.mem_cons.mp hh with rfl|hh
 ·exact⟨A.kL,rfl,A.jO,rfl⟩
 exact(nomatch hh)
theorem Ans.sN{K:W.Frag}{mg:Str->Option Value}{base:Heap}{d:Adr}{fA:Addr}{fdA:FuncData}(A:Ans K mg base d fA fdA){H H0:Hp}{Q:VK}(h:∀p,H p=none->Q (.ref p) (upd H p (.lst [.int (-1)]))):XA (hds d) H Q (.ref d.c8) none H0:=by
 have nd:=A.ap;simp only[List.nodup_cons,List.mem_cons,List.not_mem_nil,or_false,not_or]at nd;refine⟨_,rfl,⟨_,List.mem_of_getElem? (i:=0) rfl,rfl⟩,fun e he hC p hp=>?_⟩;rcases List.mem_cons.mp he with rfl|he
 ·exact h p hp
 rcases List.mem_cons.mp he with rfl|he
 ·exact absurd hC (by intro z;simp_all)
 rcases List.mem_cons.mp he with rfl|he
 ·exact absurd hC (by intro z;simp_all)
 rcases List.mem_cons.mp he with rfl|he
 ·exact absurd hC (by intro z;simp_all)
 rcases List.mem_cons.mp he with rfl|he
 ·exact absurd hC (by intro z;simp_all)
 exact(nomatch he)
theorem F1{K:W.Frag}{H:Hp}{tb a:Addr}{xs:List V}{ps qs:Array Value}(h:SqL K H a xs)(ht:H tb=some (.tbl ps)):SqL K (hT H tb qs) a xs:=by
 rcases h with h|h
 ·left;have n:a≠tb:=fun z=>by rcases h with h|⟨o,h⟩<;>(rw[z,ht]at h;cases h)
  rcases h with h|⟨o,h⟩
  ·exact .inl (by unfold hT;rw[aA n];exact h)
  ·exact .inr ⟨o,by unfold hT;rw[aA n];exact h⟩
 ·exact .inr h
abbrev s_f:Stmt:=(top 75)
theorem sc_f:aL ["t","u"] ["t","u"] (aI s_f):=⟨rfl,rfl,rfl,by decide+kernel,rfl,by decide+kernel,by decide+kernel⟩
noncomputable def sp_f(K:W.Frag)(tb:Addr):Sp:=fun vs H Q _=>∃(rt:Addr)(nt:List Int)(ru:Addr)(nu:List Int),vs=[.ref rt,.ref ru]/\SqL K H rt (nt.map V.int)/\nt.length<=4096/\RM.inB nt/\SqL K H ru (nu.map V.int)/\nu.length<=4096/\RM.inB nu/\oB tb H/\
 ∀p H',H' p=some (.lst ((RoofBNeutral.f [[10],nt,nu]).map V.int))->Q (.ref p) H'
noncomputable def HL(K:W.Frag)(d:Adr):XK->Hp->TE:=fun E H=>(wY (sp_cr K d) [] E0 (wX (wY (sp_rt K d) [] (fun c _ _=>E c none H) (wX (HM 0) HQ)) (wX (wY (sp_rt K d) [] (fun c _ _=>E c none H) (wX (HM 1) HQ)) HQ)))
theorem ok_f{P:Program}{w:World}{K:W.Frag}{mg:Str->Option Value}{base:Heap}{d:Adr}{f fA c tb:Addr}{fd fdA:FuncData}(F:Fun K "change" "change" s_f f fd)(T:Txt K mg base d)(AN:Ans K mg base d fA fdA)(hfc:fd.code=.ref c)(hC:W.CodeHd base c tb)(D_cr:aR P w K mg base CX0 6 "change_row" ["before","after"] (sp_cr K d))(D_rt:aR P w K mg base CXf 9 "roof_told" ["t"] (sp_rt K d)):bM P w K mg base CXf 12 f fd ["t","u"] (sp_f K tb):=by
 obtain⟨oc,od,kV,doc,pm,an,cdv,ct,osl,rfl,lk,hcd⟩:=F.ex;obtain⟨oc2,od2,kV2,doc2,pm2,an2,cdv2,ct2,osl2,e2,lk2,hcd2⟩:=AN.fn.ex;obtain rfl:cdv=.ref c:=hfc;subst e2;refine GK lk hcd sc_f (fun vs H Q E h=>by obtain⟨rt,nt,ru,nu,rfl,_⟩:=h;rfl) (fun A outer s H vs Q E hr hok h=>?_);obtain⟨rt,nt,ru,nu,rfl,hSt,hlt,hBt,hSu,hlu,hBu,⟨hE1,hE2⟩,k⟩:=h;refine⟨_,aE (aP (KO (k:=9) (teL:=HL K d) (T:=tb) AN.at_ lk2 hcd2 AN.fn.kp AN.bind KC rfl (LQ d) rfl AN.L7 rfl (by decide) hr (fun _=>rfl) rfl hC AN.bm rfl (fun _ _ _ _=>rfl) rfl rfl rfl (by decide+kernel) (fun y hy=>absurd rfl ((by decide+kernel:∀z∈ _,z.2≠NameKind.local) _ (PySem.mem_of_lookup hy))) (fun y hy he=>(by decide+kernel:∀z:Str×NameKind,z∈(_:List (Str×NameKind))->z.2=NameKind.free->(aI s_f).names.lookup z.1=some NameKind.cell) y hy he)
  (fun fl c' cl A outer s H E hr hok=>(aT D_cr (hm hr) aY rfl (a8 (aT D_rt hr (JV hok) rfl (a8 (pv 0) aC)) (a8 (aT D_rt hr (JV hok) rfl (a8 (pv 1) aC)) aC)))))),?_⟩
 refine⟨[.ref rt,.ref ru],#[],rfl,hE1,trivial,rfl,oB.flat hE2,fun more=>?_⟩;have hTb:hT H tb (#[]++more) tb≠none:=by unfold hT;rw[a7];intro z;cases z
 have hQ:∀(r:List Int)(H1:Hp)(p:Addr),RoofBNeutral.f [[10],nt,nu]=r->p≠tb->H1 p=some (.lst (r.map V.int))->Q (.ref p) (upd H1 tb (.tbl (#[]++more))):=fun r H1 p e n q=>k p _ (by rw[aA n,e];exact q)
 have hX:∀r:Int,RoofBNeutral.f [[10],nt,nu]=[r]->∀p,hT H tb (#[]++more) p=none->upd (hT H tb (#[]++more)) p (.lst [.int r]) tb=some (.frz (W.tabObj (#[]++more)) (.tbl (#[]++more)))->Q (.ref p) (upd (upd (hT H tb (#[]++more)) p (.lst [.int r])) tb (.tbl (#[]++more))):=fun r e p hp _=>
  hQ [r] _ p e (fun z=>hTb (z▸hp)) a7
 have hT0:hT H tb (#[]++more) tb=some (.frz (W.tabObj (#[]++more)) (.tbl (#[]++more))):=by unfold hT;rw[a7]
 have hb:∀F,∀c∈RM.aO F,c.1<64/\c.2<64:=fun F c hc=>⟨(RM.gO.mp hc).1,(RM.gO.mp hc).2.1⟩
 have lt:∀l:Roof.Cells,l.length<=256->(Roof.trianglesOf (Roof.halvesOf l)).length<=4096:=fun l h=>by have:=RM.iX ((Roof.halvesOf l).map RM.hP);rw[RM.jT,List.length_map,List.length_map,RM.fE]at this;omega
 refine⟨_,rfl,rt,nt,rfl,F1 hSt hE1,hlt,hBt,fun F hF hH x cA dA hA fA nA gA ht Ns H1 s1 ra=>?_,fun c=>AN.sN (hX _ (RM.sW c))⟩;refine⟨_,rfl,ru,nu,rfl,s1.seq (F1 hSu hE1),hlu,hBu,fun G hG hH2 y cA2 dA2 hA2 fA2 nA2 gA2 ht2 Ns2 H2 s2 rb=>?_,fun c=>AN.sN (hX _ (RM.qS hF c))⟩;obtain⟨h256,_,hne⟩:=fD hH;obtain⟨g256,_,_⟩:=fD hH2;have ln:=RM.fE (RM.aO F);have l0:0<(RM.aO F).length:=List.length_pos_iff.mpr hne;have nT:Roof.trianglesOf (Roof.halvesOf (RM.aO F))≠[]:=fun c=>by
  cases e:Roof.halvesOf (RM.aO F)with
  |nil=>rw[e]at ln;simp at ln;omega
  |cons r l=>rw[e]at c;cases c
 have dT:((Roof.trianglesOf (Roof.halvesOf (RM.aO F))).map RM.tP).Nodup:=RM.cT (RM.gR ((RM.cX (fK F) (hb F)).imp fun{a b} h=>by omega)) fun a ha b hb' e=>RM.EZ (RM.cC (hb F)) ha hb' e
 exact⟨x,y,_,_,rfl,(ra.mono s2).l,rb.l,hb F,hb G,lt _ h256,lt _ g256,nT,dT,fun r Ks H3 s3 hr3 nd mm rows=>fun _=>hQ _ H3 r (RM.z9 hF hG (fK F) (fK G) (hb F) (hb G) nd mm) (fun z=>by rw[z,s2 _ _ (s1 _ _ hT0)]at hr3;cases hr3) rows⟩
theorem HC{P:Program}{w:World}{K:W.Frag}{mg:Str->Option Value}{base:Heap}{d:Adr}(M:Mod K mg base)(T:Txt K mg base d){fI:Addr}{fdI:FuncData}(mkRoof:Mk K d.Roof fI)(F_init:Fun K "__init__" "Roof.__init__" s_i fI fdI)
  (D_m:aH K "moved" s_m)
  (D_ss:aH K "side_start" s_ss)
  (D_lo:aH K "left_of" s_lo)
  (D_se:aH K "side_end" s_se)
  (D_iab:aH K "is_as_before" s_iab)
  (D_lo2:aH K "lot_of" s_lo2)
  (D_cr:aH K "change_row" s_cr)
  (D_br:aH K "by_row" s_br)
  (D_hco:aH K "half_cells_of" s_hco)
  (D_id:aH K "is_deeper" s_id)
  (D_do:aH K "depths_of" s_do)
  (D_ho:aH K "height_over" s_ho)
  (D_ho2:aH K "heights_of" s_ho2)
  (D_ro:aH K "right_of" s_ro)
  (D_o:aH K "opposite" s_o)
  (D_fo2:aH K "facing_of" s_fo2)
  (D_fo3:aH K "facings_of" s_fo3)
  (D_tol:aH K "triangle_on_left" s_tol)
  (D_tor:aH K "triangle_on_right" s_tor)
  (D_b:aH K "beyond" s_b)
  (D_ta:aH K "triangle_across" s_ta)
  (D_nf:aH K "number_face" s_nf)
  (D_no:aH K "numbers_of" s_no)
  (D_fo:aH K "faces_of" s_fo)
  (D_pb:aH K "parts_between" s_pb)
  (D_dt:aH K "digit_told" s_dt)
  (D_nt:aH K "number_told" s_nt)
  (D_ct:aH K "corner_told" s_ct)
  (D_wt:aH K "walk_told" s_wt)
  (D_wt2:aH K "walks_told" s_wt2)
  (D_far:aH K "feet_across_rows" s_far)
  (D_cw:aH K "cells_within" s_cw)
  (D_haw:aH K "headings_along_walls" s_haw)
  (D_wf:aH K "walk_from" s_wf)
  (D_wr:aH K "walks_round" s_wr)
  (D_miap:aH K "meets_in_a_point" s_miap)
  (D_ij:aH K "is_joined" s_ij)
  (D_ih:aH K "is_house" s_ih)
  (D_ht:aH K "house_told" s_ht)
  (D_rt:aH K "roof_told" s_rt)
  : aR P w K mg base CX0 6 "change_row" ["before","after"] (sp_cr K d)/\aR P w K mg base CXf 9 "roof_told" ["t"] (sp_rt K d):=by
 have E_m:=D_m.ok M (fun _ _ F=>ok_m F T (P:=P) (w:=w)) fun|_,_,_,_,_,_,[_,_],_=>rfl
 have E_ss:=D_ss.ok M (fun _ _ F=>ok_ss F T E_m) fun|_,_,_,_,_,_,[_,_],_=>rfl
 have E_lo:=D_lo.ok M (fun _ _ F=>ok_lo F T (P:=P) (w:=w)) fun|_,_,_,_,_,_,[_],_=>rfl
 have E_se:=D_se.ok M (fun _ _ F=>ok_se F T E_ss E_lo) fun|_,_,_,_,_,_,[_,_],_=>rfl
 have E_iab:=D_iab.ok M (fun _ _ F=>ok_iab F T E_se E_ss) fun|_,_,_,_,_,_,[_,_,_],_=>rfl
 have E_lo2:=D_lo2.ok M (fun _ _ F=>ok_lo2 F T E_iab) fun|_,_,_,_,_,_,[_,_,_],_=>rfl
 have E_cr:=D_cr.ok M (fun _ _ F=>ok_cr F T E_lo2) fun|_,_,_,_,_,_,[_,_],_=>rfl
 have E_br:=D_br.ok M (fun _ _ F=>ok_br F T (P:=P) (w:=w)) fun|_,_,_,_,_,_,[_],_=>rfl
 have E_hco:=D_hco.ok M (fun _ _ F=>ok_hco F T E_m E_br) fun|_,_,_,_,_,_,[_],_=>rfl
 have E_id:=D_id.ok M (fun _ _ F=>ok_id F T E_m) fun|_,_,_,_,_,_,[_,_],_=>rfl
 have E_do:=D_do.ok M (fun _ _ F=>ok_do F T E_hco E_id) fun|_,_,_,_,_,_,[_],_=>rfl
 have E_ho:=D_ho.ok M (fun _ _ F=>ok_ho F T E_m) fun|_,_,_,_,_,_,[_,_],_=>rfl
 have E_ho2:=D_ho2.ok M (fun _ _ F=>ok_ho2 F T E_ss E_ho) fun|_,_,_,_,_,_,[_],_=>rfl
 have E_ro:=D_ro.ok M (fun _ _ F=>ok_ro F T (P:=P) (w:=w)) fun|_,_,_,_,_,_,[_],_=>rfl
 have E_o:=D_o.ok M (fun _ _ F=>ok_o F T (P:=P) (w:=w)) fun|_,_,_,_,_,_,[_],_=>rfl
 have E_fo2:=D_fo2.ok M (fun _ _ F=>ok_fo2 F T E_ss E_se E_lo E_ro E_o) fun|_,_,_,_,_,_,[_,_,_,_],_=>rfl
 have E_fo3:=D_fo3.ok M (fun _ _ F=>ok_fo3 F T E_fo2) fun|_,_,_,_,_,_,[_,_],_=>rfl
 have E_tol:=D_tol.ok M (fun _ _ F=>ok_tol F T E_lo) fun|_,_,_,_,_,_,[_],_=>rfl
 have E_tor:=D_tor.ok M (fun _ _ F=>ok_tor F T E_ro) fun|_,_,_,_,_,_,[_],_=>rfl
 have E_b:=D_b.ok M (fun _ _ F=>ok_b F T E_m) fun|_,_,_,_,_,_,[_,_],_=>rfl
 have E_ta:=D_ta.ok M (fun _ _ F=>ok_ta F T E_b E_o) fun|_,_,_,_,_,_,[_],_=>rfl
 have E_nf:=D_nf.ok M (fun _ _ F=>ok_nf F T E_tol E_tor E_ta) fun|_,_,_,_,_,_,[_,_,_,_],_=>rfl
 have E_no:=D_no.ok M (fun _ _ F=>ok_no F T E_nf) fun|_,_,_,_,_,_,[_],_=>rfl
 have E_fo:=D_fo.ok M (fun _ _ F=>ok_fo F T (P:=P) (w:=w)) fun|_,_,_,_,_,_,[_],_=>rfl
 have b_init:Binds K fdI ["self","cells"] []:=F_init.binds fun _ _ _ _ _ _ us hl=>match us,hl with|[_,_],_=>rfl
 have E_i:bM P w K mg base CX0 7 fI fdI ["self","cells"] (sp_i K d):=ok_i F_init T E_do E_ho2 E_fo3 E_no E_fo;have E_pb:=D_pb.ok M (fun _ _ F=>ok_pb F T (P:=P) (w:=w)) fun|_,_,_,_,_,_,[_,_],_=>rfl
 have E_dt:=D_dt.ok M (fun _ _ F=>ok_dt F T (P:=P) (w:=w)) fun|_,_,_,_,_,_,[_],_=>rfl
 have E_nt:=D_nt.ok M (fun _ _ F=>ok_nt F T E_dt) fun|_,_,_,_,_,_,[_],_=>rfl
 have E_ct:=D_ct.ok M (fun _ _ F=>ok_ct F T E_pb E_nt) fun|_,_,_,_,_,_,[_],_=>rfl
 have E_wt:=D_wt.ok M (fun _ _ F=>ok_wt F T E_pb E_ct) fun|_,_,_,_,_,_,[_],_=>rfl
 have E_wt2:=D_wt2.ok M (fun _ _ F=>ok_wt2 F T E_pb E_wt) fun|_,_,_,_,_,_,[_],_=>rfl
 have E_far:=D_far.ok M (fun _ _ F=>ok_far F T (P:=P) (w:=w)) fun|_,_,_,_,_,_,[_],_=>rfl
 have E_cw:=D_cw.ok M (fun _ _ F=>ok_cw F T E_far) fun|_,_,_,_,_,_,[_],_=>rfl
 have E_haw:=D_haw.ok M (fun _ _ F=>ok_haw F T E_b E_ss E_lo) fun|_,_,_,_,_,_,[_],_=>rfl
 have E_wf:=D_wf.ok M (fun _ _ F=>ok_wf F T E_b) fun|_,_,_,_,_,_,[_,_,_],_=>rfl
 have E_wr:=D_wr.ok M (fun _ _ F=>ok_wr F T E_haw E_br E_wf) fun|_,_,_,_,_,_,[_],_=>rfl
 have E_miap:=D_miap.ok M (fun _ _ F=>ok_miap F T E_b E_lo) fun|_,_,_,_,_,_,[_,_],_=>rfl
 have E_ij:=D_ij.ok M (fun _ _ F=>ok_ij F T E_b) fun|_,_,_,_,_,_,[_],_=>rfl
 have E_ih:=D_ih.ok M (fun _ _ F=>ok_ih F T E_miap E_ij) fun|_,_,_,_,_,_,[_],_=>rfl
 have E_ht:=D_ht.ok M (fun _ _ F=>ok_ht F T E_wt2 E_cw E_wr E_ih) fun|_,_,_,_,_,_,[_],_=>rfl
 have E_rt:=D_rt.ok M (fun _ _ F=>ok_rt F T E_ht mkRoof E_i b_init) fun|_,_,_,_,_,_,[_],_=>rfl
 exact⟨E_cr,E_rt⟩
abbrev rwL:W.OpenSpec:=PySem.Challenge.rw_rooftold_s10_change
theorem MF:rwL.wellSaid=true:=by decide+kernel
theorem EG{args:List W.WData}(h:rwL.pre args=true):∃(nt:List Int)(nu:List Int),nt.length<=4096/\RM.inB nt/\nu.length<=4096/\RM.inB nu/\args=[.list (nt.map W.WData.int),.list (nu.map W.WData.int)]/\
  ∀ds,rwL.claim.post args (.list ((RoofBNeutral.f [[10],nt,nu]).map W.WData.int)) ds=true:=by
 obtain⟨a,h1,h2,rfl⟩:=(W.OpenSpec.pre_iff MF args).mp h;clear h2 h;have key:∀a:List Int×List Int×Unit,W.Codec.withinAll rwL.args a=true->∃(nt:List Int)(nu:List Int),nt.length<=4096/\RM.inB nt/\nu.length<=4096/\RM.inB nu/\W.Codec.encAll rwL.args a=[.list (nt.map W.WData.int),.list (nu.map W.WData.int)]/\
   ∀ds,rwL.claim.post (W.Codec.encAll rwL.args a) (.list ((RoofBNeutral.f [[10],nt,nu]).map W.WData.int)) ds=true:=by
  rintro⟨nt,nu,u'⟩ h1;have w1:((W.Codec.inNat 0 4096 nt.length&& nt.all (W.Codec.inInt 0 255))&& ((W.Codec.inNat 0 4096 nu.length&& nu.all (W.Codec.inInt 0 255))&& true))=true:=h1;simp only[Bool.and_eq_true,W.Codec.inInt_iff,W.Codec.inNat_iff,List.all_eq_true]at w1;exact⟨nt,nu,w1.1.1.2,fun x hx=>w1.1.2 x hx,w1.2.1.1.2,fun x hx=>w1.2.1.2 x hx,rfl,fun ds=>(W.OpenSpec.post_iff MF h1 _ ds).mpr rfl⟩
 exact key a h1
theorem CK{K:W.Frag}{w:World}{s1:Shared}{mg mb:Str->Option Value}{q:Program}{loose:List Str}{mean mn:ExcName->Option Value}{cl:Str->Option Addr}{fa f fA fI c tb:Addr}{fd fdA fdI:FuncData}{args:List W.WData}{vals:List Value}{d:Adr}{dr:DefRec}
  (KX:K.In s1.heap) (T:PyProof.Rows.Top q loose mean mg mb s1.heap) (hg:s1.gens=#[]) (hmg:mg "change" =some (.ref fa)) (hpre:rwL.pre args=true) (hwl:W.WellAll w.params s1.heap vals args)
  (TX:∀{mb2:Str->Option Value}{base:Heap},Mod K mg base->W.TopRead q loose mg mb2 base->Txt K mg base d) (mkRoof:Mk K d.Roof fI) (F_init:Fun K "__init__" "Roof.__init__" s_i fI fdI)
  (D_m:aH K "moved" s_m)
  (D_ss:aH K "side_start" s_ss)
  (D_lo:aH K "left_of" s_lo)
  (D_se:aH K "side_end" s_se)
  (D_iab:aH K "is_as_before" s_iab)
  (D_lo2:aH K "lot_of" s_lo2)
  (D_cr:aH K "change_row" s_cr)
  (D_br:aH K "by_row" s_br)
  (D_hco:aH K "half_cells_of" s_hco)
  (D_id:aH K "is_deeper" s_id)
  (D_do:aH K "depths_of" s_do)
  (D_ho:aH K "height_over" s_ho)
  (D_ho2:aH K "heights_of" s_ho2)
  (D_ro:aH K "right_of" s_ro)
  (D_o:aH K "opposite" s_o)
  (D_fo2:aH K "facing_of" s_fo2)
  (D_fo3:aH K "facings_of" s_fo3)
  (D_tol:aH K "triangle_on_left" s_tol)
  (D_tor:aH K "triangle_on_right" s_tor)
  (D_b:aH K "beyond" s_b)
  (D_ta:aH K "triangle_across" s_ta)
  (D_nf:aH K "number_face" s_nf)
  (D_no:aH K "numbers_of" s_no)
  (D_fo:aH K "faces_of" s_fo)
  (D_pb:aH K "parts_between" s_pb)
  (D_dt:aH K "digit_told" s_dt)
  (D_nt:aH K "number_told" s_nt)
  (D_ct:aH K "corner_told" s_ct)
  (D_wt:aH K "walk_told" s_wt)
  (D_wt2:aH K "walks_told" s_wt2)
  (D_far:aH K "feet_across_rows" s_far)
  (D_cw:aH K "cells_within" s_cw)
  (D_haw:aH K "headings_along_walls" s_haw)
  (D_wf:aH K "walk_from" s_wf)
  (D_wr:aH K "walks_round" s_wr)
  (D_miap:aH K "meets_in_a_point" s_miap)
  (D_ij:aH K "is_joined" s_ij)
  (D_ih:aH K "is_house" s_ih)
  (D_ht:aH K "house_told" s_ht)
  (D_rt:aH K "roof_told" s_rt)
  (n_face:W.nsIn K mainGlobals "change" =some (some (.ref f))) (F_face:Fun K "change" "change" s_f f fd) (hfc:fd.code=.ref c) (htab:W.tabIn K "change" =some (c,tb)) (hrec:(PyProof.Rows.recsOf q).find? (fun e=>e.name==("change" : Str))=some dr) (hKt:K.lookup tb=none)
  (n_ans:W.nsIn K mainGlobals "answer_or_refusal" =some (some (.ref fA))) (F_ans:Fun K "answer_or_refusal" "answer_or_refusal" uB fA fdA)
  (iU:W.nsIn K mainGlobals "NoHouse" =some (some (.ref d.c8))) (iG:∀{h:Heap},K.In h->gP h d.c8)
  (dZ:W.nsIn K mainGlobals "OutOfBounds" =some (some (.ref d.cB))) (dU:∀{h:Heap},K.In h->gP h d.cB)
  (iT:W.nsIn K mainGlobals "Outside" =some (some (.ref d.fF))) (iE:∀{h:Heap},K.In h->gP h d.fF)
  (kM:W.nsIn K mainGlobals "NoFace" =some (some (.ref d.iD))) (jP:∀{h:Heap},K.In h->gP h d.iD)
  (kL:W.nsIn K mainGlobals "NoSize" =some (some (.ref d.iC))) (jO:∀{h:Heap},K.In h->gP h d.iC)
  (ap:[d.c8,d.cB,d.fF,d.iD,d.iC].Nodup):
  wpAny (model rwL.prog w) callerA (call (.ref fa) vals) (fun v s'=>W.GoodWG rwL.claim cl mn args s1 (.ok (.ret v)) s') (fun e s'=>W.GoodWG rwL.claim cl mn args s1 (.error e) s') s1:=by
 obtain⟨nt,nu,hlt,hBt,hlu,hBu,rfl,hpost⟩:=EG hpre;have e:=hmg.symm.trans (W.mg_of KX T.g n_face);cases e;obtain⟨hC,ht⟩:=W.tab_of (x:= "change") T KX hrec htab;obtain⟨rt,ut,ru,uu,rfl,hOt,hIt,hOu,hIu⟩:∃rt ut ru uu,vals=[.ref rt,.ref ru]/\s1.heap.get? rt=some (DC ut)/\PyProof.Rows.IntsAre ut nt/\s1.heap.get? ru=some (DC uu)/\PyProof.Rows.IntsAre uu nu:=by
  cases hwl with
  |cons ht hwl=>
   cases hwl with
   |cons hu hwl=>
    cases hwl;cases ht with
    |list hot hwt=>
     cases hu with
     |list hou hwu=>exact⟨_,_,_,_,rfl,hot,oE hwt,hou,oE hwu⟩
 refine wpAny_call (codeAny_mono (DK (P:=rwL.prog) (w:=w) (K:=K) (k:=12) (tb:=tb) (fd:=fd) (ps:=["t","u"]) (sp:=sp_f K tb) (LA:=[(rt,ut,nt),(ru,uu,nu)]) (vs:=[.ref rt,.ref ru]) (R:=fun r=>r=RoofBNeutral.f [[10],nt,nu])
  KX T.g T.b T.builtins T.nolimit hg ?_ ht (EA hC) hKt ⟨rfl,by decide,by decide⟩ (.cons rfl (.cons rfl .nil)) ?_ ?_ ?_) fun r s' h=>?_)
 ·intro p hp;rcases List.mem_cons.mp hp with rfl|hp
  ·exact⟨hOt,hIt,Nat.le_trans hlt (by decide)⟩
  rcases List.mem_cons.mp hp with rfl|hp
  ·exact⟨hOu,hIu,Nat.le_trans hlu (by decide)⟩
  exact(nomatch hp)
 ·intro base M kp;obtain⟨mb2,hb1,hb2⟩:=M.blt;have TR:W.TopRead q loose mg mb2 base:=⟨M.glob,hb1,M.nolimit,hb2,T.free⟩;have TX0:=TX M TR;have AN:Ans K mg base d fA fdA:=⟨F_ans,W.mg_of M.kin M.glob n_ans,F_ans.binds (fun _ _ _ _ _ _ us hl=>match us,hl with|[_],_=>rfl),W.mg_of M.kin M.glob iU,iG M.kin,W.mg_of M.kin M.glob dZ,dU M.kin,W.mg_of M.kin M.glob iT,iE M.kin,W.mg_of M.kin M.glob kM,jP M.kin,W.mg_of M.kin M.glob kL,jO M.kin,ap,JI T ht kp⟩;obtain⟨E_cr,E_rt⟩:=HC (P:=rwL.prog) (w:=w) M TX0 mkRoof F_init D_m D_ss D_lo D_se D_iab D_lo2 D_cr D_br D_hco D_id D_do D_ho D_ho2 D_ro D_o D_fo2 D_fo3 D_tol D_tor D_b D_ta D_nf D_no D_fo D_pb D_dt D_nt D_ct D_wt D_wt2 D_far D_cw D_haw D_wf D_wr D_miap D_ij D_ih D_ht D_rt;exact ok_f F_face TX0 AN hfc (z7 hC kp) E_cr E_rt
 ·exact F_face.binds (ps:=["t","u"]) (fun _ _ _ _ _ _ us hl=>match us,hl with|[_,_],_=>rfl) s1 _ KX rfl
 ·intro H hA hS;exact⟨rt,nt,ru,nu,rfl,hS (rt,ut,nt) (List.mem_cons_self),hlt,hBt,hS (ru,uu,nu) (List.mem_cons_of_mem _ List.mem_cons_self),hlu,hBu,hA,fun p H' hp=>⟨p,_,rfl,hp,rfl⟩⟩
 ·obtain⟨⟨p,its,n,ms,rfl,hget,pr,rfl⟩,h2,h3,h4⟩:=h;exact⟨.inl ⟨.ref p,.list ((RoofBNeutral.f [[10],nt,nu]).map W.WData.int),_,rfl,fun _=>rfl,.list hget rfl rfl (by simpa using rP pr),hpost _,fun z=>(nomatch z)⟩,h2,h3,h4⟩
structure Facts(K:W.Frag)(d:Adr)(fI:Addr)(fdI:FuncData):Prop where
 txt:∀{p:Program}{loose:List Str}{mg mb:Str->Option Value}{base:Heap},Mod K mg base->W.TopRead p loose mg mb base->Txt K mg base d
 mkR:Mk K d.Roof fI
 init:Fun K "__init__" "Roof.__init__" s_i fI fdI
 iU:W.nsIn K mainGlobals "NoHouse" =some (some (.ref d.c8))
 iG:∀{h:Heap},K.In h->gP h d.c8
 dZ:W.nsIn K mainGlobals "OutOfBounds" =some (some (.ref d.cB))
 dU:∀{h:Heap},K.In h->gP h d.cB
 iT:W.nsIn K mainGlobals "Outside" =some (some (.ref d.fF))
 iE:∀{h:Heap},K.In h->gP h d.fF
 kM:W.nsIn K mainGlobals "NoFace" =some (some (.ref d.iD))
 jP:∀{h:Heap},K.In h->gP h d.iD
 kL:W.nsIn K mainGlobals "NoSize" =some (some (.ref d.iC))
 jO:∀{h:Heap},K.In h->gP h d.iC
 ap:[d.c8,d.cB,d.fF,d.iD,d.iC].Nodup
theorem GN{K:W.Frag}{aNoHouse aOutOfBounds aOutside aNoFace aNoSize aRoof rALL_SIDES rSTEPS rSIDE_STARTS rQUARTERS rHALVES_ABOUT rHALVES_AT_A_POINT fI:Addr}{tLINE_FEED tBLANK tCOMMA tDIGIT_ZERO tDIGIT_NINE tGREATEST_NUMBER tMOST_DIGITS tFEWEST_CORNERS tCELLS_IN_A_ROW tMOST_CELLS tSTAYS tCHANGED tNEW tGONE:Tok}
  {nm0 q0 nm1 q1 nm2 q2 nm3 q3 nm4 q4:Str}{N0 N1 N2 N3 N4:Addr}{bs0 sub0 bs1 sub1 bs2 sub2 bs3 sub3 bs4 sub4:List Value}{hd0 ab0 hd1 ab1 hd2 ab2 hd3 ab3 hd4 ab4:Bool}{sn0 sn1 sn2 sn3 sn4:List Str}{col0 col1 col2 col3 col4:Option Bool}{dd0 dd1 dd2 dd3 dd4:Option Addr}{u0 v0 w0 x0 y0 u1 v1 w1 x1 y1 u2 v2 w2 x2 y2 u3 v3 w3 x3 y3 u4 v4 w4 x4 y4:Option Value}{id0 id1 id2 id3 id4:String}
  {oc:Value}{od an:Option Addr}{osl:Array (Option Value)}{kV doc pm cdv ct:Value}
  (n_ALL_SIDES:W.nsIn K mainGlobals "ALL_SIDES" =some (some (.ref rALL_SIDES)))
  (c_ALL_SIDES:vO K rALL_SIDES=true)
  (n_STEPS:W.nsIn K mainGlobals "STEPS" =some (some (.ref rSTEPS)))
  (c_STEPS:sV K rSTEPS [(0,-1),(1,0),(0,1),(-1,0)]=true)
  (n_SIDE_STARTS:W.nsIn K mainGlobals "SIDE_STARTS" =some (some (.ref rSIDE_STARTS)))
  (c_SIDE_STARTS:sV K rSIDE_STARTS [(0,0),(1,0),(1,1),(0,1)]=true)
  (n_QUARTERS:W.nsIn K mainGlobals "QUARTERS" =some (some (.ref rQUARTERS)))
  (c_QUARTERS:sV K rQUARTERS [(0,0),(1,0),(0,1),(1,1)]=true)
  (n_HALVES_ABOUT:W.nsIn K mainGlobals "HALVES_ABOUT" =some (some (.ref rHALVES_ABOUT)))
  (c_HALVES_ABOUT:sV K rHALVES_ABOUT [(-1,-1),(0,-1),(1,-1),(-1,0),(1,0),(-1,1),(0,1),(1,1)]=true)
  (n_HALVES_AT_A_POINT:W.nsIn K mainGlobals "HALVES_AT_A_POINT" =some (some (.ref rHALVES_AT_A_POINT)))
  (c_HALVES_AT_A_POINT:sV K rHALVES_AT_A_POINT [(-1,-1),(0,-1),(-1,0),(0,0)]=true)
  (n_LINE_FEED:W.nsIn K mainGlobals "LINE_FEED" =some (some (.int 10 tLINE_FEED)))
  (n_BLANK:W.nsIn K mainGlobals "BLANK" =some (some (.int 32 tBLANK)))
  (n_COMMA:W.nsIn K mainGlobals "COMMA" =some (some (.int 44 tCOMMA)))
  (n_DIGIT_ZERO:W.nsIn K mainGlobals "DIGIT_ZERO" =some (some (.int 48 tDIGIT_ZERO)))
  (n_DIGIT_NINE:W.nsIn K mainGlobals "DIGIT_NINE" =some (some (.int 57 tDIGIT_NINE)))
  (n_GREATEST_NUMBER:W.nsIn K mainGlobals "GREATEST_NUMBER" =some (some (.int 64 tGREATEST_NUMBER)))
  (n_MOST_DIGITS:W.nsIn K mainGlobals "MOST_DIGITS" =some (some (.int 2 tMOST_DIGITS)))
  (n_FEWEST_CORNERS:W.nsIn K mainGlobals "FEWEST_CORNERS" =some (some (.int 4 tFEWEST_CORNERS)))
  (n_CELLS_IN_A_ROW:W.nsIn K mainGlobals "CELLS_IN_A_ROW" =some (some (.int 64 tCELLS_IN_A_ROW)))
  (n_MOST_CELLS:W.nsIn K mainGlobals "MOST_CELLS" =some (some (.int 256 tMOST_CELLS)))
  (z_len:W.nsIn K mainGlobals "len" =some none)
  (z_min:W.nsIn K mainGlobals "min" =some none)
  (z_max:W.nsIn K mainGlobals "max" =some none)
  (z_any:W.nsIn K mainGlobals "any" =some none)
  (z_list:W.nsIn K mainGlobals "list" =some none)
  (z_dict:W.nsIn K mainGlobals "dict" =some none)
  (z_sorted:W.nsIn K mainGlobals "sorted" =some none)
  (z_range:W.nsIn K mainGlobals "range" =some none)
  (z_enumerate:W.nsIn K mainGlobals "enumerate" =some none)
  (n_NoHouse:W.nsIn K mainGlobals "NoHouse" =some (some (.ref aNoHouse)))
  (e_NoHouse:W.excIn K aNoHouse bmE "Exception.__new__" =true)
  (n_Roof:W.nsIn K mainGlobals "Roof" =some (some (.ref aRoof)))
  (q_pg:W.plainGet K aRoof Str.empty=true)
  (q_hd:W.hasDictIn K aRoof=true)
  (q_po:W.plainOver K aRoof=true)
  (q_sa:W.findIn K (.ref aRoof) "__setattr__" =some (some (.builtin "object.__setattr__")))
  (f_cells:W.findIn K (.ref aRoof) "cells" =some none)
  (f_depths:W.findIn K (.ref aRoof) "depths" =some none)
  (f_heights:W.findIn K (.ref aRoof) "heights" =some none)
  (f_facings:W.findIn K (.ref aRoof) "facings" =some none)
  (f_numbers:W.findIn K (.ref aRoof) "numbers" =some none)
  (wF:W.findIn K (.ref aRoof) "faces" =some none)
  (n_STAYS:W.nsIn K mainGlobals "STAYS" =some (some (.int 0 tSTAYS)))
  (n_CHANGED:W.nsIn K mainGlobals "CHANGED" =some (some (.int 1 tCHANGED)))
  (n_NEW:W.nsIn K mainGlobals "NEW" =some (some (.int 2 tNEW)))
  (n_GONE:W.nsIn K mainGlobals "GONE" =some (some (.int 3 tGONE)))
  (z_all:W.nsIn K mainGlobals "all" =some none)
  (n_OutOfBounds:W.nsIn K mainGlobals "OutOfBounds" =some (some (.ref aOutOfBounds)))
  (n_Outside:W.nsIn K mainGlobals "Outside" =some (some (.ref aOutside)))
  (n_NoFace:W.nsIn K mainGlobals "NoFace" =some (some (.ref aNoFace)))
  (n_NoSize:W.nsIn K mainGlobals "NoSize" =some (some (.ref aNoSize)))
  (l_NoHouse:K.lookup aNoHouse=some (excClassObj nm0 q0 aNoHouse N0 bs0 bmE hd0 sn0 sub0 ab0 col0 dd0 u0 v0 w0 x0 y0 id0))
  (l_OutOfBounds:K.lookup aOutOfBounds=some (excClassObj nm1 q1 aOutOfBounds N1 bs1 bmE hd1 sn1 sub1 ab1 col1 dd1 u1 v1 w1 x1 y1 id1))
  (l_Outside:K.lookup aOutside=some (excClassObj nm2 q2 aOutside N2 bs2 bmE hd2 sn2 sub2 ab2 col2 dd2 u2 v2 w2 x2 y2 id2))
  (l_NoFace:K.lookup aNoFace=some (excClassObj nm3 q3 aNoFace N3 bs3 bmE hd3 sn3 sub3 ab3 col3 dd3 u3 v3 w3 x3 y3 id3))
  (l_NoSize:K.lookup aNoSize=some (excClassObj nm4 q4 aNoSize N4 bs4 bmE hd4 sn4 sub4 ab4 col4 dd4 u4 v4 w4 x4 y4 id4))
  (ap:[aNoHouse,aOutOfBounds,aOutside,aNoFace,aNoSize].Nodup)
  (m_mk:W.makesIn K aRoof=true)
  (m_in:W.findIn K (.ref aRoof) "__init__" =some (some (.ref fI)))
  (m_fn:W.isFn K (.ref fI)=true)
  (m_kp:W.keepIn K (.ref aRoof)=true)
  (i_l:K.lookup fI=some ⟨oc,od,.func (W.fnOf "__init__" "Roof.__init__" (gX s_i) (eV s_i) (aI s_i) .none kV doc pm an cdv ct),osl⟩)
  (i_c:W.codeIn K cdv "Roof.__init__" =true)
  (i_k:W.keepIn K (.ref fI)=true)
  : ∃d fI fdI,Facts K d fI fdI:=
 ⟨⟨aNoHouse,aOutOfBounds,aOutside,aNoFace,aNoSize,aRoof⟩,fI,_,⟨fun M TR=>⟨⟨rALL_SIDES,W.mg_of M.kin M.glob n_ALL_SIDES,fun H=>F3 c_ALL_SIDES H⟩,⟨rSTEPS,W.mg_of M.kin M.glob n_STEPS,sU c_STEPS⟩,⟨rSIDE_STARTS,W.mg_of M.kin M.glob n_SIDE_STARTS,sU c_SIDE_STARTS⟩,⟨rQUARTERS,W.mg_of M.kin M.glob n_QUARTERS,sU c_QUARTERS⟩,⟨rHALVES_ABOUT,W.mg_of M.kin M.glob n_HALVES_ABOUT,sU c_HALVES_ABOUT⟩,⟨rHALVES_AT_A_POINT,W.mg_of M.kin M.glob n_HALVES_AT_A_POINT,sU c_HALVES_AT_A_POINT⟩,⟨tLINE_FEED,W.mg_of M.kin M.glob n_LINE_FEED⟩,⟨tBLANK,W.mg_of M.kin M.glob n_BLANK⟩,⟨tCOMMA,W.mg_of M.kin M.glob n_COMMA⟩,⟨tDIGIT_ZERO,W.mg_of M.kin M.glob n_DIGIT_ZERO⟩,⟨tDIGIT_NINE,W.mg_of M.kin M.glob n_DIGIT_NINE⟩,⟨tGREATEST_NUMBER,W.mg_of M.kin M.glob n_GREATEST_NUMBER⟩,⟨tMOST_DIGITS,W.mg_of M.kin M.glob n_MOST_DIGITS⟩,⟨tFEWEST_CORNERS,W.mg_of M.kin M.glob n_FEWEST_CORNERS⟩,⟨tCELLS_IN_A_ROW,W.mg_of M.kin M.glob n_CELLS_IN_A_ROW⟩,⟨tMOST_CELLS,W.mg_of M.kin M.glob n_MOST_CELLS⟩,W.mg_none_of M.kin M.glob z_len,W.mg_none_of M.kin M.glob z_min,W.mg_none_of M.kin M.glob z_max,W.mg_none_of M.kin M.glob z_any,W.mg_none_of M.kin M.glob z_list,W.mg_none_of M.kin M.glob z_dict,W.mg_none_of M.kin M.glob z_sorted,W.mg_none_of M.kin M.glob z_range,W.mg_none_of M.kin M.glob z_enumerate,W.own_of_in M.kin TR n_NoHouse e_NoHouse,W.mg_of M.kin M.glob n_Roof,⟨q_pg,q_hd,q_po,q_sa⟩,f_cells,f_depths,f_heights,f_facings,f_numbers,wF,⟨tSTAYS,W.mg_of M.kin M.glob n_STAYS⟩,⟨tCHANGED,W.mg_of M.kin M.glob n_CHANGED⟩,⟨tNEW,W.mg_of M.kin M.glob n_NEW⟩,⟨tGONE,W.mg_of M.kin M.glob n_GONE⟩,W.mg_none_of M.kin M.glob z_all⟩,⟨m_mk,m_in,m_fn,m_kp⟩,AX i_l i_c i_k,n_NoHouse,(fun X=>nR X l_NoHouse),n_OutOfBounds,(fun X=>nR X l_OutOfBounds),n_Outside,(fun X=>nR X l_Outside),n_NoFace,(fun X=>nR X l_NoFace),n_NoSize,(fun X=>nR X l_NoSize),ap⟩⟩
theorem JB{K:W.Frag}{f c tb:Addr}{oc oc2:Value}{od od2 an:Option Addr}{osl sl2:Array (Option Value)}{vs:Array Value}{kV doc pm cdv ct:Value}(a:W.nsIn K mainGlobals "change" =some (some (.ref f)))
  (l:K.lookup f=some ⟨oc,od,.func (W.fnOf "change" "change" (gX s_f) (eV s_f) (aI s_f) .none kV doc pm an cdv ct),osl⟩) (e:cdv=.ref c) (h:W.codeIn K cdv "change" =true) (k:W.keepIn K (.ref f)=true)
  (l2:K.lookup c=some ⟨oc2,od2,.fields vs,sl2⟩) (hv:vs[11]? =some (.ref tb)) (kt:K.lookup tb=none):∃f fd c tb,W.nsIn K mainGlobals "change" =some (some (.ref f))/\Fun K "change" "change" s_f f fd/\fd.code=.ref c/\W.tabIn K "change" =some (c,tb)/\K.lookup tb=none:=
 ⟨f,_,c,tb,a,AX l h k,e,K5 a l e l2 hv,kt⟩
end RT
open PySem
set_option maxHeartbeats 0 in
theorem PySem.Challenge.cw_rooftold_s10_change_holds : PySem.Challenge.rw_rooftold_s10_change.Holds := by
 refine W.holds_os (q:=HP.vw) (loose:=[]) (Xt:=HP.xt) (XP:=W.XL HP.vw []) (Yf:=W.Hook.obs (W.kHook HP.hpK HP.as HP.hkE)) (Ya:=W.Hook.val (W.kHook HP.hpK HP.as HP.hkE)) (YP:=W.Hook.says (W.kHook HP.hpK HP.as HP.hkE)) (N:=5958) HP.left (W.Hook.of _) (W.Hook.keeps _) (fun s e=>W.xl_of s (Bool.and_eq_true_iff.mp e).1) W.XL.keeps (by rfl) (by rfl) (by rfl) (fun s e=>W.recFacts_of (Bool.and_eq_true_iff.mp e).2) W.os_shapes (by decide+kernel) (by decide+kernel) ⟨rfl,rfl,rfl,rfl,rfl,by decide+kernel⟩ ⟨[.list [],.list []],by decide+kernel,by decide+kernel⟩ ?_;k_fillS;intro w s0 s1 mg mb G Y fa o pm cd doc dV kV ho hd hcd hD hmg hg args vals as hpre hlay hrd hwl hlo;have KX:=W.kIn_of Y;have FX:∃d fI fdI,RT.Facts (L2.KOf KX) d fI fdI:=by
  dsimp only[L2.KOf];refine' RT.GN ?n_ALL_SIDES ?c_ALL_SIDES ?n_STEPS ?c_STEPS ?n_SIDE_STARTS ?c_SIDE_STARTS ?n_QUARTERS ?c_QUARTERS ?n_HALVES_ABOUT ?c_HALVES_ABOUT ?n_HALVES_AT_A_POINT ?c_HALVES_AT_A_POINT ?n_LINE_FEED ?n_BLANK ?n_COMMA ?n_DIGIT_ZERO ?n_DIGIT_NINE ?n_GREATEST_NUMBER ?n_MOST_DIGITS ?n_FEWEST_CORNERS ?n_CELLS_IN_A_ROW ?n_MOST_CELLS ?z_len ?z_min ?z_max ?z_any ?z_list ?z_dict ?z_sorted ?z_range ?z_enumerate ?n_NoHouse ?e_NoHouse ?n_Roof ?q_pg ?q_hd ?q_po ?q_sa ?f_cells ?f_depths ?f_heights ?f_facings ?f_numbers ?wF ?n_STAYS ?n_CHANGED ?n_NEW ?n_GONE ?z_all ?n_OutOfBounds ?n_Outside ?n_NoFace ?n_NoSize ?l_NoHouse ?l_OutOfBounds ?l_Outside ?l_NoFace ?l_NoSize ?ap ?m_mk ?m_in ?m_fn ?m_kp ?i_l ?i_c ?i_k;case n_ALL_SIDES|n_STEPS|n_SIDE_STARTS|n_QUARTERS|n_HALVES_ABOUT|n_HALVES_AT_A_POINT|n_LINE_FEED|n_BLANK|n_COMMA|n_DIGIT_ZERO|n_DIGIT_NINE|n_GREATEST_NUMBER|n_MOST_DIGITS|n_FEWEST_CORNERS|n_CELLS_IN_A_ROW|n_MOST_CELLS|z_len|z_min|z_max|z_any|z_list|z_dict|z_sorted|z_range|z_enumerate|n_NoHouse|n_Roof|q_pg|q_hd|q_po|q_sa|f_cells|f_depths|f_heights|f_facings|f_numbers|wF|n_STAYS|n_CHANGED|n_NEW|n_GONE|z_all|n_OutOfBounds|n_Outside|n_NoFace|n_NoSize|l_NoHouse|l_OutOfBounds|l_Outside|l_NoFace|l_NoSize|m_mk|m_in|m_fn|m_kp|i_l|i_c|i_k=>k_is
  case c_ALL_SIDES|c_STEPS|c_SIDE_STARTS|c_QUARTERS|c_HALVES_ABOUT|c_HALVES_AT_A_POINT=>kernel_rfl
  case e_NoHouse=>k_exc
  case ap=>decide
 have FF:∃f fd c tb,W.nsIn (L2.KOf KX) mainGlobals "change" =some (some (.ref f))/\L2.Fun (L2.KOf KX) "change" "change" RT.s_f f fd/\fd.code=.ref c/\W.tabIn (L2.KOf KX) "change" =some (c,tb)/\(L2.KOf KX).lookup tb=none:=by
  dsimp only[L2.KOf];refine' RT.JB ?a ?l ?e ?h ?k ?l2 ?hv ?kt
  (case a=>k_is)
  (case l=>k_is)
  (case e=>rfl)
  (case h=>k_is)
  (case k=>k_is)
  (case l2=>k_is)
  (case hv=>rfl)
  (case kt=>kernel_rfl)
 have D_m:L3.aH (L2.KOf KX) "moved" RT.s_m:=by dsimp only[L2.KOf];refine' L3.b8 ?a ?l ?c ?k;case a|l|c|k=>k_is
 have D_ss:L3.aH (L2.KOf KX) "side_start" RT.s_ss:=by dsimp only[L2.KOf];refine' L3.b8 ?a ?l ?c ?k;case a|l|c|k=>k_is
 have D_lo:L3.aH (L2.KOf KX) "left_of" RT.s_lo:=by dsimp only[L2.KOf];refine' L3.b8 ?a ?l ?c ?k;case a|l|c|k=>k_is
 have D_se:L3.aH (L2.KOf KX) "side_end" RT.s_se:=by dsimp only[L2.KOf];refine' L3.b8 ?a ?l ?c ?k;case a|l|c|k=>k_is
 have D_iab:L3.aH (L2.KOf KX) "is_as_before" RT.s_iab:=by dsimp only[L2.KOf];refine' L3.b8 ?a ?l ?c ?k;case a|l|c|k=>k_is
 have D_lo2:L3.aH (L2.KOf KX) "lot_of" RT.s_lo2:=by dsimp only[L2.KOf];refine' L3.b8 ?a ?l ?c ?k;case a|l|c|k=>k_is
 have D_cr:L3.aH (L2.KOf KX) "change_row" RT.s_cr:=by dsimp only[L2.KOf];refine' L3.b8 ?a ?l ?c ?k;case a|l|c|k=>k_is
 have D_br:L3.aH (L2.KOf KX) "by_row" RT.s_br:=by dsimp only[L2.KOf];refine' L3.b8 ?a ?l ?c ?k;case a|l|c|k=>k_is
 have D_hco:L3.aH (L2.KOf KX) "half_cells_of" RT.s_hco:=by dsimp only[L2.KOf];refine' L3.b8 ?a ?l ?c ?k;case a|l|c|k=>k_is
 have D_id:L3.aH (L2.KOf KX) "is_deeper" RT.s_id:=by dsimp only[L2.KOf];refine' L3.b8 ?a ?l ?c ?k;case a|l|c|k=>k_is
 have D_do:L3.aH (L2.KOf KX) "depths_of" RT.s_do:=by dsimp only[L2.KOf];refine' L3.b8 ?a ?l ?c ?k;case a|l|c|k=>k_is
 have D_ho:L3.aH (L2.KOf KX) "height_over" RT.s_ho:=by dsimp only[L2.KOf];refine' L3.b8 ?a ?l ?c ?k;case a|l|c|k=>k_is
 have D_ho2:L3.aH (L2.KOf KX) "heights_of" RT.s_ho2:=by dsimp only[L2.KOf];refine' L3.b8 ?a ?l ?c ?k;case a|l|c|k=>k_is
 have D_ro:L3.aH (L2.KOf KX) "right_of" RT.s_ro:=by dsimp only[L2.KOf];refine' L3.b8 ?a ?l ?c ?k;case a|l|c|k=>k_is
 have D_o:L3.aH (L2.KOf KX) "opposite" RT.s_o:=by dsimp only[L2.KOf];refine' L3.b8 ?a ?l ?c ?k;case a|l|c|k=>k_is
 have D_fo2:L3.aH (L2.KOf KX) "facing_of" RT.s_fo2:=by dsimp only[L2.KOf];refine' L3.b8 ?a ?l ?c ?k;case a|l|c|k=>k_is
 have D_fo3:L3.aH (L2.KOf KX) "facings_of" RT.s_fo3:=by dsimp only[L2.KOf];refine' L3.b8 ?a ?l ?c ?k;case a|l|c|k=>k_is
 have D_tol:L3.aH (L2.KOf KX) "triangle_on_left" RT.s_tol:=by dsimp only[L2.KOf];refine' L3.b8 ?a ?l ?c ?k;case a|l|c|k=>k_is
 have D_tor:L3.aH (L2.KOf KX) "triangle_on_right" RT.s_tor:=by dsimp only[L2.KOf];refine' L3.b8 ?a ?l ?c ?k;case a|l|c|k=>k_is
 have D_b:L3.aH (L2.KOf KX) "beyond" RT.s_b:=by dsimp only[L2.KOf];refine' L3.b8 ?a ?l ?c ?k;case a|l|c|k=>k_is
 have D_ta:L3.aH (L2.KOf KX) "triangle_across" RT.s_ta:=by dsimp only[L2.KOf];refine' L3.b8 ?a ?l ?c ?k;case a|l|c|k=>k_is
 have D_nf:L3.aH (L2.KOf KX) "number_face" RT.s_nf:=by dsimp only[L2.KOf];refine' L3.b8 ?a ?l ?c ?k;case a|l|c|k=>k_is
 have D_no:L3.aH (L2.KOf KX) "numbers_of" RT.s_no:=by dsimp only[L2.KOf];refine' L3.b8 ?a ?l ?c ?k;case a|l|c|k=>k_is
 have D_fo:L3.aH (L2.KOf KX) "faces_of" RT.s_fo:=by dsimp only[L2.KOf];refine' L3.b8 ?a ?l ?c ?k;case a|l|c|k=>k_is
 have D_pb:L3.aH (L2.KOf KX) "parts_between" RT.s_pb:=by dsimp only[L2.KOf];refine' L3.b8 ?a ?l ?c ?k;case a|l|c|k=>k_is
 have D_dt:L3.aH (L2.KOf KX) "digit_told" RT.s_dt:=by dsimp only[L2.KOf];refine' L3.b8 ?a ?l ?c ?k;case a|l|c|k=>k_is
 have D_nt:L3.aH (L2.KOf KX) "number_told" RT.s_nt:=by dsimp only[L2.KOf];refine' L3.b8 ?a ?l ?c ?k;case a|l|c|k=>k_is
 have D_ct:L3.aH (L2.KOf KX) "corner_told" RT.s_ct:=by dsimp only[L2.KOf];refine' L3.b8 ?a ?l ?c ?k;case a|l|c|k=>k_is
 have D_wt:L3.aH (L2.KOf KX) "walk_told" RT.s_wt:=by dsimp only[L2.KOf];refine' L3.b8 ?a ?l ?c ?k;case a|l|c|k=>k_is
 have D_wt2:L3.aH (L2.KOf KX) "walks_told" RT.s_wt2:=by dsimp only[L2.KOf];refine' L3.b8 ?a ?l ?c ?k;case a|l|c|k=>k_is
 have D_far:L3.aH (L2.KOf KX) "feet_across_rows" RT.s_far:=by dsimp only[L2.KOf];refine' L3.b8 ?a ?l ?c ?k;case a|l|c|k=>k_is
 have D_cw:L3.aH (L2.KOf KX) "cells_within" RT.s_cw:=by dsimp only[L2.KOf];refine' L3.b8 ?a ?l ?c ?k;case a|l|c|k=>k_is
 have D_haw:L3.aH (L2.KOf KX) "headings_along_walls" RT.s_haw:=by dsimp only[L2.KOf];refine' L3.b8 ?a ?l ?c ?k;case a|l|c|k=>k_is
 have D_wf:L3.aH (L2.KOf KX) "walk_from" RT.s_wf:=by dsimp only[L2.KOf];refine' L3.b8 ?a ?l ?c ?k;case a|l|c|k=>k_is
 have D_wr:L3.aH (L2.KOf KX) "walks_round" RT.s_wr:=by dsimp only[L2.KOf];refine' L3.b8 ?a ?l ?c ?k;case a|l|c|k=>k_is
 have D_miap:L3.aH (L2.KOf KX) "meets_in_a_point" RT.s_miap:=by dsimp only[L2.KOf];refine' L3.b8 ?a ?l ?c ?k;case a|l|c|k=>k_is
 have D_ij:L3.aH (L2.KOf KX) "is_joined" RT.s_ij:=by dsimp only[L2.KOf];refine' L3.b8 ?a ?l ?c ?k;case a|l|c|k=>k_is
 have D_ih:L3.aH (L2.KOf KX) "is_house" RT.s_ih:=by dsimp only[L2.KOf];refine' L3.b8 ?a ?l ?c ?k;case a|l|c|k=>k_is
 have D_ht:L3.aH (L2.KOf KX) "house_told" RT.s_ht:=by dsimp only[L2.KOf];refine' L3.b8 ?a ?l ?c ?k;case a|l|c|k=>k_is
 have D_rt:L3.aH (L2.KOf KX) "roof_told" RT.s_rt:=by dsimp only[L2.KOf];refine' L3.b8 ?a ?l ?c ?k;case a|l|c|k=>k_is
 have D_answer_or_refusal:L3.aH (L2.KOf KX) "answer_or_refusal" RT.uB:=by dsimp only[L2.KOf];refine' L3.b8 ?a ?l ?c ?k;case a|l|c|k=>k_is
 obtain⟨d,fI,fdI,FX⟩:=FX;obtain⟨f,fd,c,tb,n_f,F_f,hfc,htab,hKt⟩:=FF;obtain⟨fA,fdA,n_ans,F_ans⟩:=D_answer_or_refusal.ex;exact RT.CK KX G.T hg hmg hpre hwl FX.txt FX.mkR FX.init D_m D_ss D_lo D_se D_iab D_lo2 D_cr D_br D_hco D_id D_do D_ho D_ho2 D_ro D_o D_fo2 D_fo3 D_tol D_tor D_b D_ta D_nf D_no D_fo D_pb D_dt D_nt D_ct D_wt D_wt2 D_far D_cw D_haw D_wf D_wr D_miap D_ij D_ih D_ht D_rt n_f F_f hfc htab rfl hKt n_ans F_ans FX.iU FX.iG FX.dZ FX.dU FX.iT FX.iE FX.kM FX.jP FX.kL FX.jO FX.ap
