import PyProof.Rows.All
import Wide.All
import OpenK.AllK
import Wide.FinOn
import PyProof.EqAt
import PyProof.EqKinds
import PyProof.TupleCall
import KE.BitLaws
import RoofBuilt
import WqajbzNeutral
import KE.KSortTupG
import KE.KLam
import KE.OsGo
import Open.SpecLaws
import PySem.Challenge.RW_rooftold_s03_lines
set_option Elab.async false
set_option linter.all false
set_option genSizeOfSpec false
set_option maxRecDepth 100000
set_option maxHeartbeats 4000000
open PySem renaming Value → fv, Addr → xv, Shared → Fe, sizeLine → Fh, wpAny → Fi, mainGlobals → Fl, model → Fm, Program → Fo, Heap → Fp, starEach → Fq, Around → Ft, World → Fw, sysModules → Fy, Expr → Fz, Stmt → Ga, cellsFrom → Gb, DictEntry → Gd, compEnvC → Gh, FuncData → Gi, Scope → Gj
open Roof renaming halvesOf → Fc, trianglesOf → Fd, topOf → Ff, Cells → Fn, Point → Fu, meeting → Fv, stepped → Fx, pinched → Ge, walksFrom → Gf, besideOf → Gg
open PySem.W renaming Frag → Fg
open RoofBNeutral renaming text → Fj
noncomputable section
theorem Hb{p:Prop}(h:p:=by lia):p:=h
theorem Hc{p:Prop}(h:p:=by omega):p:=h
theorem Hd{p:Prop}(h:p:=by decide):p:=h
abbrev Hf:=fv->Fe->Prop
abbrev Hg:=List (xv×PySem.Obj)
abbrev Hh(l:List (Nat×Nat)):=∀c∈l,c.1<64/\c.2<64
theorem Hi{p:Prop}(h:p:=by rfl):p:=h
open Nat (le_of_lt not_lt mod_mod)
open List (map_id of_mem_zip any_cons nodup_nil take_zero any_map nil_append cons_append flatMap_map range_succ)
open Int (le_min zero_add le_refl min_comm lt_or_le natCast_add add_mul min_assoc)
open Array (getElem?_eq_none forIn_toList)
def aa:=@PySem.wpAny_bind
def af:=@if_neg
def ag:=@PySem.wpAny_pure
def ah:=@if_pos
def ai:=@List.length_map
def aj:=@List.length_append
def ak:=@Fp.get?_push_of_some
def ao:=@List.mem_cons_of_mem
def aq:=@List.mem_cons
def ar:=@List.getElem?_eq_some_iff
def au:=@List.mem_map
def aw:=@Nat.le_refl
def ax:=@List.mem_append
def ay:=@List.mem_cons_self
def az:=@Fp.get?_push_size
def ba:=@List.mem_of_getElem?
def bc:=@List.getElem?_map
def bf:=@List.take_of_length_le
def bg:=@List.mem_append_right
def bh:=@List.map_cons
def bj:=@List.size_toArray
def bo:=@List.length_cons
def bp:=@Bool.false_ne_true
def bq:=@of_decide_eq_true
def br:=@Fp.lt_size
def bu:=@List.mem_filter
def bw:=@Bool.and_eq_true
def bx:=@List.length_take
def bz:=@Nat.lt_of_lt_of_le
def cc:=@List.getElem?_eq_getElem
def cf:=@List.map_append
def cg:=@List.mem_append_left
def cj:=@Nat.ne_of_lt
def cn:=@Nat.zero_le
def cv:=@List.mem_flatMap
def da:=@List.nodup_append
def dc:=@Bool.false_eq_true
def de:=@Nat.le_trans
def df:=@Bool.eq_iff_iff
def dh:=@List.nodup_cons
def di:=@List.append_nil
def dj:=@Array.getD_eq_getD_getElem?
def dk:=@List.map_congr_left
def dm:=@Array.length_toList
def dq:=@Int.toNat_of_nonneg
def dt:=@List.map_map
def dv:=@List.getElem?_append_right
def dz:=@Int.toNat_natCast
def ej:=@List.not_mem_nil
def fe:=@List.any_eq_true
def ff:=@List.length_filter_le
def fg:=@List.filterMap_cons
def fh:=@List.length_nil
def fi:=@Int.not_lt
def fj:=@List.mem_range
def fk:=@List.append_assoc
def fm:=@List.eq_nil_of_length_eq_zero
def fo:=@Fp.size_push
def fw:=@List.getElem?_take_of_lt
def fx:=@Array.getElem?_eq_getElem
def fy:=@List.length_pos_iff
def gb:=@Nat.mod_eq_of_lt
def gd:=@List.flatMap_cons
def gf:=@List.pairwise_cons
def gg:=@List.filter_append
def gh:=@List.lookup_cons
def gi:=@List.flatten_append
def gj:=@Array.getElem?_eq_some_iff
def gk:=@Int.min_le_right
def gm:=@List.pairwise_map
def gp:=@List.mem_iff_getElem?
def gr:=@List.length_dropLast
def gu:=@Nat.lt_irrefl
def gw:=@Array.getElem?_toList
def gx:=@Bool.or_eq_true
def gy:=@List.getElem?_cons_succ
def gz:=@Int.min_le_left
def ia:=@List.all_eq_true
def ib:=@List.countP_cons
def ie:=@Bool.not_eq_true'
def ig:=@List.mem_filterMap
def ij:=@List.getElem?_append_left
def ik:=@List.length_drop
def iq:=@Nat.le_of_eq
def ir:=@Nat.lt_of_le_of_lt
def iu:=@List.find?_cons
def iw:=@List.flatMap_append
def iy:=@Int.not_le
def iz:=@List.mem_singleton
def ja:=@Int.le_trans
def jb:=@List.contains_iff_mem
def jc:=@List.dropLast_concat_getLast
def jd:=@Int.le_add_of_sub_right_le
def je:=@List.map_nil
def jf:=@List.filter_congr
def jg:=@List.flatten_cons
def jh:=@Bool.eq_false_iff
def ji:=@Array.getElem?_setIfInBounds
def jj:=@Nat.ne_of_gt
def jk:=@Int.add_neg_cancel_right
def jl:=@List.mem_of_find?_eq_some
def jm:=@List.getElem?_eq_none_iff
def jn:=@List.cons_ne_nil
def jo:=@Nat.le_of_succ_le
def jq:=@Nat.lt_succ_of_lt
namespace HP
open PySem PySem.W PyProof.Rows
noncomputable section
noncomputable def tp(i:Nat):Ga:=PySem.Challenge.pw_rooftold_s03_lines.main.body.getD i (.Pass ⟨0,0,0,0⟩)
noncomputable def ic(s:Ga)(j:Nat):Ga:=match s with
 | .ClassDef _ _ _ body _ _ _ _ _ _ _=>body.getD j (.Pass ⟨0,0,0,0⟩)
 |_=>.Pass ⟨0,0,0,0⟩
noncomputable def dA(s:Ga):Arguments:=match s with
 | .FunctionDef _ a _ _ _ _ _ _ _ _=>a
 |_=>{posonlyargs:=[],args:=[],vararg:=none,kwonlyargs:=[],kw_defaults:=[],kwarg:=none,defaults:=[]}
noncomputable def dB(s:Ga):List Ga:=match s with
 | .FunctionDef _ _ b _ _ _ _ _ _ _=>b
 |_=>[]
noncomputable def dS(s:Ga):Gj:=match s with
 | .FunctionDef _ _ _ _ _ _ sc _ _ _=>sc
 |_=>{kind:=.function,names:=[],isGenerator:=false,isCoroutine:=false}
abbrev fl:String:= "/claim/cut.py"
noncomputable abbrev vs(s:String)(t:Tok):fv:=.str (Str.ofString s) t
noncomputable abbrev vi(i:Int)(t:Tok):fv:=.int i t
noncomputable abbrev vr(a:xv):fv:=.ref a
noncomputable abbrev eN(P:Params)(s:String)(t:Tok)(v:fv):Gd:={hash:=PyData.keyHash P (Str.ofString s),key:=.str (Str.ofString s) t,val:=v}
noncomputable abbrev oT(l:Array fv):Obj:={cls:=.type "tuple",data:=.seq l}
noncomputable abbrev oK(l:Array fv):Obj:={cls:=.type "code",data:=.fields l}
noncomputable abbrev oC(n:String)(t:Nat)(l c g:Int)(r:xv)(x:Int)(r1 r2 r3 r4:xv)(u:Nat):Obj:=oK #[vs n t,vs n (t+1),vs fl (t+2),vi l 0,vi c 0,vi 0 0,vi 0 0,vi g 0,vr r,.bool true,vi x 0,vr r1,.none,vr r2,vr r3,vr r4,vi u 0,vi l 0,vs fl (u+1)]
noncomputable abbrev oF(n q:String)(s:Ga)(m:String)(t:Tok)(c:xv):Obj:={cls:=.type "function",data:=.func (fnOf (Str.ofString n) (Str.ofString q) (dA s) (dB s) (dS s) .none .none .none (vs m t) none (.ref c) .none)}
noncomputable abbrev oG(n q:String)(s:Ga):Obj:={cls:=.none,data:=.func {name:=Str.ofString n,qualname:=Str.ofString q,params:=dA s,body:=.stmts (dB s),scope:=dS s,globals:=0,closure:=[],defaults:=.none,kwdefaults:=.none}}
noncomputable abbrev oH(n:String)(s:Ga):Obj:=oG n n s
noncomputable abbrev oE(n:String)(s:Ga)(m:String)(t:Tok)(c:xv):Obj:=oF n n s m t c
def o2(P:Params):Obj:={cls:=.none,data:=.dict #[eN P "type.__subclasses__.Exception.0" 292 (vi 91 0),eN P "type.__subclasses__.Exception.n" 293 (vi 5 0),eN P "type.__subclasses__.Exception.1" 312 (vi 104 0),eN P "type.__subclasses__.Exception.2" 332 (vi 117 0),eN P "type.__subclasses__.Exception.3" 352 (vi 130 0),eN P "type.__subclasses__.Exception.4" 372 (vi 143 0)] 6}
def o3(P:Params):Obj:={cls:=.type "dict",data:=.dict #[eN P "__name__" 165 (vs "rooftold.desk" 881),eN P "__doc__" 166 .none,eN P "__package__" 167 .none,eN P "__loader__" 168 (.builtin "__main__.__loader__#opaque"),eN P "__spec__" 169 .none,eN P "__annotations__" 170 (vr 6),eN P "__builtins__" 171 (vr 4),eN P "__file__" 173 (vs "/claim/cut.py" 172),eN P "__cached__" 174 .none,eN P "ALL_SIDES" 193 (vr 15),eN P "STEPS" 204 (vr 20),eN P "SIDE_STARTS" 213 (vr 25),eN P "left_of" 220 (vr 32),eN P "opposite" 227 (vr 39),eN P "right_of" 234 (vr 46),eN P "moved" 242 (vr 53),eN P "beyond" 250 (vr 60),eN P "side_start" 258 (vr 67),eN P "side_end" 266 (vr 74),eN P "by_row" 273 (vr 81),eN P "NoHouse" 295 (vr 91),eN P "OutOfBounds" 315 (vr 104),eN P "Outside" 335 (vr 117),eN P "NoFace" 355 (vr 130),eN P "NoSize" 375 (vr 143),eN P "answer_or_refusal" 382 (vr 153),eN P "LINE_FEED" 386 (vi 10 385),eN P "BLANK" 388 (vi 32 387),eN P "COMMA" 390 (vi 44 389),eN P "DIGIT_ZERO" 392 (vi 48 391),eN P "DIGIT_NINE" 394 (vi 57 393),eN P "GREATEST_NUMBER" 396 (vi 64 395),eN P "MOST_DIGITS" 398 (vi 2 397),eN P "FEWEST_CORNERS" 400 (vi 4 399),eN P "parts_between" 411 (vr 160),eN P "digit_told" 418 (vr 167),eN P "number_told" 427 (vr 174),eN P "corner_told" 433 (vr 179),eN P "walk_told" 439 (vr 184),eN P "walks_told" 445 (vr 189),eN P "CELLS_IN_A_ROW" 449 (vi 64 448),eN P "MOST_CELLS" 451 (vi 256 450),eN P "feet_across_rows" 464 (vr 196),eN P "cells_within" 476 (vr 203),eN P "is_joined" 487 (vr 210),eN P "meets_in_a_point" 498 (vr 217),eN P "is_house" 504 (vr 222),eN P "headings_along_walls" 514 (vr 229),eN P "walk_from" 527 (vr 236),eN P "walks_round" 538 (vr 243),eN P "house_told" 547 (vr 250),eN P "QUARTERS" 558 (vr 255),eN P "HALVES_ABOUT" 581 (vr 264),eN P "HALVES_AT_A_POINT" 594 (vr 269),eN P "half_cells_of" 604 (vr 276),eN P "is_deeper" 613 (vr 283),eN P "depths_of" 619 (vr 288),eN P "height_over" 625 (vr 293),eN P "heights_of" 636 (vr 300),eN P "Roof" 672 (vr 317),eN P "facing_of" 684 (vr 328),eN P "facings_of" 696 (vr 335),eN P "triangle_across" 707 (vr 342),eN P "triangle_on_left" 717 (vr 349),eN P "triangle_on_right" 727 (vr 356),eN P "number_face" 740 (vr 363),eN P "numbers_of" 750 (vr 370),eN P "faces_of" 760 (vr 377),eN P "RIDGE" 764 (vi 0 763),eN P "HIP" 766 (vi 1 765),eN P "VALLEY" 768 (vi 2 767),eN P "middle_of" 779 (vr 384),eN P "kind_between" 792 (vr 391),eN P "doubled" 799 (vr 398),eN P "ends_within" 807 (vr 405),eN P "ends_across" 815 (vr 412),eN P "piece_between" 830 (vr 419),eN P "pieces_of" 841 (vr 426),eN P "piece_behind" 853 (vr 433),eN P "line_from" 867 (vr 440),eN P "line_order" 874 (vr 447),eN P "line_rows" 880 (vr 452),eN P "roof_told" 889 (vr 459),eN P "counted" 898 (vr 466),eN P "lines" 906 (vr 473)] 85}
def o11:=oT #[]
def o12:Obj:={cls:=.none,data:=.fields #[vi 5 0,vi 0 0,vr 31,vi 7 0,vi 0 0,vr 38,vi 9 0,vi 0 0,vr 45,vi 11 0,vi 0 0,vr 52,vi 13 0,vi 0 0,vr 59,vi 15 0,vi 0 0,vr 66,vi 17 0,vi 0 0,vr 73,vi 19 0,vi 0 0,vr 80,vi 22 0,vi 0 0,vr 87,vi 24 0,vi 0 0,vr 100,vi 26 0,vi 0 0,vr 113,vi 28 0,vi 0 0,vr 126,vi 30 0,vi 0 0,vr 139,vi 32 0,vi 0 0,vr 152,vi 54 0,vi 0 0,vr 159,vi 65 0,vi 0 0,vr 166,vi 69 0,vi 0 0,vr 173,vi 80 0,vi 0 0,vr 178,vi 85 0,vi 0 0,vr 183,vi 90 0,vi 0 0,vr 188,vi 99 0,vi 0 0,vr 195,vi 108 0,vi 0 0,vr 202,vi 119 0,vi 0 0,vr 209,vi 129 0,vi 0 0,vr 216,vi 136 0,vi 0 0,vr 221,vi 142 0,vi 0 0,vr 228,vi 149 0,vi 0 0,vr 235,vi 161 0,vi 0 0,vr 242,vi 169 0,vi 0 0,vr 249,vi 179 0,vi 0 0,vr 275,vi 185 0,vi 0 0,vr 282,vi 190 0,vi 0 0,vr 287,vi 201 0,vi 0 0,vr 292,vi 203 0,vi 0 0,vr 299,vi 212 0,vi 0 0,vr 306,vi 221 0,vi 0 0,vr 327,vi 231 0,vi 0 0,vr 334,vi 237 0,vi 0 0,vr 341,vi 241 0,vi 0 0,vr 348,vi 244 0,vi 0 0,vr 355,vi 247 0,vi 0 0,vr 362,vi 257 0,vi 0 0,vr 369,vi 265 0,vi 0 0,vr 376,vi 276 0,vi 0 0,vr 383,vi 280 0,vi 0 0,vr 390,vi 290 0,vi 0 0,vr 397,vi 292 0,vi 0 0,vr 404,vi 295 0,vi 0 0,vr 411,vi 298 0,vi 0 0,vr 418,vi 304 0,vi 0 0,vr 425,vi 314 0,vi 0 0,vr 432,vi 317 0,vi 0 0,vr 439,vi 323 0,vi 0 0,vr 446,vi 325 0,vi 0 0,vr 451,vi 330 0,vi 0 0,vr 458,vi 332 0,vi 0 0,vr 465,vi 337 0,vi 0 0,vr 472]}
def o13:=oK #[vs "<module>" 182,vs "<module>" 183,vs fl 184,vi 1 0,vi 0 0,vi 0 0,vi 0 0,vi 0 0,vr 11,.bool false,vi 181 0,vr 12,.none,.none,.none,.none,vi 185 0,vi 1 0,vs fl 186]
def o14:Obj:={cls:=.type "frame",slots:=#[some ((vr 13)),some ((vr 3)),some ((vr 3)),none,some ((vs "__main__" 164)),none,some ((vr 0))]}
def o15:=oT #[vi 0 189,vi 1 190,vi 2 191,vi 3 192]
def o16:=oT #[vi 0 194,vi (-1) 196]
def o17:=oT #[vi 1 197,vi 0 198]
def o18:=oT #[vi 0 199,vi 1 200]
def o19:=oT #[vi (-1) 202,vi 0 203]
def o20:=oT #[vr 16,vr 17,vr 18,vr 19]
def o21:=oT #[vi 0 205,vi 0 206]
def o22:=oT #[vi 1 207,vi 0 208]
def o23:=oT #[vi 1 209,vi 1 210]
def o24:=oT #[vi 0 211,vi 1 212]
def o25:=oT #[vr 21,vr 22,vr 23,vr 24]
def o27:Obj:={cls:=.none,data:=.fields #[]}
def o28:=oT #[vs "direction" 217]
def o30:=oH "left_of" (tp 4)
def o31:=oC "left_of" 214 5 1 3 26 181 27 28 29 30 218
def o32:=oE "left_of" (tp 4) "rooftold.compass" 187 31
def o35:=oT #[vs "direction" 224]
def o37:=oH "opposite" (tp 5)
def o38:=oC "opposite" 221 7 1 3 33 181 34 35 36 37 225
def o39:=oE "opposite" (tp 5) "rooftold.compass" 187 38
def o42:=oT #[vs "direction" 231]
def o44:=oH "right_of" (tp 6)
def o45:=oC "right_of" 228 9 1 3 40 181 41 42 43 44 232
def o46:=oE "right_of" (tp 6) "rooftold.compass" 187 45
def o49:=oT #[vs "place" 238,vs "step" 239]
def o51:=oH "moved" (tp 7)
def o52:=oC "moved" 235 11 2 3 47 181 48 49 50 51 240
def o53:=oE "moved" (tp 7) "rooftold.compass" 187 52
def o56:=oT #[vs "place" 246,vs "direction" 247]
def o58:=oH "beyond" (tp 8)
def o59:=oC "beyond" 243 13 2 3 54 181 55 56 57 58 248
def o60:=oE "beyond" (tp 8) "rooftold.compass" 187 59
def o63:=oT #[vs "square" 254,vs "side" 255]
def o65:=oH "side_start" (tp 9)
def o66:=oC "side_start" 251 15 2 3 61 181 62 63 64 65 256
def o67:=oE "side_start" (tp 9) "rooftold.compass" 187 66
def o70:=oT #[vs "square" 262,vs "side" 263]
def o72:=oH "side_end" (tp 10)
def o73:=oC "side_end" 259 17 2 3 68 181 69 70 71 72 264
def o74:=oE "side_end" (tp 10) "rooftold.compass" 187 73
def o77:=oT #[vs "place" 270]
def o79:=oH "by_row" (tp 11)
def o80:=oC "by_row" 267 19 1 3 75 181 76 77 78 79 271
def o81:=oE "by_row" (tp 11) "rooftold.compass" 187 80
def o82:=oT #[.type "Exception"]
def o83:Obj:={cls:=.type "builtin_function_or_method",data:=.fields #[.builtin "type.__prepare__",.type "type"]}
def o84(P:Params):Obj:={cls:=.type "dict",data:=.dict #[eN P "__module__" 283 (vs "rooftold.refusals" 274),eN P "__qualname__" 285 (vs "NoHouse" 284),eN P "__firstlineno__" 287 (vi 22 286),eN P "__static_attributes__" 288 (vr 89)] 4}
def o87:=oK #[vs "NoHouse" 278,vs "NoHouse" 279,vs fl 280,vi 22 0,vi 0 0,vi 0 0,vi 0 0,vi 0 0,vr 85,.bool false,vi 181 0,vr 86,.none,.none,.none,.none,vi 281 0,vi 22 0,vs fl 282]
def o88:Obj:={cls:=.type "frame",slots:=#[some ((vr 87)),some ((vr 3)),some ((vr 84)),none,some ((vs "rooftold.refusals" 274)),none,some ((vr 0))]}
def o90(P:Params):Obj:={cls:=.type "dict",data:=.dict #[eN P "__module__" 283 (vs "rooftold.refusals" 274),eN P "__firstlineno__" 287 (vi 22 286),eN P "__static_attributes__" 288 (vr 89),eN P "__weakref__" 290 (vr 92),eN P "__doc__" 291 .none] 3}
def o91:Obj:={cls:=.type "type",data:=.cls {name:=Str.ofString "NoHouse",bases:=[.type "Exception"],mro:=[vr 91,.type "Exception",.type "BaseException",.type "object"],ns:=90,qualname:=Str.ofString "NoHouse" },slots:=#[some ((vr 82)),none,some ((vs "NoHouse" 276)),some ((vs "NoHouse" 284)),some (.builtin "Exception.__new__"),some (.bool true)]}
def o92:Obj:={cls:=.type "getset_descriptor",data:=.fields #[vs "__weakref__" 289,vr 91,.builtin "ExceptionGroup.__weakref__",.none]}
def o93:Obj:={cls:=.type "super",data:=.fields #[vr 91,vr 91,vr 91]}
def o94:Obj:={cls:=.type "builtin_function_or_method",data:=.fields #[.builtin "object.__init_subclass__",vr 91]}
def o97(P:Params):Obj:={cls:=.type "dict",data:=.dict #[eN P "__module__" 303 (vs "rooftold.refusals" 274),eN P "__qualname__" 305 (vs "OutOfBounds" 304),eN P "__firstlineno__" 307 (vi 24 306),eN P "__static_attributes__" 308 (vr 102)] 4}
def a0C:=oK #[vs "OutOfBounds" 298,vs "OutOfBounds" 299,vs fl 300,vi 24 0,vi 0 0,vi 0 0,vi 0 0,vi 0 0,vr 98,.bool false,vi 181 0,vr 99,.none,.none,.none,.none,vi 301 0,vi 24 0,vs fl 302]
def a0B:Obj:={cls:=.type "frame",slots:=#[some ((vr 100)),some ((vr 3)),some ((vr 97)),none,some ((vs "rooftold.refusals" 274)),none,some ((vr 0))]}
def VL(P:Params):Obj:={cls:=.type "dict",data:=.dict #[eN P "__module__" 303 (vs "rooftold.refusals" 274),eN P "__firstlineno__" 307 (vi 24 306),eN P "__static_attributes__" 308 (vr 102),eN P "__weakref__" 310 (vr 105),eN P "__doc__" 311 .none] 3}
def VJ:Obj:={cls:=.type "type",data:=.cls {name:=Str.ofString "OutOfBounds",bases:=[.type "Exception"],mro:=[vr 104,.type "Exception",.type "BaseException",.type "object"],ns:=103,qualname:=Str.ofString "OutOfBounds" },slots:=#[some ((vr 95)),none,some ((vs "OutOfBounds" 296)),some ((vs "OutOfBounds" 304)),some (.builtin "Exception.__new__"),some (.bool true)]}
def VI:Obj:={cls:=.type "getset_descriptor",data:=.fields #[vs "__weakref__" 309,vr 104,.builtin "ExceptionGroup.__weakref__",.none]}
def a0A:Obj:={cls:=.type "super",data:=.fields #[vr 104,vr 104,vr 104]}
def a09:Obj:={cls:=.type "builtin_function_or_method",data:=.fields #[.builtin "object.__init_subclass__",vr 104]}
def a08(P:Params):Obj:={cls:=.type "dict",data:=.dict #[eN P "__module__" 323 (vs "rooftold.refusals" 274),eN P "__qualname__" 325 (vs "Outside" 324),eN P "__firstlineno__" 327 (vi 26 326),eN P "__static_attributes__" 328 (vr 115)] 4}
def a07:=oK #[vs "Outside" 318,vs "Outside" 319,vs fl 320,vi 26 0,vi 0 0,vi 0 0,vi 0 0,vi 0 0,vr 111,.bool false,vi 181 0,vr 112,.none,.none,.none,.none,vi 321 0,vi 26 0,vs fl 322]
def a06:Obj:={cls:=.type "frame",slots:=#[some ((vr 113)),some ((vr 3)),some ((vr 110)),none,some ((vs "rooftold.refusals" 274)),none,some ((vr 0))]}
def VH(P:Params):Obj:={cls:=.type "dict",data:=.dict #[eN P "__module__" 323 (vs "rooftold.refusals" 274),eN P "__firstlineno__" 327 (vi 26 326),eN P "__static_attributes__" 328 (vr 115),eN P "__weakref__" 330 (vr 118),eN P "__doc__" 331 .none] 3}
def VG:Obj:={cls:=.type "type",data:=.cls {name:=Str.ofString "Outside",bases:=[.type "Exception"],mro:=[vr 117,.type "Exception",.type "BaseException",.type "object"],ns:=116,qualname:=Str.ofString "Outside" },slots:=#[some ((vr 108)),none,some ((vs "Outside" 316)),some ((vs "Outside" 324)),some (.builtin "Exception.__new__"),some (.bool true)]}
def VF:Obj:={cls:=.type "getset_descriptor",data:=.fields #[vs "__weakref__" 329,vr 117,.builtin "ExceptionGroup.__weakref__",.none]}
def a05:Obj:={cls:=.type "super",data:=.fields #[vr 117,vr 117,vr 117]}
def a04:Obj:={cls:=.type "builtin_function_or_method",data:=.fields #[.builtin "object.__init_subclass__",vr 117]}
def a03(P:Params):Obj:={cls:=.type "dict",data:=.dict #[eN P "__module__" 343 (vs "rooftold.refusals" 274),eN P "__qualname__" 345 (vs "NoFace" 344),eN P "__firstlineno__" 347 (vi 28 346),eN P "__static_attributes__" 348 (vr 128)] 4}
def a02:=oK #[vs "NoFace" 338,vs "NoFace" 339,vs fl 340,vi 28 0,vi 0 0,vi 0 0,vi 0 0,vi 0 0,vr 124,.bool false,vi 181 0,vr 125,.none,.none,.none,.none,vi 341 0,vi 28 0,vs fl 342]
def a01:Obj:={cls:=.type "frame",slots:=#[some ((vr 126)),some ((vr 3)),some ((vr 123)),none,some ((vs "rooftold.refusals" 274)),none,some ((vr 0))]}
def VE(P:Params):Obj:={cls:=.type "dict",data:=.dict #[eN P "__module__" 343 (vs "rooftold.refusals" 274),eN P "__firstlineno__" 347 (vi 28 346),eN P "__static_attributes__" 348 (vr 128),eN P "__weakref__" 350 (vr 131),eN P "__doc__" 351 .none] 3}
def VD:Obj:={cls:=.type "type",data:=.cls {name:=Str.ofString "NoFace",bases:=[.type "Exception"],mro:=[vr 130,.type "Exception",.type "BaseException",.type "object"],ns:=129,qualname:=Str.ofString "NoFace" },slots:=#[some ((vr 121)),none,some ((vs "NoFace" 336)),some ((vs "NoFace" 344)),some (.builtin "Exception.__new__"),some (.bool true)]}
def VC:Obj:={cls:=.type "getset_descriptor",data:=.fields #[vs "__weakref__" 349,vr 130,.builtin "ExceptionGroup.__weakref__",.none]}
def a00:Obj:={cls:=.type "super",data:=.fields #[vr 130,vr 130,vr 130]}
def ZZ:Obj:={cls:=.type "builtin_function_or_method",data:=.fields #[.builtin "object.__init_subclass__",vr 130]}
def ZY(P:Params):Obj:={cls:=.type "dict",data:=.dict #[eN P "__module__" 363 (vs "rooftold.refusals" 274),eN P "__qualname__" 365 (vs "NoSize" 364),eN P "__firstlineno__" 367 (vi 30 366),eN P "__static_attributes__" 368 (vr 141)] 4}
def ZX:=oK #[vs "NoSize" 358,vs "NoSize" 359,vs fl 360,vi 30 0,vi 0 0,vi 0 0,vi 0 0,vi 0 0,vr 137,.bool false,vi 181 0,vr 138,.none,.none,.none,.none,vi 361 0,vi 30 0,vs fl 362]
def ZW:Obj:={cls:=.type "frame",slots:=#[some ((vr 139)),some ((vr 3)),some ((vr 136)),none,some ((vs "rooftold.refusals" 274)),none,some ((vr 0))]}
def VB(P:Params):Obj:={cls:=.type "dict",data:=.dict #[eN P "__module__" 363 (vs "rooftold.refusals" 274),eN P "__firstlineno__" 367 (vi 30 366),eN P "__static_attributes__" 368 (vr 141),eN P "__weakref__" 370 (vr 144),eN P "__doc__" 371 .none] 3}
def VA:Obj:={cls:=.type "type",data:=.cls {name:=Str.ofString "NoSize",bases:=[.type "Exception"],mro:=[vr 143,.type "Exception",.type "BaseException",.type "object"],ns:=142,qualname:=Str.ofString "NoSize" },slots:=#[some ((vr 134)),none,some ((vs "NoSize" 356)),some ((vs "NoSize" 364)),some (.builtin "Exception.__new__"),some (.bool true)]}
def V9:Obj:={cls:=.type "getset_descriptor",data:=.fields #[vs "__weakref__" 369,vr 143,.builtin "ExceptionGroup.__weakref__",.none]}
def ZV:Obj:={cls:=.type "super",data:=.fields #[vr 143,vr 143,vr 143]}
def ZU:Obj:={cls:=.type "builtin_function_or_method",data:=.fields #[.builtin "object.__init_subclass__",vr 143]}
def ZT:=oT #[vs "tell" 379]
def ZS:=oH "answer_or_refusal" (tp 18)
def V8:=oC "answer_or_refusal" 376 32 1 3 147 181 148 149 150 151 380
def V7:=oE "answer_or_refusal" (tp 18) "rooftold.refusals" 274 152
def ZR:=oT #[vs "row" 404,vs "mark" 405,vs "parts" 406,vs "part" 407,vs "value" 408]
def ZQ:=oH "parts_between" (tp 28)
def V6:=oC "parts_between" 401 54 2 3 154 181 155 156 157 158 409
def V5:=oE "parts_between" (tp 28) "rooftold.texts" 383 159
def ZP:=oT #[vs "value" 415]
def ZO:=oH "digit_told" (tp 29)
def V4:=oC "digit_told" 412 65 1 3 161 181 162 163 164 165 416
def V3:=oE "digit_told" (tp 29) "rooftold.texts" 383 166
def ZN:=oT #[vs "row" 422,vs "number" 423,vs "value" 424]
def ZM:=oH "number_told" (tp 30)
def V2:=oC "number_told" 419 69 1 3 168 181 169 170 171 172 425
def V1:=oE "number_told" (tp 30) "rooftold.texts" 383 173
def ZL:=oH "corner_told" (tp 31)
def V0:=oK #[vs "corner_told" 428,vs "corner_told" 429,vs fl 430,vi 80 0,vi 1 0,vi 0 0,vi 0 0,vi 3 0,vr 175,.bool true,vi 181 0,vr 176,.none,.none,.none,vr 177,vi 431 0,vi 80 0,vs fl 432]
def UZ:=oE "corner_told" (tp 31) "rooftold.texts" 383 178
def ZK:=oH "walk_told" (tp 32)
def UY:=oK #[vs "walk_told" 434,vs "walk_told" 435,vs fl 436,vi 85 0,vi 1 0,vi 0 0,vi 0 0,vi 3 0,vr 180,.bool true,vi 181 0,vr 181,.none,.none,.none,vr 182,vi 437 0,vi 85 0,vs fl 438]
def UX:=oE "walk_told" (tp 32) "rooftold.texts" 383 183
def ZJ:=oH "walks_told" (tp 33)
def UW:=oK #[vs "walks_told" 440,vs "walks_told" 441,vs fl 442,vi 90 0,vi 1 0,vi 0 0,vi 0 0,vi 3 0,vr 185,.bool true,vi 181 0,vr 186,.none,.none,.none,vr 187,vi 443 0,vi 90 0,vs fl 444]
def UU:=oE "walks_told" (tp 33) "rooftold.texts" 383 188
def ZI:=oT #[vs "walks" 455,vs "feet" 456,vs "walk" 457,vs "number" 458,vs "corner" 459,vs "before" 460,vs "y" 461]
def ZH:=oH "feet_across_rows" (tp 37)
def UT:=oC "feet_across_rows" 452 99 1 3 190 181 191 192 193 194 462
def US:=oE "feet_across_rows" (tp 37) "rooftold.plans" 446 195
def ZG:=oT #[vs "walks" 468,vs "feet" 469,vs "cells" 470,vs "y" 471,vs "inside" 472,vs "x" 473]
def ZF:=oH "cells_within" (tp 38)
def UR:=oC "cells_within" 465 108 1 3 197 181 198 199 200 201 474
def UQ:=oE "cells_within" (tp 38) "rooftold.plans" 446 202
def ZE:=oT #[vs "cells" 480,vs "waiting" 481,vs "reached" 482,vs "cell" 483,vs "side" 484]
def ZD:=oH "is_joined" (tp 39)
def UP:=oC "is_joined" 477 119 1 3 204 181 205 206 207 208 485
def UO:=oE "is_joined" (tp 39) "rooftold.plans" 446 209
def ZC:=oT #[vs "cell" 491,vs "cells" 492,vs "side" 493,vs "near" 494,vs "far" 495]
def ZA:=oH "meets_in_a_point" (tp 40)
def UN:=oC "meets_in_a_point" 488 129 2 3 211 181 212 213 214 215 496
def UM:=oE "meets_in_a_point" (tp 40) "rooftold.plans" 446 216
def Z9:=oH "is_house" (tp 41)
def UL:=oK #[vs "is_house" 499,vs "is_house" 500,vs fl 501,vi 136 0,vi 1 0,vi 0 0,vi 0 0,vi 3 0,vr 218,.bool true,vi 181 0,vr 219,.none,.none,.none,vr 220,vi 502 0,vi 136 0,vs fl 503]
def UK:=oE "is_house" (tp 41) "rooftold.plans" 446 221
def Z8:=oT #[vs "cells" 508,vs "headings" 509,vs "cell" 510,vs "side" 511]
def Z7:=oH "headings_along_walls" (tp 42)
def UJ:=oC "headings_along_walls" 505 142 1 3 223 181 224 225 226 227 512
def UI:=oE "headings_along_walls" (tp 42) "rooftold.plans" 446 228
def Z6:=oT #[vs "start" 518,vs "headings" 519,vs "walked" 520,vs "corners" 521,vs "point" 522,vs "came" 523,vs "heading" 524]
def Z5:=oH "walk_from" (tp 43)
def UH:=oC "walk_from" 515 149 3 3 230 181 231 232 233 234 525
def UG:=oE "walk_from" (tp 43) "rooftold.plans" 446 235
def Z4:=oT #[vs "cells" 531,vs "headings" 532,vs "walks" 533,vs "walked" 534,vs "point" 535]
def Z3:=oH "walks_round" (tp 44)
def UE:=oC "walks_round" 528 161 1 3 237 181 238 239 240 241 536
def UD:=oE "walks_round" (tp 44) "rooftold.plans" 446 242
def Z2:=oT #[vs "t" 542,vs "walks" 543,vs "cells" 544]
def Z1:=oH "house_told" (tp 45)
def UC:=oC "house_told" 539 169 1 3 244 181 245 246 247 248 545
def UB:=oE "house_told" (tp 45) "rooftold.plans" 446 249
def UA:=oT #[vi 0 550,vi 0 551]
def U9:=oT #[vi 1 552,vi 0 553]
def U8:=oT #[vi 0 554,vi 1 555]
def U7:=oT #[vi 1 556,vi 1 557]
def U6:=oT #[vr 251,vr 252,vr 253,vr 254]
def U5:=oT #[vi (-1) 560,vi (-1) 562]
def U4:=oT #[vi 0 563,vi (-1) 565]
def U3:=oT #[vi 1 566,vi (-1) 568]
def U2:=oT #[vi (-1) 570,vi 0 571]
def U1:=oT #[vi 1 572,vi 0 573]
def U0:=oT #[vi (-1) 575,vi 1 576]
def TZ:=oT #[vi 0 577,vi 1 578]
def TY:=oT #[vi 1 579,vi 1 580]
def TV:=oT #[vr 256,vr 257,vr 258,vr 259,vr 260,vr 261,vr 262,vr 263]
def TU:=oT #[vi (-1) 583,vi (-1) 585]
def TQ:=oT #[vi 0 586,vi (-1) 588]
def TN:=oT #[vi (-1) 590,vi 0 591]
def TM:=oT #[vi 0 592,vi 0 593]
def TJ:=oT #[vr 265,vr 266,vr 267,vr 268]
def Z0:=oT #[vs "cells" 598,vs "found" 599,vs "cell" 600,vs "quarter" 601]
def YZ:=oH "half_cells_of" (tp 50)
def TH:=oC "half_cells_of" 595 179 1 3 270 181 271 272 273 274 602
def TF:=oE "half_cells_of" (tp 50) "rooftold.heights" 548 275
def YY:=oT #[vs "half" 608,vs "layer" 609,vs "step" 610]
def YX:=oH "is_deeper" (tp 51)
def TC:=oC "is_deeper" 605 185 2 3 277 181 278 279 280 281 611
def TB:=oE "is_deeper" (tp 51) "rooftold.heights" 548 282
def YW:=oH "depths_of" (tp 52)
def T9:=oK #[vs "depths_of" 614,vs "depths_of" 615,vs fl 616,vi 190 0,vi 1 0,vi 0 0,vi 0 0,vi 3 0,vr 284,.bool true,vi 181 0,vr 285,.none,.none,.none,vr 286,vi 617 0,vi 190 0,vs fl 618]
def T8:=oE "depths_of" (tp 52) "rooftold.heights" 548 287
def YV:=oH "height_over" (tp 53)
def T7:=oK #[vs "height_over" 620,vs "height_over" 621,vs fl 622,vi 201 0,vi 2 0,vi 0 0,vi 0 0,vi 3 0,vr 289,.bool true,vi 181 0,vr 290,.none,.none,.none,vr 291,vi 623 0,vi 201 0,vs fl 624]
def T6:=oE "height_over" (tp 53) "rooftold.heights" 548 292
def YU:=oT #[vs "depths" 629,vs "heights" 630,vs "half" 631,vs "side" 632,vs "point" 633]
def YT:=oH "heights_of" (tp 54)
def T1:=oC "heights_of" 626 203 1 3 294 181 295 296 297 298 634
def SY:=oE "heights_of" (tp 54) "rooftold.heights" 548 299
def YS(P:Params):Obj:={cls:=.type "dict",data:=.dict #[eN P "__module__" 646 (vs "rooftold.roofs" 637),eN P "__qualname__" 648 (vs "Roof" 647),eN P "__firstlineno__" 650 (vi 212 649),eN P "__init__" 658 (vr 314),eN P "__static_attributes__" 665 (vr 315)] 5}
def YR:Obj:={cls:=.none,data:=.fields #[vi 214 0,vi 4 0,vr 313]}
def YQ:=oK #[vs "Roof" 641,vs "Roof" 642,vs fl 643,vi 212 0,vi 0 0,vi 0 0,vi 0 0,vi 0 0,vr 304,.bool false,vi 181 0,vr 305,.none,.none,.none,.none,vi 644 0,vi 212 0,vs fl 645]
def YO:Obj:={cls:=.type "frame",slots:=#[some ((vr 306)),some ((vr 3)),some ((vr 303)),none,some ((vs "rooftold.roofs" 637)),none,some ((vr 0))]}
def YN:=oT #[vs "self" 654,vs "cells" 655]
def YM:=oG "__init__" "Roof.__init__" (ic (tp 56) 0)
def SX:=oK #[vs "__init__" 651,vs "Roof.__init__" 652,vs fl 653,vi 214 0,vi 2 0,vi 0 0,vi 0 0,vi 3 0,vr 308,.bool true,vi 181 0,vr 309,.none,vr 310,vr 311,vr 312,vi 656 0,vi 214 0,vs fl 657]
def SW:=oF "__init__" "Roof.__init__" (ic (tp 56) 0) "rooftold.roofs" 637 313
def YL:=oT #[vs "cells" 659,vs "depths" 660,vs "faces" 661,vs "facings" 662,vs "heights" 663,vs "numbers" 664]
def SV(P:Params):Obj:={cls:=.type "dict",data:=.dict #[eN P "__module__" 646 (vs "rooftold.roofs" 637),eN P "__firstlineno__" 650 (vi 212 649),eN P "__init__" 658 (vr 314),eN P "__static_attributes__" 665 (vr 315),eN P "__dict__" 667 (vr 318),eN P "__weakref__" 669 (vr 319),eN P "__doc__" 670 .none] 4}
def SU:Obj:={cls:=.type "type",data:=.cls {name:=Str.ofString "Roof",bases:=[.type "object"],mro:=[vr 317,.type "object"],ns:=316,qualname:=Str.ofString "Roof" },slots:=#[none,none,some ((vs "Roof" 639)),some ((vs "Roof" 647)),some (.builtin "object.__new__"),some (.bool true)]}
def SS:Obj:={cls:=.type "getset_descriptor",data:=.fields #[vs "__dict__" 666,vr 317,.builtin "function.__dict__",.builtin "function.__dict__#set"]}
def SR:Obj:={cls:=.type "getset_descriptor",data:=.fields #[vs "__weakref__" 668,vr 317,.builtin "ExceptionGroup.__weakref__",.none]}
def YK:Obj:={cls:=.type "super",data:=.fields #[vr 317,vr 317,vr 317]}
def YJ:Obj:={cls:=.type "builtin_function_or_method",data:=.fields #[.builtin "object.__init_subclass__",vr 317]}
def YI:=oT #[vs "half" 676,vs "side" 677,vs "depth" 678,vs "heights" 679,vs "start_is_low" 680,vs "end_is_low" 681]
def YH:=oH "facing_of" (tp 57)
def SQ:=oC "facing_of" 673 221 4 3 322 181 323 324 325 326 682
def SO:=oE "facing_of" (tp 57) "rooftold.roofs" 637 327
def YG:=oT #[vs "depths" 688,vs "heights" 689,vs "facings" 690,vs "half" 691,vs "depth" 692,vs "side" 693]
def YF:=oH "facings_of" (tp 58)
def SN:=oC "facings_of" 685 231 2 3 329 181 330 331 332 333 694
def SM:=oE "facings_of" (tp 58) "rooftold.roofs" 637 334
def YE:=oT #[vs "triangle" 700,vs "i" 701,vs "j" 702,vs "side" 703,vs "across" 704]
def YD:=oH "triangle_across" (tp 59)
def SK:=oC "triangle_across" 697 237 1 3 336 181 337 338 339 340 705
def SJ:=oE "triangle_across" (tp 59) "rooftold.roofs" 637 341
def YC:=oT #[vs "triangle" 711,vs "i" 712,vs "j" 713,vs "side" 714]
def YB:=oH "triangle_on_left" (tp 60)
def SI:=oC "triangle_on_left" 708 241 1 3 343 181 344 345 346 347 715
def SH:=oE "triangle_on_left" (tp 60) "rooftold.roofs" 637 348
def YA:=oT #[vs "triangle" 721,vs "i" 722,vs "j" 723,vs "side" 724]
def Y9:=oH "triangle_on_right" (tp 61)
def SG:=oC "triangle_on_right" 718 244 1 3 350 181 351 352 353 354 725
def SF:=oE "triangle_on_right" (tp 61) "rooftold.roofs" 637 355
def Y8:=oT #[vs "first" 731,vs "number" 732,vs "facings" 733,vs "numbers" 734,vs "facing" 735,vs "waiting" 736,vs "triangle" 737]
def Y7:=oH "number_face" (tp 62)
def SE:=oC "number_face" 728 247 4 3 357 181 358 359 360 361 738
def SD:=oE "number_face" (tp 62) "rooftold.roofs" 637 362
def Y6:=oT #[vs "facings" 744,vs "numbers" 745,vs "count" 746,vs "triangle" 747]
def Y5:=oH "numbers_of" (tp 63)
def SA:=oC "numbers_of" 741 257 1 3 364 181 365 366 367 368 748
def S9:=oE "numbers_of" (tp 63) "rooftold.roofs" 637 369
def Y4:=oT #[vs "numbers" 754,vs "faces" 755,vs "triangle" 756,vs "number" 757]
def Y3:=oH "faces_of" (tp 64)
def S8:=oC "faces_of" 751 265 1 3 371 181 372 373 374 375 758
def S7:=oE "faces_of" (tp 64) "rooftold.roofs" 637 376
def Y2:=oT #[vs "triangle" 772,vs "i" 773,vs "j" 774,vs "side" 775,vs "step" 776]
def Y1:=oH "middle_of" (tp 69)
def S6:=oC "middle_of" 769 276 1 3 378 181 379 380 381 382 777
def S5:=oE "middle_of" (tp 69) "rooftold.ridges" 761 383
def Y0:=oT #[vs "triangle" 783,vs "other" 784,vs "facings" 785,vs "facing" 786,vs "own" 787,vs "to" 788,vs "ahead" 789]
def XZ:=oH "kind_between" (tp 70)
def S4:=oC "kind_between" 780 280 3 3 385 181 386 387 388 389 790
def S3:=oE "kind_between" (tp 70) "rooftold.ridges" 761 390
def XY:=oT #[vs "point" 796]
def XX:=oH "doubled" (tp 71)
def S0:=oC "doubled" 793 290 1 3 392 181 393 394 395 396 797
def RZ:=oE "doubled" (tp 71) "rooftold.ridges" 761 397
def XW:=oT #[vs "triangle" 803,vs "half" 804]
def XU:=oH "ends_within" (tp 72)
def RY:=oC "ends_within" 800 292 1 3 399 181 400 401 402 403 805
def RX:=oE "ends_within" (tp 72) "rooftold.ridges" 761 404
def XT:=oT #[vs "triangle" 811,vs "half" 812]
def XS:=oH "ends_across" (tp 73)
def RW:=oC "ends_across" 808 295 1 3 406 181 407 408 409 410 813
def RV:=oE "ends_across" (tp 73) "rooftold.ridges" 761 411
def XR:=oT #[vs "triangle" 819,vs "other" 820,vs "ends" 821,vs "roof" 822,vs "number" 823,vs "beside" 824,vs "start" 825,vs "end" 826,vs "step" 827]
def XQ:=oH "piece_between" (tp 74)
def RU:=oC "piece_between" 816 298 4 3 413 181 414 415 416 417 828
def RS:=oE "piece_between" (tp 74) "rooftold.ridges" 761 418
def XO:=oT #[vs "roof" 834,vs "pieces" 835,vs "triangle" 836,vs "left" 837,vs "across" 838]
def XN:=oH "pieces_of" (tp 75)
def RR:=oC "pieces_of" 831 304 1 3 420 181 421 422 423 424 839
def RQ:=oE "pieces_of" (tp 75) "rooftold.ridges" 761 425
def XM:=oT #[vs "piece" 845,vs "lesser" 846,vs "greater" 847,vs "kind" 848,vs "start" 849,vs "step" 850]
def XJ:=oH "piece_behind" (tp 76)
def RP:=oC "piece_behind" 842 314 1 3 427 181 428 429 430 431 851
def RO:=oE "piece_behind" (tp 76) "rooftold.ridges" 761 432
def XI:=oT #[vs "piece" 857,vs "pieces" 858,vs "lesser" 859,vs "greater" 860,vs "kind" 861,vs "start" 862,vs "step" 863,vs "end" 864]
def XH:=oH "line_from" (tp 77)
def RN:=oC "line_from" 854 317 2 3 434 181 435 436 437 438 865
def RL:=oE "line_from" (tp 77) "rooftold.ridges" 761 439
def XG:=oT #[vs "row" 871]
def XF:=oH "line_order" (tp 78)
def RK:=oC "line_order" 868 323 1 3 441 181 442 443 444 445 872
def RJ:=oE "line_order" (tp 78) "rooftold.ridges" 761 446
def XE:=oH "line_rows" (tp 79)
def RI:=oK #[vs "line_rows" 875,vs "line_rows" 876,vs fl 877,vi 325 0,vi 1 0,vi 0 0,vi 0 0,vi 3 0,vr 448,.bool true,vi 181 0,vr 449,.none,.none,.none,vr 450,vi 878 0,vi 325 0,vs fl 879]
def RH:=oE "line_rows" (tp 79) "rooftold.ridges" 761 451
def XD:=oT #[vs "t" 886]
def XC:=oH "roof_told" (tp 81)
def RG:=oC "roof_told" 883 330 1 3 453 181 454 455 456 457 887
def RF:=oE "roof_told" (tp 81) "rooftold.desk" 881 458
def XB:=oT #[vs "rows" 893,vs "answer" 894,vs "row" 895]
def X9:=oH "counted" (tp 82)
def RE:=oC "counted" 890 332 1 3 460 181 461 462 463 464 896
def RD:=oE "counted" (tp 82) "rooftold.desk" 881 465
def X8:=oT #[vs "t" 902]
def X7:=oT #[vs "t" 903]
def X6:=oH "lines" (tp 83)
def RC:=oC "lines" 899 337 1 3 467 181 468 469 470 471 904
def RB:=oE "lines" (tp 83) "rooftold.desk" 881 472
def hpK:Params->Frag:=λP=>(nat_lit 2,o2 P)::(nat_lit 3,o3 P)::(nat_lit 15,o15)::(nat_lit 16,o16)::(nat_lit 17,o17)::(nat_lit 18,o18)::(nat_lit 19,o19)::(nat_lit 20,o20)::(nat_lit 21,o21)::(nat_lit 22,o22)::(nat_lit 23,o23)::(nat_lit 24,o24)::(nat_lit 25,o25)::(nat_lit 31,o31)::(nat_lit 32,o32)::(nat_lit 38,o38)::(nat_lit 39,o39)::(nat_lit 45,o45)::(nat_lit 46,o46)::(nat_lit 52,o52)::(nat_lit 53,o53)::(nat_lit 59,o59)::(nat_lit 60,o60)::(nat_lit 66,o66)::(nat_lit 67,o67)::(nat_lit 73,o73)::(nat_lit 74,o74)::(nat_lit 80,o80)::(nat_lit 81,o81)::(nat_lit 82,o82)::(nat_lit 90,o90 P)::(nat_lit 91,o91)::(nat_lit 92,o92)::(nat_lit 95,o82)::(nat_lit 103,VL P)::(nat_lit 104,VJ)::(nat_lit 105,VI)::(nat_lit 108,o82)::(nat_lit 116,VH P)::(nat_lit 117,VG)::(nat_lit 118,VF)::(nat_lit 121,o82)::(nat_lit 129,VE P)::(nat_lit 130,VD)::(nat_lit 131,VC)::(nat_lit 134,o82)::(nat_lit 142,VB P)::(nat_lit 143,VA)::(nat_lit 144,V9)::(nat_lit 152,V8)::(nat_lit 153,V7)::(nat_lit 159,V6)::(nat_lit 160,V5)::(nat_lit 166,V4)::(nat_lit 167,V3)::(nat_lit 173,V2)::(nat_lit 174,V1)::(nat_lit 178,V0)::(nat_lit 179,UZ)::(nat_lit 183,UY)::(nat_lit 184,UX)::(nat_lit 188,UW)::(nat_lit 189,UU)::(nat_lit 195,UT)::(nat_lit 196,US)::(nat_lit 202,UR)::(nat_lit 203,UQ)::(nat_lit 209,UP)::(nat_lit 210,UO)::(nat_lit 216,UN)::(nat_lit 217,UM)::(nat_lit 221,UL)::(nat_lit 222,UK)::(nat_lit 228,UJ)::(nat_lit 229,UI)::(nat_lit 235,UH)::(nat_lit 236,UG)::(nat_lit 242,UE)::(nat_lit 243,UD)::(nat_lit 249,UC)::(nat_lit 250,UB)::(nat_lit 251,UA)::(nat_lit 252,U9)::(nat_lit 253,U8)::(nat_lit 254,U7)::(nat_lit 255,U6)::(nat_lit 256,U5)::(nat_lit 257,U4)::(nat_lit 258,U3)::(nat_lit 259,U2)::(nat_lit 260,U1)::(nat_lit 261,U0)::(nat_lit 262,TZ)::(nat_lit 263,TY)::(nat_lit 264,TV)::(nat_lit 265,TU)::(nat_lit 266,TQ)::(nat_lit 267,TN)::(nat_lit 268,TM)::(nat_lit 269,TJ)::(nat_lit 275,TH)::(nat_lit 276,TF)::(nat_lit 282,TC)::(nat_lit 283,TB)::(nat_lit 287,T9)::(nat_lit 288,T8)::(nat_lit 292,T7)::(nat_lit 293,T6)::(nat_lit 299,T1)::(nat_lit 300,SY)::(nat_lit 313,SX)::(nat_lit 314,SW)::(nat_lit 316,SV P)::(nat_lit 317,SU)::(nat_lit 318,SS)::(nat_lit 319,SR)::(nat_lit 327,SQ)::(nat_lit 328,SO)::(nat_lit 334,SN)::(nat_lit 335,SM)::(nat_lit 341,SK)::(nat_lit 342,SJ)::(nat_lit 348,SI)::(nat_lit 349,SH)::(nat_lit 355,SG)::(nat_lit 356,SF)::(nat_lit 362,SE)::(nat_lit 363,SD)::(nat_lit 369,SA)::(nat_lit 370,S9)::(nat_lit 376,S8)::(nat_lit 377,S7)::(nat_lit 383,S6)::(nat_lit 384,S5)::(nat_lit 390,S4)::(nat_lit 391,S3)::(nat_lit 397,S0)::(nat_lit 398,RZ)::(nat_lit 404,RY)::(nat_lit 405,RX)::(nat_lit 411,RW)::(nat_lit 412,RV)::(nat_lit 418,RU)::(nat_lit 419,RS)::(nat_lit 425,RR)::(nat_lit 426,RQ)::(nat_lit 432,RP)::(nat_lit 433,RO)::(nat_lit 439,RN)::(nat_lit 440,RL)::(nat_lit 446,RK)::(nat_lit 447,RJ)::(nat_lit 451,RI)::(nat_lit 452,RH)::(nat_lit 458,RG)::(nat_lit 459,RF)::(nat_lit 465,RE)::(nat_lit 466,RD)::(nat_lit 472,RC)::(nat_lit 473,RB)::[]
def as:List xv:=[2,3,15,16,17,18,19,20,21,22,23,24,25,31,32,38,39,45,46,52,53,59,60,66,67,73,74,80,81,82,90,91,92,95,103,104,105,108,116,117,118,121,129,130,131,134,142,143,144,152,153,159,160,166,167,173,174,178,179,183,184,188,189,195,196,202,203,209,210,216,217,221,222,228,229,235,236,242,243,249,250,251,252,253,254,255,256,257,258,259,260,261,262,263,264,265,266,267,268,269,275,276,282,283,287,288,292,293,299,300,313,314,316,317,318,319,327,328,334,335,341,342,348,349,355,356,362,363,369,370,376,377,383,384,390,391,397,398,404,405,411,412,418,419,425,426,432,433,439,440,446,447,451,452,458,459,465,466,472,473]
theorem hkE:∀P,as=(hpK P).map (·.1):=λ_=>by kernel_rfl
def H1(P:Params):Fp:={objs:={toList:=[boot_o_0 P,boot_o_1 P,o2 P,o3 P,boot_o_4 P,boot_o_5 P,boot_o_6 P,boot_o_7 P,boot_o_8 P,boot_o_9 P,boot_o_10 P,o11,o12,o13,o14,o15,o16,o17,o18,o19,o20,o21,o22,o23,o24,o25,o11,o27,o28,o11,o30,o31,o32,o11,o27,o35,o11,o37,o38,o39,o11,o27,o42,o11,o44,o45,o46,o11,o27,o49,o11,o51,o52,o53,o11,o27,o56,o11,o58,o59,o60,o11,o27,o63,o11,o65,o66,o67,o11,o27,o70,o11,o72,o73,o74,o11,o27,o77,o11,o79,o80,o81,o82,o83,o84 P,o11,o27,o87,o88,o11,o90 P,o91,o92,o93,o94,o82,o83,o97 P,o11,o27,a0C,a0B,o11,VL P,VJ,VI,a0A,a09,o82,o83,a08 P,o11,o27,a07,a06,o11,VH P,VG,VF,a05,a04,o82,o83,a03 P,o11,o27,a02,a01,o11,VE P,VD,VC,a00,ZZ,o82,o83,ZY P,o11,o27,ZX,ZW,o11,VB P,VA,V9,ZV,ZU,o11,o27,ZT,o11,ZS,V8,V7,o11,o27,ZR,o11,ZQ,V6,V5,o11,o27,ZP,o11,ZO,V4,V3,o11,o27,ZN,o11,ZM,V2,V1,o11,o27,ZL,V0,UZ,o11,o27,ZK,UY,UX,o11,o27,ZJ,UW,UU,o11,o27,ZI,o11,ZH,UT,US,o11,o27,ZG,o11,ZF,UR,UQ,o11,o27,ZE,o11,ZD,UP,UO,o11,o27,ZC,o11,ZA,UN,UM,o11,o27,Z9,UL,UK,o11,o27,Z8,o11,Z7,UJ,UI,o11,o27,Z6,o11,Z5,UH,UG,o11,o27,Z4,o11,Z3,UE,UD,o11,o27,Z2,o11,Z1,UC,UB,UA,U9,U8,U7,U6,U5,U4,U3,U2,U1,U0,TZ,TY,TV,TU,TQ,TN,TM,TJ,o11,o27,Z0,o11,YZ,TH,TF,o11,o27,YY,o11,YX,TC,TB,o11,o27,YW,T9,T8,o11,o27,YV,T7,T6,o11,o27,YU,o11,YT,T1,SY,o11,o83,YS P,o11,YR,YQ,YO,o11,o27,YN,o11,YM,SX,SW,YL,SV P,SU,SS,SR,YK,YJ,o11,o27,YI,o11,YH,SQ,SO,o11,o27,YG,o11,YF,SN,SM,o11,o27,YE,o11,YD,SK,SJ,o11,o27,YC,o11,YB,SI,SH,o11,o27,YA,o11,Y9,SG,SF,o11,o27,Y8,o11,Y7,SE,SD,o11,o27,Y6,o11,Y5,SA,S9,o11,o27,Y4,o11,Y3,S8,S7,o11,o27,Y2,o11,Y1,S6,S5,o11,o27,Y0,o11,XZ,S4,S3,o11,o27,XY,o11,XX,S0,RZ,o11,o27,XW,o11,XU,RY,RX,o11,o27,XT,o11,XS,RW,RV,o11,o27,XR,o11,XQ,RU,RS,o11,o27,XO,o11,XN,RR,RQ,o11,o27,XM,o11,XJ,RP,RO,o11,o27,XI,o11,XH,RN,RL,o11,o27,XG,o11,XF,RK,RJ,o11,o27,XE,RI,RH,o11,o27,XD,o11,XC,RG,RF,o11,o27,XB,o11,X9,RE,RD,o11,o27,X8,X7,X6,RC,RB]}}
def vw:Fo:=view PySem.Challenge.pw_rooftold_s03_lines [1,2,3,4,5,6,7,8,9,10,11,13,14,15,16,17,18,20,21,22,23,24,25,26,27,28,29,30,31,32,33,35,36,37,38,39,40,41,42,43,44,45,47,48,49,50,51,52,53,54,56,57,58,59,60,61,62,63,64,66,67,68,69,70,71,72,73,74,75,76,77,78,79,81,82,83]
abbrev xt(s:Fe):Bool:=xlAt vw [] s&& recOk [] s
theorem run:∀w os,topRun treeTable PySem.Challenge.rw_rooftold_s03_lines.prog w 11 (some (.ref 6)) 6522 {heap:=boot_heap w.params,gens:=Array.mk [],drawn:=boot_drawn,toks:=boot_toks,os:=os} (topStub PySem.Challenge.rw_rooftold_s03_lines.prog)=some {heap:=H1 w.params,gens:=Array.mk [],drawn:=boot_drawn,toks:=907,os:=os}:=by intro w os;kernel_rfl
theorem left:LeftO PySem.Challenge.rw_rooftold_s03_lines.prog vw [] xt (Hook.obs (kHook hpK as hkE)) (Hook.val (kHook hpK as hkE)) 6522:=by refine LeftO.of_pieces (M:=6522) (boot_open (by kernel_rfl) (by decide) (λs=>by kernel_rfl)) (λw=>by kernel_rfl) run (by decide) (λw=>?_);funext os;kernel_rfl
end
end HP
namespace L2
open PySem PySem.Spec PyProof.Rows
abbrev Key:=Sum Int Str
noncomputable def rX:Key->fv->Bool
 | .inl k,v=>fv.isInt k v
 | .inr x,v=>fv.isStrOf x v
def a0H(w:Fw):Key->Int
 | .inl k=>hashInt k
 | .inr x=>hashStr w x
theorem cF:∀{k:Key}{v:fv},rX k v=true->(∃i t,k=Sum.inl i/\v=fv.int i t)\/(∃x t,k=Sum.inr x/\v=fv.str x t)
 | .inl i,v,h=>by obtain⟨t,e⟩:=fv.isInt_shape (k:=i) (v:=v) h;exact .inl ⟨i,t,rfl,e⟩
 | .inr x,v,h=>by obtain⟨t,e⟩:=fv.isStrOf_shape (x:=x) (v:=v) h;exact .inr ⟨x,t,rfl,e⟩
theorem GY(i:Int)(t:Tok):rX (.inl i) (.int i t)=true:=by simp[rX,fv.isInt]
theorem GX(x:Str)(t:Tok):rX (.inr x) (.str x t)=true:=by simp[rX,fv.isStrOf]
theorem PR(a b:Int):decide ((Sum.inl a:Key)=Sum.inl b)=(a==b):=by
 by_cases e:a=b
 ·subst e;simp
 ·have h:¬(Sum.inl a:Key)=Sum.inl b:=λq=>e (Sum.inl.inj q)
  rw[decide_eq_false h];exact(beq_eq_false_iff_ne.mpr e).symm
theorem PM(a b:Str):decide ((Sum.inr a:Key)=Sum.inr b)=decide (a=b):=by
 by_cases e:a=b
 ·subst e;simp
 ·have h:¬(Sum.inr a:Key)=Sum.inr b:=λq=>e (Sum.inr.inj q)
  rw[decide_eq_false h,decide_eq_false e]
theorem PQ(a:Int)(b:Str):decide ((Sum.inl a:Key)=Sum.inr b)=false:=decide_eq_false (λq=>nomatch q)
theorem PN(a:Str)(b:Int):decide ((Sum.inr a:Key)=Sum.inl b)=false:=decide_eq_false (λq=>nomatch q)
noncomputable def bX(prog:Fo)(w:Fw):PySem.KeyKind prog w Key where
 is:=rX
 hash:=a0H w
 inj:=λv a b ha hb=>by
  rcases cF ha with⟨i,t,rfl,rfl⟩|⟨x,t,rfl,rfl⟩
  ·rcases cF hb with⟨j,u,rfl,e⟩|⟨y,u,rfl,e⟩
   ·injection e with e1 _;rw[e1]
   ·exact nomatch e
  ·rcases cF hb with⟨j,u,rfl,e⟩|⟨y,u,rfl,e⟩
   ·exact nomatch e
   ·injection e with e1 _;rw[e1]
 byValue:=λk v h=>by rcases cF h with⟨i,t,rfl,rfl⟩|⟨x,t,rfl,rfl⟩<;>rfl
 pyHash:=λhv h=>by
  rcases cF hv with⟨i,t,rfl,rfl⟩|⟨x,t,rfl,rfl⟩
  ·exact wpAny_pyHash_int h
  ·exact wpAny_pyHash_str h
 eqBool:=λhu hv h=>by
  rcases cF hu with⟨i,t,rfl,rfl⟩|⟨x,t,rfl,rfl⟩
  ·rcases cF hv with⟨j,u,rfl,rfl⟩|⟨y,u,rfl,rfl⟩
   ·rw[PR]at h;exact wpAny_eqBool_int h
   ·rw[PQ]at h;exact SeqAt.EqAt.int_str i t y u _ _ _ _ h
  ·rcases cF hv with⟨j,u,rfl,rfl⟩|⟨y,u,rfl,rfl⟩
   ·rw[PN]at h;exact SeqAt.EqAt.str_int x t j u _ _ _ _ h
   ·rw[PM]at h;exact wpAny_eqBool_str h
 «strs» :=λk x t v h=>by
  rcases cF h with⟨i,u,rfl,e⟩|⟨y,u,rfl,e⟩
  ·exact nomatch e
  ·injection e with e1 _
   subst e1;cases v<;>rfl
theorem AQ(prog:Fo)(w:Fw)(i:Int)(t:Tok):(bX prog w).is (.inl i) (.int i t)=true:=GY i t
theorem AO(prog:Fo)(w:Fw)(x:Str)(t:Tok):(bX prog w).is (.inr x) (.str x t)=true:=GX x t
inductive V where
 |non|bl (b:Bool)|int (i:Int)|str (x:Str)|byt (b:Array UInt8)|flt (b:UInt64)|ref (a:xv)|ty (n:String)
 deriving DecidableEq
noncomputable def RelV:V->fv->Prop
 | .non,u=>u=fv.none
 | .bl b,u=>u=fv.bool b
 | .int i,u=>∃t,u=fv.int i t
 | .str x,u=>∃t,u=fv.str x t
 | .byt b,u=>∃t,u=fv.bytes b t
 | .flt b,u=>∃t,u=fv.float b t
 | .ref a,u=>u=fv.ref a
 | .ty n,u=>u=fv.type n
abbrev Vals:List V->List fv->Prop:=Paired RelV
theorem Vals.length{xs:List V}{us:List fv}(r:Vals xs us):xs.length=us.length:=Paired.length r
theorem Vals.get:∀{xs:List V}{us:List fv}{i:Nat}{x:V},Vals xs us->xs[i]? =some x->∃u,us[i]? =some u/\RelV x u
 |_,_,_,_,.nil,e=>by simp at e
 |_,_,0,_,.cons r _,e=>by simp at e;subst e;exact⟨_,rfl,r⟩
 |_,_,i+1,x,.cons _ t,e=>by obtain⟨u,h1,h2⟩:=Vals.get (i:=i) (x:=x) t (by simpa using e);exact⟨u,by simpa using h1,h2⟩
theorem Vals.append:∀{xs ys:List V}{us ws:List fv},Vals xs us->Vals ys ws->Vals (xs++ys) (us++ws)
 |_,_,_,_,.nil,s=>s
 |_,_,_,_,.cons r t,s=>.cons r (Vals.append t s)
theorem Vals.take:∀{xs:List V}{us:List fv}(n:Nat),Vals xs us->Vals (xs.take n) (us.take n)
 |_,_,0,_=>.nil
 |_,_,_+1,.nil=>.nil
 |_,_,n+1,.cons r t=>.cons r (Vals.take n t)
theorem Vals.drop:∀{xs:List V}{us:List fv}(n:Nat),Vals xs us->Vals (xs.drop n) (us.drop n)
 |_,_,0,r=>r
 |_,_,_+1,.nil=>.nil
 |_,_,n+1,.cons _ t=>Vals.drop n t
noncomputable def oH:Option V->Option fv->Prop
 |some v,some u=>RelV v u
 |none,none=>True
 |_,_=>False
noncomputable def KV{κ:Type}:List (κ×V)->List (κ×fv)->Prop:=Paired λ(p:κ×V)(q:κ×fv)=>p.1=q.1/\RelV p.2 q.2
def kV:Key->V
 | .inl i=>.int i
 | .inr x=>.str x
inductive HO where
 |lst (xs:List V)
 |tup (xs:List V)
 |dK (kvs:List (Key×V))|dT (kvs:List (List Key×V))
 |set (S:Int->Bool) (n:Nat)
 |ins (C dx:xv) (fs:List (Str×V))
 |own (x:xv)
 |xd (fs:List (Str×V))
 |met (f x:xv)
 |rng (lo hi:Int)
 |frz (o:Obj) (u:HO)
 |tbl (ps:Array fv)
 |ext (φ:Fp->Prop)
abbrev Hp:=xv->Option HO
def upd(H:Hp)(a:xv)(o:HO):Hp:=λb=>if b=a then some o else H b
theorem a8{H:Hp}{a:xv}{o:HO}:upd H a o a=some o:=by unfold upd;rw[ah rfl]
theorem aB{H:Hp}{a b:xv}{o:HO}(h:b≠a):upd H a o b=H b:=by unfold upd;rw[af h]
theorem fK{H:Hp}{a b:xv}{o u:HO}(h:H a=some o)(h':H b=some u)(d:o≠u):a≠b:=by intro e;subst e;rw[h]at h';exact d (Option.some.inj h')
theorem aI{H:Hp}{a b:xv}{o:HO}(h:H a=some o)(h':H b=none):a≠b:=by intro e;subst e;rw[h]at h';cases h'
section
variable (P:Fo) (w:Fw)
noncomputable def cS(H:Hp)(h:Fp)(a:xv):HO->Prop
 | .lst xs=>xs.length<=Fh/\∃(its:List fv)(n:Nat),Vals xs its/\h.get? a=some {cls:=.type "list",data:=.seq its.toArray n}
 | .tup xs=>xs.length<=Fh/\∃its:List fv,Vals xs its/\IsTup h a its.toArray
 | .dK kvs=>kvs.length<=Fh/\(a==Fy)=false/\∃vs,KV kvs vs/\h.DictOf (bX P w) a vs
 | .dT kvs=>kvs.length<=Fh/\(a==Fy)=false/\∃xs:List (List Key×xv×fv),
   Paired (λ(p:List Key×V)(q:List Key×xv×fv)=>p.1=q.1/\H q.2.1=some (.tup (p.1.map kV))/\RelV p.2 q.2.2) kvs xs/\
   ∃o es ep,h.get? a=some o/\o.ExactDict/\o.data=.dict es ep/\es.toList=xs.map (entryOfKey (tupleKind (bX P w)))/\(xs.map (·.1)).Nodup
 | .set S n=>h.SetOf (intKind P w) a S n
 | .ins C dx fs=>H dx=some (.own a)/\fs.length<=1000/\dx≠a/\h.get? a=some (W.instObj C dx)/\
   ∃mA,h.Ns1 dx mA/\(∀f,oH (fs.lookup f) (mA f))/\PySem.Within mA (fs.map (·.1))
 | .own _=>∃o,h.get? a=some o
 | .xd fs=>∃mA,h.Ns1 a mA/\∀f,oH (fs.lookup f) (mA f)
 | .rng lo hi=>∃t u v,h.get? a=some {cls:=.type "range",data:=.fields #[.int lo t,.int hi u,.int 1 v]}
 | .frz o u=>h.get? a=some o/\cS H h a u
 | .tbl ps=>h.get? a=some {cls:=.none,data:=.fields ps}
 | .met f x=>h.get? a=some (W.methodObj (.ref f) (.ref x))
 | .ext φ=>φ h/\(∃o,h.get? a=some o)/\∀h1 h2:Fp,φ h1->(∀o,h1.get? a=some o->h2.get? a=some o)->φ h2
def HOk(H:Hp)(h:Fp):Prop:=∀a o,H a=some o->cS P w H h a o
end
section
variable {P:Fo}{w:Fw}{H H':Hp}{h h':Fp}{a:xv}{o:HO}
theorem cS.lt(x:cS P w H h a o):a<h.objs.size:=by
 cases o with
 |lst xs=>obtain⟨_,_,_,_,e⟩:=x;exact br e
 |tup xs=>obtain⟨_,_,_,p⟩:=x;exact p.lt
 |dK kvs=>obtain⟨_,_,_,_,o,_,_,e,_⟩:=x;exact br e
 |dT kvs=>obtain⟨_,_,_,_,o,_,_,e,_⟩:=x;exact br e
 |set S n=>obtain⟨o,_,_,_,e,_⟩:=x;exact br e
 |ins C dx fs=>obtain⟨_,_,_,e,_⟩:=x;exact br e
 |own y=>obtain⟨_,e⟩:=x;exact br e
 |xd fs=>obtain⟨_,⟨_,_,_,e,_⟩,_⟩:=x;exact br e
 |rng lo hi=>obtain⟨_,_,_,e⟩:=x;exact br e
 |frz ob u=>obtain⟨e,_⟩:=x;exact br e
 |tbl ps=>exact br (show h.get? a=some _ from x)
 |met f y=>exact br (show h.get? a=some _ from x)
 |ext φ=>obtain⟨_,⟨_,e⟩,_⟩:=x;exact br e
theorem Paired.MX{α β:Type}{F G:α->β->Prop}:∀{l₁:List α}{l₂:List β},Paired F l₁ l₂->(∀a b,F a b->G a b)->Paired G l₁ l₂
 |_,_,.nil,_=>.nil
 |_,_,.cons r t,f=>.cons (f _ _ r) (Paired.MX t f)
theorem cS.oP(x:cS P w H h a o)(k:∀b u,(b=a\/H b=some (.own a))->h.get? b=some u->h'.get? b=some u)
  (ho:∀b,H b=some (.own a)->H' b=some (.own a)) (ht:∀b xs,H b=some (.tup xs)->H' b=some (.tup xs)):cS P w H' h' a o:=by
 induction o with
 |lst xs=>obtain⟨z,its,n,r,e⟩:=x;exact⟨z,its,n,r,k _ _ (.inl rfl) e⟩
 |tup xs=>obtain⟨z,its,r,ob,e,c⟩:=x;exact⟨z,its,r,ob,k _ _ (.inl rfl) e,c⟩
 |dK kvs=>obtain⟨z,y,vs,r,ob,es,ep,e,c⟩:=x;exact⟨z,y,vs,r,ob,es,ep,k _ _ (.inl rfl) e,c⟩
 |dT kvs=>obtain⟨z,y,xs,r,ob,es,ep,e,c⟩:=x;exact⟨z,y,xs,Paired.MX r λp q z=>⟨z.1,ht _ _ z.2.1,z.2.2⟩,ob,es,ep,k _ _ (.inl rfl) e,c⟩
 |set S n=>obtain⟨ob,es,ep,t,e,c⟩:=x;exact⟨ob,es,ep,t,k _ _ (.inl rfl) e,c⟩
 |ins C dx fs=>obtain⟨d,z,ne,e,mA,⟨od,es,ep,e2,c⟩,r⟩:=x;exact⟨ho _ d,z,ne,k _ _ (.inl rfl) e,mA,⟨od,es,ep,k _ _ (.inr d) e2,c⟩,r⟩
 |own y=>obtain⟨ob,e⟩:=x;exact⟨ob,k _ _ (.inl rfl) e⟩
 |xd fs=>obtain⟨mA,⟨od,es,ep,e,c⟩,r⟩:=x;exact⟨mA,⟨od,es,ep,k _ _ (.inl rfl) e,c⟩,r⟩
 |rng lo hi=>obtain⟨t,u,v,e⟩:=x;exact⟨t,u,v,k _ _ (.inl rfl) e⟩
 |frz ob u ih=>obtain⟨e,q⟩:=x;exact⟨k _ _ (.inl rfl) e,ih q⟩
 |tbl ps=>
  have e:h.get? a=some {cls:=.none,data:=.fields ps}:=x;show h'.get? a=some {cls:=.none,data:=.fields ps}
  exact k a _ (.inl rfl) e
 |met f y=>
  have e:h.get? a=some (W.methodObj (.ref f) (.ref y)):=x;show h'.get? a=some (W.methodObj (.ref f) (.ref y))
  exact k a _ (.inl rfl) e
 |ext φ=>obtain⟨p,⟨o,e⟩,st⟩:=x;exact⟨st _ _ p λo q=>k _ _ (.inl rfl) q,⟨o,k _ _ (.inl rfl) e⟩,st⟩
theorem HOk.lt(x:HOk P w H h)(e:H a=some o):a<h.objs.size:=(x a o e).lt
theorem HOk.fresh(x:HOk P w H h)(e:h.objs.size<=a):H a=none:=by
 cases q:H a with
 |none=>rfl
 |some u=>exact absurd (bz (x.lt q) e) (gu _)
theorem HOk.kept(x:HOk P w H h)(k:∀b u,h.get? b=some u->h'.get? b=some u):HOk P w H h':=λa o e=>
 (x a o e).oP (λb u _ q=>k b u q) (λ_ q=>q) λ_ _ q=>q
theorem HOk.laid(x:HOk P w H h)(k:∀b u,h.get? b=some u->h'.get? b=some u)(hp:h.objs.size<=a)(new:cS P w (upd H a o) h' a o):HOk P w (upd H a o) h':=λb u e=>by
 have hn:=x.fresh hp;by_cases hb:b=a
 ·subst hb;rw[a8]at e;cases e;exact new
 ·rw[aB hb]at e;exact(x b u e).oP (λc v _ q=>k c v q) (λc q=>by rw[aB (aI q hn)];exact q) λc xs q=>by rw[aB (aI q hn)];exact q
end
def Rd(H:Hp)(a:xv)(u:HO):Prop:=H a=some u\/∃o,H a=some (.frz o u)
theorem Rd.ok{P:Fo}{w:Fw}{H:Hp}{h:Fp}{a:xv}{u:HO}(r:Rd H a u)(x:HOk P w H h):cS P w H h a u:=by
 rcases r with r|⟨o,r⟩
 ·exact x a u r
 ·obtain⟨_,q⟩:=x a _ r;exact q
noncomputable def Mut:Option HO->Prop
 |some (.lst _)=>True
 |some (.dK _)=>True
 |some (.dT _)=>True
 |some (.set _ _)=>True
 |some (.ins _ _ _)=>True
 |some (.ext _)=>True
 |_=>False
section
variable {P:Fo}{w:Fw}{H:Hp}{h h':Fp}{x e:xv}{o':HO}
theorem HOk.write(ok:HOk P w H h)(mu:Mut (H x))(he:e=x\/H e=some (.own x))(k:∀b u,b≠e->h.get? b=some u->h'.get? b=some u)(xp:∃u,h'.get? e=some u)
  (new:cS P w (upd H x o') h' x o'):HOk P w (upd H x o') h':=λb u q=>by
 have Cq:∀c y,H c=some (.own y)->c≠x:=λc y r z=>by subst z;rw[r]at mu;exact mu
 have ntup:∀c xs,H c=some (.tup xs)->c≠x:=λc xs r z=>by subst z;rw[r]at mu;exact mu
 by_cases hb:b=x
 ·subst hb;rw[a8]at q;cases q;exact new
 ·rw[aB hb]at q;by_cases hbe:b=e
  ·have q':H b=some (.own x):=by
    rcases he with z|z
    ·exact absurd (hbe.trans z) hb
    ·rw[hbe];exact z
   rw[q]at q';cases q';obtain⟨v,hv⟩:=xp;exact⟨v,by rw[hbe];exact hv⟩
  ·refine(ok b u q).oP (λc v hc r=>k c v ?_ r) (λc r=>by rw[aB (Cq c b r)];exact r) λc xs r=>by rw[aB (ntup c xs r)];exact r
   rcases hc with rfl|hc
   ·exact hbe
   ·rintro rfl;rcases he with z|z
    ·exact Cq c b hc z
    ·rw[hc]at z;cases z;exact hb rfl
end
structure Un(fs ex:List xv)(H H':Hp)(h h':Fp):Prop where
 keep:∀b o,h.get? b=some o->H b=none->b∉fs->b∉ex->h'.get? b=some o
 slot:∀b o,h.get? b=some o->H b=none->b∈fs->b∉ex->∃sl,h'.get? b=some {o with slots:=sl}
 free:∀b o,h.get? b=some o->H b=none->b∉ex->H' b=none
 there:∀b o,h.get? b=some o->b∉ex->∃o',h'.get? b=some o'
 l9:∀b xs,H b=some (.tup xs)->H' b=some (.tup xs)
 pM:∀b o u,H b=some (.frz o u)->H' b=some (.frz o u)
 tN:∀b ps,H b=some (.tbl ps)->∃more,H' b=some (.tbl (ps++more))
section
variable {fs fs' ex ex':List xv}{H H1 H2:Hp}{h h1 h2 h':Fp}{a x e:xv}{o:HO}
theorem Un.any(u:Un fs ex H H1 h h1){b:xv}{ob:Obj}(q:h.get? b=some ob)(n:H b=none)(hx:b∉ex):∃sl,h1.get? b=some {ob with slots:=sl}:=by
 by_cases hb:b∈fs
 ·exact u.slot b ob q n hb hx
 ·exact⟨ob.slots,u.keep b ob q n hb hx⟩
theorem Un.kept(k:∀b u,h.get? b=some u->h'.get? b=some u):Un fs ex H H h h':=
 ⟨λb ob q _ _ _=>k b ob q,λb ob q _ _ _=>⟨ob.slots,k b ob q⟩,λ_ _ _ n _=>n,λb ob q _=>⟨ob,k b ob q⟩,λ_ _ q=>q,λ_ _ _ q=>q,λ_ ps q=>⟨#[],by rw[q];simp⟩⟩
theorem Un.refl:Un fs ex H H h h:=Un.kept λ_ _ q=>q
theorem Un.laid(k:∀b u,h.get? b=some u->h'.get? b=some u)(hp:h.objs.size<=a)(hn:H a=none):Un fs ex H (upd H a o) h h' where
 keep:=λb u q _ _ _=>k b u q
 slot:=λb u q _ _ _=>⟨u.slots,k b u q⟩
 free:=λb u q n _=>by rw[aB (cj (bz (br q) hp))];exact n
 there:=λb u q _=>⟨u,k b u q⟩
 l9:=λb xs q=>by rw[aB (aI q hn)];exact q
 pM:=λb u xs q=>by rw[aB (aI q hn)];exact q
 tN:=λb ps q=>⟨#[],by rw[aB (aI q hn),q];simp⟩
theorem Un.write(mu:Mut (H x))(he:e=x\/H e=some (.own x))(k:∀b u,b≠e->h.get? b=some u->h'.get? b=some u)(xp:∃u,h'.get? e=some u):Un fs ex H (upd H x o) h h':=by
 have hx:∀b,H b=none->b≠x:=λb n z=>by subst z;rw[n]at mu;exact mu
 have hb:∀b,H b=none->b≠e:=λb n z=>by
  subst z;rcases he with r|r
  ·exact hx b n r
  ·rw[n]at r;cases r
 have hm:∀b u,H b=some u->¬Mut (some u)->b≠x:=λb u q nm z=>by subst z;rw[q]at mu;exact nm mu
 refine⟨λb u q n _ _=>k b u (hb b n) q,λb u q n _ _=>⟨u.slots,k b u (hb b n) q⟩,λb u q n _=>by rw[aB (hx b n)];exact n,λb u q _=>?_,
  λb xs q=>by rw[aB (hm b _ q λz=>z)];exact q,λb u xs q=>by rw[aB (hm b _ q λz=>z)];exact q,λb ps q=>⟨#[],by rw[aB (hm b _ q λz=>z),q];simp⟩⟩
 by_cases hbe:b=e
 ·subst hbe;exact xp
 ·exact⟨u,k b u hbe q⟩
end
def trk(h:Fp)(H:Hp):List xv:=(List.range h.objs.size).filter λa=>(H a).isSome
def z8(h:Fp)(H:Hp):Fp:=W.hideAll h (trk h H)
theorem HC(h:Fp)(H:Hp):(z8 h H).objs.size=h.objs.size:=W.hideAll_size _ _
theorem KN{h:Fp}{H:Hp}{b:xv}{o:Obj}(e:h.get? b=some o)(n:H b=none):(z8 h H).get? b=some o:=
 W.hideAll_get _ e λhm=>by have q:(H b).isSome=true:=(bu.mp hm).2;rw[n]at q;simp at q
theorem MP{h:Fp}{H:Hp}{b:xv}{o:Obj}(e:(z8 h H).get? b=some o):h.get? b=some o/\H b=none:=by
 have e':h.get? b=some o:=W.of_hideAll (trk h H) e;refine⟨e',?_⟩;cases q:H b with
 |none=>rfl
 |some x=>have hm:b∈trk h H:=bu.mpr ⟨fj.mpr (br e'),by simp[q]⟩;have z:(z8 h H).get? b=none:=W.hideAll_none (trk h H) hm;rw[z]at e;cases e
structure Mod(K:Fg)(mg:Str->Option fv)(base:Fp):Prop where
 kin:K.In base
 glob:base.Ns Fl mg
 blt:∃mb,base.Ns builtinsNs mb/\∀x:Str,x≠ "__name__" ->mb x=bootBuiltins x
 nolimit:base.NoLimit
structure Cx where
 prog:Fo
 w:Fw
 K:Fg
 mg:Str->Option fv
 base:Fp
 A:Ft
 N:List Str
 s_0:Fe
 H_0:Hp
 env:Env
 outer:List Env
 stack:List Env
 ex:List xv
 fn:Str->Bool
 calm:Bool
 pn:Hg
 xe:Hf
def frs(l:List Env):List xv:=l.filterMap (·.frame)
abbrev Cx.fs(X:Cx):List xv:=frs X.outer
noncomputable def Vis(sc:Gj)(x:Str):Prop:=sc.names.lookup x=some .local\/sc.names.lookup x=some .cell\/sc.names.lookup x=some .free
noncomputable def Loc(sc:Gj)(x:Str):Prop:=sc.names.lookup x=some .local\/sc.names.lookup x=some .cell
noncomputable def Look(env:Env)(h:Fp)(m:Str->Option fv)(x:Str)(u:fv):Prop:=
 (env.kindOf x=some .local/\m x=some u)\/((env.kindOf x=some .cell\/env.kindOf x=some .free)/\∃c,env.cells.lookup x=some c/\h.IsCell c (some u))
structure Cx.Ok(X:Cx):Prop where
 mod:Mod X.K X.mg X.base
 kind:X.env.scope.kind=.function
 glob:X.env.globals=Fl
 blt:X.env.builtins=builtinsNs
 above:X.s_0.heap.objs.size<=X.env.locals
 inj:∀x y c,X.env.cells.lookup x=some c->X.env.cells.lookup y=some c->x=y
 has:∀x,(X.env.kindOf x=some .cell\/X.env.kindOf x=some .free)->∃c,X.env.cells.lookup x=some c
 cab:∀x c,X.fn x=true->X.env.cells.lookup x=some c->X.s_0.heap.objs.size<=c
 hd:X.calm=true->X.A.handled=none
 frames:X.A.frames=some X.stack
 stk:X.stack=X.outer\/(X.stack=X.env::X.outer/\X.env.frame=some X.env.locals)
 exf:∀b∈X.ex,b≠X.env.locals/\∀x c,X.env.cells.lookup x=some c->c≠b
 bs:∀b o,X.base.get? b=some o->X.s_0.heap.get? b=some o/\X.H_0 b=none
 bsz:X.base.objs.size<=X.s_0.heap.objs.size
 JX:∀b o,X.base.get? b=some o->b∉X.ex
 DY:∀b∈X.ex,b∉X.fs
 lU:X.s_0.heap.FunFrames X.base X.outer
 frf:∀b∈X.fs,X.H_0 b=none
structure Inv(X:Cx)(jr:Hg)(σ:List (Option V))(H:Hp)(s:Fe):Prop where
 ok:X.Ok
 os:s.os=X.s_0.os
 bare:AllBare s.gens
 base:Un X.fs X.ex X.H_0 H X.s_0.heap s.heap
 loc:∃m,s.heap.Ns X.env.locals m/\∀(i:Nat)(x:Str)(v:V),X.N[i]? =some x->σ[i]? =some (some v)->Vis X.env.scope x->∃u,RelV v u/\Look X.env s.heap m x u
 cell:∀x c,X.env.cells.lookup x=some c->∃v,s.heap.IsCell c v
 free:H X.env.locals=none
 iO:∀x c,X.env.cells.lookup x=some c->H c=none
 pin:∀p∈X.pn++jr,s.heap.get? p.1=some p.2/\H p.1=none/\p.1≠X.env.locals/\p.1∉X.fs/\∀v,p.2.data≠ .cell v
 hok:HOk X.prog X.w H s.heap
 len:σ.length=X.N.length
section
variable {X:Cx}{jr:Hg}{σ:List (Option V)}{H H':Hp}{s:Fe}{h':Fp}
theorem Cx.Ok.a0E(ok:X.Ok){b:xv}{o:Obj}(e:X.base.get? b=some o):b∉X.fs:=λhb=>by have:=(ok.lU.mem hb).1;rw[e]at this;cases this
theorem Inv.bs(I:Inv X jr σ H s):∀b o,X.base.get? b=some o->s.heap.get? b=some o/\H b=none:=λb o e=>
 ⟨I.base.keep b o (I.ok.bs b o e).1 (I.ok.bs b o e).2 (I.ok.a0E e) (I.ok.JX b o e),I.base.free b o (I.ok.bs b o e).1 (I.ok.bs b o e).2 (I.ok.JX b o e)⟩
theorem Inv.bk(I:Inv X jr σ H s):∀b o,X.base.get? b=some o->s.heap.get? b=some o:=λb o e=>(I.bs b o e).1
theorem Inv.mod(I:Inv X jr σ H s):Mod X.K X.mg X.base:=I.ok.mod
theorem Inv.kIn(I:Inv X jr σ H s):X.K.In s.heap:=I.ok.mod.kin.keeps I.bk
theorem Inv.lt(I:Inv X jr σ H s):X.env.locals<s.heap.objs.size:=let⟨_,hn,_⟩:=I.loc;hn.lt
theorem Inv.sz(I:Inv X jr σ H s):X.s_0.heap.objs.size<=s.heap.objs.size:=de I.ok.above (le_of_lt I.lt)
theorem Inv.a0D(I:Inv X jr σ H s){a:xv}(h:s.heap.objs.size<=a):a∉X.fs:=λhb=>by obtain⟨_,o,ho,_⟩:=I.ok.lU.mem hb;exact absurd (bz (br ho) (de I.sz h)) (gu _)
theorem Inv.cne(I:Inv X jr σ H s):∀x c,X.env.cells.lookup x=some c->c≠X.env.locals:=λx c e z=>by obtain⟨v,o,ho,hd⟩:=I.cell x c e;obtain⟨m,⟨o',es,ep,vt,xw,_⟩,_⟩:=I.loc;rw[z,vt]at ho;cases ho;rw[xw]at hd;cases hd
theorem Inv.lU(I:Inv X jr σ H s):s.heap.FunFrames X.base X.outer:=by
 have all:∀(l:List Env),(∀b∈frs l,b∈X.fs)->X.s_0.heap.FunFrames X.base l->s.heap.FunFrames X.base l:=by
  intro l;induction l with
  |nil=>intro _ _;trivial
  |cons env r ih=>
   intro hs hl;obtain⟨hk,⟨L,o,hf,hn,ho,hd⟩,hr⟩:=hl;have hL:L∈X.fs:=hs L (by unfold frs;rw[fg,hf];exact ay);obtain⟨sl,e⟩:=I.base.slot L o ho (I.ok.frf L hL) hL λz=>I.ok.DY L z hL
   exact⟨hk,⟨L,_,hf,hn,e,hd⟩,ih (λb hb=>hs b (by unfold frs;rw[fg,hf];exact ao _ hb)) hr⟩
 exact all X.outer (λ_ hb=>hb) I.ok.lU
theorem Inv.stack(I:Inv X jr σ H s):s.heap.FunFrames X.base X.stack:=by
 rcases I.ok.stk with e|⟨e,hf⟩
 ·rw[e];exact I.lU
 ·rw[e];obtain⟨m,hn,_⟩:=I.loc;refine .cons (by rw[I.ok.kind];decide) hf hn ?_ I.lU;exact Fp.get?_none_of_le (de I.ok.bsz I.ok.above)
theorem Inv.tQ(I:Inv X jr σ H s):∀b∈frs X.stack,b∈X.env.locals::X.fs:=λb hb=>by
 rcases I.ok.stk with e|⟨e,hf⟩
 ·rw[e]at hb;exact ao _ hb
 ·rw[e]at hb;unfold frs at hb;rw[fg,hf]at hb;exact hb
theorem Inv.yI(I:Inv X jr σ H s):∀b∈frs X.stack,H b=none:=λb hb=>by
 rcases aq.mp (I.tQ b hb)with e|hb
 ·rw[e];exact I.free
 ·obtain⟨_,o,ho,_⟩:=I.ok.lU.mem hb;exact I.base.free b o ho (I.ok.frf b hb) λz=>I.ok.DY b z hb
theorem Inv.step{g':Array GenState}{t':Nat}{d':Drawn}{ch:List xv}(I:Inv X jr σ H s)
  (we:∀b∈ch,(b∈X.ex\/X.s_0.heap.objs.size<=b)/\b≠X.env.locals/\(∀x c,X.env.cells.lookup x=some c->c≠b)/\∀p∈X.pn++jr,p.1≠b)
  (keep:∀b o,b≠X.env.locals->b∉X.fs->b∉ch->s.heap.get? b=some o->H b=none->h'.get? b=some o)
  (slot:∀b o,b≠X.env.locals->b∈X.fs->b∉ch->s.heap.get? b=some o->H b=none->∃sl,h'.get? b=some {o with slots:=sl}) (free:∀b o,b∉ch->s.heap.get? b=some o->H b=none->H' b=none)
  (there:∀b o,b∉ch->s.heap.get? b=some o->∃o',h'.get? b=some o')
  (l9:∀b xs,H b=some (.tup xs)->H' b=some (.tup xs)) (pM:∀b o u,H b=some (.frz o u)->H' b=some (.frz o u)) (tN:∀b ps,H b=some (.tbl ps)->∃more,H' b=some (.tbl (ps++more)))
  (ns:∀m,s.heap.Ns X.env.locals m->h'.Ns X.env.locals m) (hok:HOk X.prog X.w H' h') (hg:AllBare g'):
  Inv X jr σ H' {s with heap:=h',gens:=g',drawn:=d',toks:=t'}:=by
 have neL:∀b o,X.s_0.heap.get? b=some o->b≠X.env.locals:=λb o e=>cj (bz (br e) I.ok.above)
 have neC:∀b o,X.s_0.heap.get? b=some o->b∉X.ex->b∉ch:=λb o e hx hb=>by
  rcases(we b hb).1 with z|z
  ·exact hx z
  ·exact absurd (bz (br e) z) (gu _)
 have ze:∀x c,X.env.cells.lookup x=some c->∀v,s.heap.IsCell c v->h'.IsCell c v:=λx c e v ⟨o,ho,hd⟩=>by
  have zt:c∉ch:=λz=>(we c z).2.2.1 x c e rfl
  by_cases hc:c∈X.fs
  ·obtain⟨sl,q⟩:=slot c o (I.cne x c e) hc zt ho (I.iO x c e);exact⟨_,q,hd⟩
  ·exact⟨o,keep c o (I.cne x c e) hc zt ho (I.iO x c e),hd⟩
 refine⟨I.ok,I.os,hg,⟨λb o e n hb hx=>?_,λb o e n hb hx=>?_,λb o e n hx=>?_,λb o e hx=>?_,λb xs e=>l9 b xs (I.base.l9 b xs e),λb o xs e=>pM b o xs (I.base.pM b o xs e),λb ps e=>?_⟩,?_,λx c e=>?_,?_,λx c e=>?_,λp hp=>?_,hok,I.len⟩
 ·exact keep b o (neL b o e) hb (neC b o e hx) (I.base.keep b o e n hb hx) (I.base.free b o e n hx)
 ·obtain⟨sl,e1⟩:=I.base.slot b o e n hb hx;obtain⟨sl',e2⟩:=slot b _ (neL b o e) hb (neC b o e hx) e1 (I.base.free b o e n hx);exact⟨sl',e2⟩
 ·obtain⟨o',e1⟩:=I.base.there b o e hx;exact free b o' (neC b o e hx) e1 (I.base.free b o e n hx)
 ·obtain⟨o',e1⟩:=I.base.there b o e hx;exact there b o' (neC b o e hx) e1
 ·obtain⟨m1,e1⟩:=I.base.tN b ps e;obtain⟨m2,e2⟩:=tN b _ e1;exact⟨m1++m2,by rw[e2,Array.append_assoc]⟩
 ·obtain⟨m,hn,hl⟩:=I.loc;refine⟨m,ns m hn,λi x v e1 e2 e3=>?_⟩;obtain⟨u,r,l⟩:=hl i x v e1 e2 e3;refine⟨u,r,?_⟩;rcases l with l|⟨k,c,e,z⟩
  ·exact .inl l
  ·exact .inr ⟨k,c,e,ze x c e _ z⟩
 ·obtain⟨v,z⟩:=I.cell x c e;exact⟨v,ze x c e v z⟩
 ·obtain⟨m,⟨o,_,_,ho,_⟩,_⟩:=I.loc;exact free _ o (λz=>(we _ z).2.1 rfl) ho I.free
 ·obtain⟨v,o,ho,hd⟩:=I.cell x c e;exact free c o (λz=>(we c z).2.2.1 x c e rfl) ho (I.iO x c e)
 ·obtain⟨e,n,ne,nf,d⟩:=I.pin p hp;have zt:p.1∉ch:=λz=>(we p.1 z).2.2.2 p hp rfl
  exact⟨keep p.1 p.2 ne nf zt e n,free p.1 p.2 zt e n,ne,nf,d⟩
theorem Inv.un{t':Nat}(I:Inv X jr σ H s)(u:Un X.fs [] H H' s.heap h')(hok:HOk X.prog X.w H' h'):Inv X jr σ H' {s with heap:=h',toks:=t'}:=by
 obtain⟨m,⟨o,es,ep,ho,r⟩,_⟩:=id I.loc;obtain⟨sl,hL⟩:=u.any ho I.free (by simp);exact I.step (g':=s.gens) (d':=s.drawn) (ch:=[]) (λ_ z=>nomatch z) (λb o _ hb _ e n=>u.keep b o e n hb (by simp)) (λb o _ hb _ e n=>u.slot b o e n hb (by simp)) (λb o _ e n=>u.free b o e n (by simp)) (λb o _ e=>u.there b o e (by simp)) u.l9 u.pM u.tN (λm' hm=>by
  obtain⟨o',ub,uc,vt,r'⟩:=hm;rw[ho]at vt;cases vt;exact⟨_,ub,uc,hL,r'⟩) hok I.bare
theorem Inv.call{g':Array GenState}{t':Nat}{d':Drawn}{ch:List xv}(I:Inv X jr σ H s)(u:Un (frs X.stack) ch H H' s.heap h')(hok:HOk X.prog X.w H' h')(hg:AllBare g')
  (we:∀b∈ch,(b∈X.ex\/X.s_0.heap.objs.size<=b)/\b≠X.env.locals/\(∀x c,X.env.cells.lookup x=some c->c≠b)/\∀p∈X.pn++jr,p.1≠b):
  Inv X jr σ H' {s with heap:=h',gens:=g',drawn:=d',toks:=t'}:=by
 obtain⟨m,⟨o,es,ep,ho,r⟩,_⟩:=id I.loc;obtain⟨sl,hL⟩:=u.any ho I.free λz=>(we _ z).2.1 rfl
 exact I.step (ch:=ch) we (λb o hL hb hc e n=>u.keep b o e n (λz=>(aq.mp (I.tQ b z)).elim hL hb) hc) (λb o _ _ hc e n=>u.any e n hc) (λb o hc e n=>u.free b o e n hc) (λb o hc e=>u.there b o e hc) u.l9 u.pM u.tN (λm' hm=>by
  obtain⟨o',ub,uc,vt,r'⟩:=hm;rw[ho]at vt;cases vt;exact⟨_,ub,uc,hL,r'⟩) hok hg
theorem Inv.turned{t':Nat}{it:xv}(I:Inv X jr σ H s)(k:∀b o,b≠it->s.heap.get? b=some o->h'.get? b=some o)(hn:H it=none)(hL:it≠X.env.locals)
  (h1:it∈X.ex\/X.s_0.heap.objs.size<=it) (h2:∀x c,X.env.cells.lookup x=some c->c≠it) (h3:∀p∈X.pn++jr,p.1≠it):Inv X jr σ H {s with heap:=h',toks:=t'}:=by
 have Cr:∀b u,H b=some u->b≠it:=λb u e z=>by rw[z,hn]at e;cases e
 refine I.step (g':=s.gens) (d':=s.drawn) (ch:=[it]) (λb hb=>?_) (λb o _ _ hc e _=>k b o (λz=>hc (by simp[z])) e) (λb o _ _ hc e _=>⟨o.slots,k b o (λz=>hc (by simp[z])) e⟩) (λ_ _ _ _ n=>n)
  (λb o hc e=>⟨o,k b o (λz=>hc (by simp[z])) e⟩) (λ_ _ e=>e) (λ_ _ _ e=>e) (λb ps e=>⟨#[],by rw[e];simp⟩) (λm hm=>?_) (λb u e=>?_) I.bare
 ·have e:b=it:=by simpa using hb
  subst e;exact⟨h1,hL,h2,h3⟩
 ·obtain⟨o,es,ep,ho,r⟩:=hm;exact⟨o,es,ep,k _ o (Ne.symm hL) ho,r⟩
 ·refine(I.hok b u e).oP (λc v hc q=>k c v ?_ q) (λ_ q=>q) λ_ _ q=>q
  rcases hc with z|z
  ·rw[z];exact Cr b u e
  ·exact Cr c _ z
theorem Inv.tok(I:Inv X jr σ H s)(t:Nat):Inv X jr σ H {s with toks:=t}:=I.un (h':=s.heap) (t':=t) Un.refl I.hok
theorem Inv.kept{t':Nat}(I:Inv X jr σ H s)(k:∀b u,s.heap.get? b=some u->h'.get? b=some u):Inv X jr σ H {s with heap:=h',toks:=t'}:=I.un (Un.kept k) (I.hok.kept k)
theorem Inv.laid{a:xv}{o:HO}{t':Nat}(I:Inv X jr σ H s)(k:∀b u,s.heap.get? b=some u->h'.get? b=some u)(hp:s.heap.objs.size<=a)(new:cS X.prog X.w (upd H a o) h' a o):
  Inv X jr σ (upd H a o) {s with heap:=h',toks:=t'}:=I.un (Un.laid k hp (I.hok.fresh hp)) (I.hok.laid k hp new)
theorem Inv.write{x e:xv}{o:HO}{t':Nat}(I:Inv X jr σ H s)(mu:Mut (H x))(he:e=x\/H e=some (.own x))(k:∀b u,b≠e->s.heap.get? b=some u->h'.get? b=some u)(xp:∃u,h'.get? e=some u)
  (new:cS X.prog X.w (upd H x o) h' x o):Inv X jr σ (upd H x o) {s with heap:=h',toks:=t'}:=I.un (Un.write mu he k xp) (I.hok.write mu he k xp new)
theorem Inv.weak{σ':List (Option V)}(I:Inv X jr σ H s)(hl:σ'.length=σ.length)(w:∀(i:Nat) v,σ'[i]? =some (some v)->σ[i]? =some (some v)):Inv X jr σ' H s:=
 ⟨I.ok,I.os,I.bare,I.base,let⟨m,hn,vx⟩:=I.loc;⟨m,hn,λi x v e1 e2 e3=>vx i x v e1 (w i v e2) e3⟩,I.cell,I.free,I.iO,I.pin,I.hok,hl.trans I.len⟩
theorem Inv.EO{yi:Hg}(I:Inv X jr σ H s)(h:∀p∈yi,s.heap.get? p.1=some p.2/\H p.1=none/\p.1≠X.env.locals/\p.1∉X.fs/\∀v,p.2.data≠ .cell v):Inv X yi σ H s:=
 ⟨I.ok,I.os,I.bare,I.base,I.loc,I.cell,I.free,I.iO,λp hp=>(ax.mp hp).elim (λz=>I.pin p (cg _ z)) (h p),I.hok,I.len⟩
theorem uH{N:List Str}(hN:N.Nodup){i j:Nat}{x:Str}(a:N[i]? =some x)(b:N[j]? =some x):i=j:=by obtain⟨h1,e1⟩:=ar.mp a;obtain⟨h2,e2⟩:=ar.mp b;exact(List.getElem_inj hN).mp (e1.trans e2.symm)
theorem qH{M:Model}{A:Ft}{E:Hf}{i:Nat}{x:Str}{v:V}{u:fv}{Q:Unit->Fe->Prop}(I:Inv X jr σ H s)(hN:X.N.Nodup)(hi:X.N[i]? =some x)(hx:Loc X.env.scope x)(r:RelV v u)
  (h:∀s',Inv X jr (σ.set i (some v)) H s'->(∃a,Fp.SameBut a s.heap s'.heap/\(a=X.env.locals\/X.env.cells.lookup x=some a))->Q () s') (hf:X.fn x=true\/X.env.scope.names.lookup x=some .local:=by first|exact .inl rfl|exact .inr rfl|assumption):Fi M A (storeName X.env x u) Q E s:=by
 obtain⟨m,hn,hl⟩:=id I.loc;have qt:(X.env.scope.kind== .class||(X.env.scope.kind== .module&& X.env.locals !=X.env.globals))=false:=by rw[I.ok.kind];rfl
 have hiσ:i<σ.length:=by rw[I.len];exact(ar.mp hi).1
 have cne:=I.cne;have rp:∀{a:xv}{h':Fp},(∃o,s.heap.get? a=some o/\H a=none)->Fp.SameBut a s.heap h'->HOk X.prog X.w H h':=λ{a h'} ha hs b ob e=>by
  obtain⟨_,_,lj⟩:=ha;refine(I.hok b ob e).oP (λc w' hc q=>(hs.2 c ?_).trans q) (λ_ q=>q) λ_ _ q=>q
  rintro rfl;rcases hc with rfl|hc
  ·rw[lj]at e;cases e
  ·rw[lj]at hc;cases hc
 rcases hx with hk|hk
 ·refine wpAny_storeName_local hk hn (λh' vd hs=>?_) qt;obtain⟨oL,_,_,Dn,_⟩:=id hn;refine h _ ⟨I.ok,I.os,I.bare,⟨λb o e n hb hx=>?_,λb o e n hb hx=>?_,I.base.free,λb o e hx=>?_,I.base.l9,I.base.pM,I.base.tN⟩,⟨_,vd,λj y v' e1 e2 e3=>?_⟩,λy c e=>?_,I.free,I.iO,λp hp=>?_,rp ⟨oL,Dn,I.free⟩ hs,by simpa using I.len⟩ ⟨_,hs,.inl rfl⟩
  ·exact(hs.2 b (cj (bz (br e) I.ok.above))).trans (I.base.keep b o e n hb hx)
  ·obtain⟨sl,e1⟩:=I.base.slot b o e n hb hx;exact⟨sl,(hs.2 b (cj (bz (br e) I.ok.above))).trans e1⟩
  ·obtain⟨o',e1⟩:=I.base.there b o e hx;exact⟨o',(hs.2 b (cj (bz (br e) I.ok.above))).trans e1⟩
  ·by_cases hj:j=i
   ·subst hj;rw[hi]at e1;cases e1;rw[List.getElem?_set_self hiσ]at e2;cases e2;exact⟨u,r,.inl ⟨hk,by simp⟩⟩
   ·rw[List.getElem?_set_ne (Ne.symm hj)]at e2;obtain⟨u',r',q⟩:=hl j y v' e1 e2 e3;refine⟨u',r',?_⟩;rcases q with⟨k,e⟩|⟨k,c,e,z⟩
    ·refine .inl ⟨k,?_⟩;have:y≠x:=λe=>hj (uH hN e1 (e▸hi))
     simp[this,e]
    ·exact .inr ⟨k,c,e,z.sameBut hs (cne y c e)⟩
  ·obtain⟨w',z⟩:=I.cell y c e;exact⟨w',z.sameBut hs (cne y c e)⟩
  ·obtain⟨e,n,ne,nf,d⟩:=I.pin p hp;exact⟨(hs.2 p.1 ne).trans e,n,ne,nf,d⟩
 ·have Ec:X.fn x=true:=by
   rcases hf with z|z
   ·exact z
   ·rw[z]at hk;cases hk
  obtain⟨c,hc⟩:=I.ok.has x (.inl hk);obtain⟨w',z⟩:=I.cell x c hc;refine wpAny_storeName_cell I.ok.kind hk hc z (λh' wg hs=>?_);obtain⟨oc,hoc,hocd⟩:=id z;refine h {s with heap:=h'} ⟨I.ok,I.os,I.bare,⟨λb o e n hb hx=>?_,λb o e n hb hx=>?_,I.base.free,λb o e hx=>?_,I.base.l9,I.base.pM,I.base.tN⟩,⟨m,hn.sameBut hs (Ne.symm (cne x c hc)),λj y v' e1 e2 e3=>?_⟩,λy c' e=>?_,I.free,I.iO,λp hp=>?_,rp ⟨oc,hoc,I.iO x c hc⟩ hs,by simpa using I.len⟩ ⟨c,hs,.inr hc⟩
  ·exact(hs.2 b (cj (bz (br e) (I.ok.cab x c Ec hc)))).trans (I.base.keep b o e n hb hx)
  ·obtain⟨sl,e1⟩:=I.base.slot b o e n hb hx;exact⟨sl,(hs.2 b (cj (bz (br e) (I.ok.cab x c Ec hc)))).trans e1⟩
  ·obtain⟨o',e1⟩:=I.base.there b o e hx;exact⟨o',(hs.2 b (cj (bz (br e) (I.ok.cab x c Ec hc)))).trans e1⟩
  ·by_cases hj:j=i
   ·subst hj;rw[hi]at e1;cases e1;rw[List.getElem?_set_self hiσ]at e2;cases e2;exact⟨u,r,.inr ⟨.inl hk,c,hc,wg⟩⟩
   ·rw[List.getElem?_set_ne (Ne.symm hj)]at e2;obtain⟨u',r',q⟩:=hl j y v' e1 e2 e3;refine⟨u',r',?_⟩;rcases q with q|⟨k,c',e,z'⟩
    ·exact .inl q
    ·refine .inr ⟨k,c',e,z'.sameBut hs ?_⟩;rintro rfl;exact hj (uH hN e1 (I.ok.inj _ _ _ e hc▸hi))
  ·by_cases hcc:c'=c
   ·subst hcc;exact⟨_,wg⟩
   ·obtain⟨w2,z2⟩:=I.cell y c' e;exact⟨w2,z2.sameBut hs hcc⟩
  ·obtain⟨e,n,ne,nf,d⟩:=I.pin p hp;refine⟨(hs.2 p.1 ?_).trans e,n,ne,nf,d⟩;intro q;rw[q,hoc]at e;have q':oc=p.2:=Option.some.inj e;exact d w' (by rw[<- q'];exact hocd)
theorem tO{M:Model}{A:Ft}{E:Hf}{i:Nat}{x:Str}{v:V}{u:fv}{Q:Unit->Fe->Prop}(I:Inv X jr σ H s)(hN:X.N.Nodup)(hi:X.N[i]? =some x)(hx:Loc X.env.scope x)(r:RelV v u)
  (h:∀s',Inv X jr (σ.set i (some v)) H s'->Q () s') (hf:X.fn x=true\/X.env.scope.names.lookup x=some .local:=by first|exact .inl rfl|exact .inr rfl|assumption):Fi M A (storeName X.env x u) Q E s:=
 qH I hN hi hx r (λs' I' _=>h s' I') hf
theorem Inv.FN{s':Fe}{ch:List xv}(I:Inv X jr σ H s)(ho:s'.os=s.os)(u:Un (frs X.stack) ch H H' s.heap s'.heap)(hok:HOk X.prog X.w H' s'.heap)(hg:AllBare s'.gens)
  (we:∀b∈ch,(b∈X.ex\/X.s_0.heap.objs.size<=b)/\b≠X.env.locals/\(∀x c,X.env.cells.lookup x=some c->c≠b)/\∀p∈X.pn++jr,p.1≠b):Inv X jr σ H' s':=by
 obtain⟨h',g',d',t',o'⟩:=s';have e:o'=s.os:=ho;subst e;exact I.call (g':=g') (t':=t') (d':=d') u hok hg we
end
abbrev XK:=fv->Option xv->Hp->Prop
abbrev St:=List (Option V)
abbrev VK:=V->Hp->Prop
abbrev TE:=St->Hp->VK->Prop
abbrev TT:=St->Hp->(Bool->Hp->Prop)->Prop
abbrev TA:=St->Hp->(List V->Hp->Prop)->Prop
structure Ends where
 nx:St->Hp->Prop
 rt:VK
 bk:St->Hp->Prop:=λ_ _=>False
 ct:St->Hp->Prop:=λ_ _=>False
abbrev TS:=Ends->St->Hp->Prop
noncomputable def EP(X:Cx)(jr:Hg)(σ:St)(Q:VK)(u:fv)(s':Fe):Prop:=∃v H',Inv X jr σ H' s'/\RelV v u/\Q v H'
noncomputable def TP(X:Cx)(jr:Hg)(σ:St)(Q:Bool->Hp->Prop)(b:Bool)(s':Fe):Prop:=∃H',Inv X jr σ H' s'/\Q b H'
noncomputable def AP(X:Cx)(jr:Hg)(σ:St)(Q:List V->Hp->Prop)(us:List fv)(s':Fe):Prop:=∃vs H',Inv X jr σ H' s'/\Vals vs us/\Q vs H'
noncomputable def SP(X:Cx)(jr:Hg)(D:Ends)(f:Flow)(s':Fe):Prop:=
 match f with
 | .next=>∃σ' H',Inv X jr σ' H' s'/\D.nx σ' H'
 | .brk=>∃σ' H',Inv X jr σ' H' s'/\D.bk σ' H'
 | .cont=>∃σ' H',Inv X jr σ' H' s'/\D.ct σ' H'
 | .ret u=>∃v σ' H',Inv X jr σ' H' s'/\RelV v u/\D.rt v H'
noncomputable def PE(X:Cx)(e:Fz)(t:TE):Prop:=
 ∀(jr:Hg)(s:Fe)(σ:St)(H:Hp)(Q:VK),Inv X jr σ H s->t σ H Q->Fi (Fm X.prog X.w) X.A (eval e X.env) (EP X jr σ Q) X.xe s
noncomputable def PT(X:Cx)(e:Fz)(t:TT):Prop:=
 ∀(jr:Hg)(s:Fe)(σ:St)(H:Hp)(Q:Bool->Hp->Prop),Inv X jr σ H s->t σ H Q->Fi (Fm X.prog X.w) X.A (isTrue e X.env (eval e X.env)) (TP X jr σ Q) X.xe s
noncomputable def PW(X:Cx)(e:Fz)(t:TT):Prop:=
 ∀(ni:Sem fv)(jr:Hg)(s:Fe)(σ:St)(H:Hp)(Q:Bool->Hp->Prop),Inv X jr σ H s->t σ H Q->Fi (Fm X.prog X.w) X.A (isTrue e X.env ni) (TP X jr σ Q) X.xe s
theorem PW.pt{X:Cx}{e:Fz}{t:TT}(h:PW X e t):PT X e t:=h _
noncomputable def PA(X:Cx)(es:List Fz)(t:TA):Prop:=
 ∀(pos:Pos)(jr:Hg)(s:Fe)(σ:St)(H:Hp)(Q:List V->Hp->Prop),Inv X jr σ H s->t σ H Q->Fi (Fm X.prog X.w) X.A (spliced (backTo pos (Fq es X.env))) (AP X jr σ Q) X.xe s
noncomputable def PS(X:Cx)(st:Ga)(t:TS):Prop:=
 ∀(jr:Hg)(s:Fe)(σ:St)(H:Hp)(D:Ends),Inv X jr σ H s->t D σ H->Fi (Fm X.prog X.w) X.A (exec st X.env) (SP X jr D) X.xe s
noncomputable def PSs(X:Cx)(st:List Ga)(t:TS):Prop:=
 ∀(jr:Hg)(s:Fe)(σ:St)(H:Hp)(D:Ends),Inv X jr σ H s->t D σ H->Fi (Fm X.prog X.w) X.A (execs st X.env) (SP X jr D) X.xe s
theorem thn{α:Type}{t:Sem α}{Q Q':α->Fe->Prop}{M:Model}{A:Ft}{E:Hf}{s:Fe}(h:Fi M A t Q E s)(hQ:∀a s,Q a s->Q' a s):Fi M A t Q' E s:=wpAny_mono h hQ λ_ _ x=>x
section
variable {X:Cx}
def OM(i:Nat):TE:=λσ H Q=>∃v,σ[i]? =some (some v)/\Q v H
def tC(v:V):TE:=λ_ H Q=>Q v H
theorem JH{i:Nat}{x:Str}{pos:Pos}(hN:X.N[i]? =some x)(hv:Vis X.env.scope x)(hd:(x==("__debug__" : Str))=false:=by decide)(ot:(x==("__classdict__" : Str))=false:=by decide):PE X (.Name x pos) (OM i):=by
 intro jr s σ H Q I h;obtain⟨v,e,h⟩:=h;obtain⟨m,hn,hl⟩:=I.loc;obtain⟨u,r,l⟩:=hl i x v hN e hv;have fin:EP X jr σ Q u s:=⟨v,H,I,r,h⟩;rcases l with⟨hk,hm⟩|⟨hk,c,hc,pb⟩
 ·exact wpAny_Name (wpAny_loadName_local I.ok.kind hk hn hm fin) hd
 ·rcases hk with hk|hk
  ·exact wpAny_Name (wpAny_loadName_cell I.ok.kind hk hc pb fin) hd
  ·exact wpAny_Name (wpAny_loadName_free I.ok.kind hk hc pb fin ot) hd
theorem aJ{i j pos}:PE X (.Constant (.int i) j pos) (tC (.int i)):=λ_ _ _ H _ I h=>wpAny_Constant_int ⟨.int i,H,I.tok _,⟨_,rfl⟩,h⟩
theorem iM{b j pos}:PE X (.Constant (.bool b) j pos) (tC (.bl b)):=λ_ _ _ H _ I h=>Constant_bool ⟨.bl b,H,I,rfl,h⟩
theorem P1{j pos}:PE X (.Constant .none j pos) (tC .non):=λ_ _ _ H _ I h=>Constant_none ⟨.non,H,I,rfl,h⟩
def Gl(X:Cx)(x:Str):Prop:=X.env.kindOf x=some .globalImplicit
theorem k6{E:Hf}{jr:Hg}{s:Fe}{σ:St}{H:Hp}{x:Str}{u:fv}{pos:Pos}{Q:Hf}(I:Inv X jr σ H s)(hg:Gl X x)(hm:X.mg x=some u)(h:Q u s)
  (hd:(x==("__debug__" : Str))=false:=by decide):Fi (Fm X.prog X.w) X.A (eval (.Name x pos) X.env) Q E s:=
 Calls.Name_function_global I.ok.kind hg (Calls.loadGlobal_global (by rw[I.ok.glob];exact I.mod.glob.keeps I.bk) hm h) hd
theorem qS{E:Hf}{jr:Hg}{s:Fe}{σ:St}{H:Hp}{x:Str}{u:fv}{pos:Pos}{Q:Hf}(I:Inv X jr σ H s)(hg:Gl X x)(hm:X.mg x=none)(hv:bootBuiltins x=some u)(h:Q u s)
  (hn:x≠ "__name__" :=by decide) (hd:(x==("__debug__" : Str))=false:=by decide):Fi (Fm X.prog X.w) X.A (eval (.Name x pos) X.env) Q E s:=by
 obtain⟨mb,h1,h2⟩:=I.mod.blt;exact Calls.Name_function_global I.ok.kind hg (Calls.loadGlobal_builtin (by rw[I.ok.glob];exact I.mod.glob.keeps I.bk) hm (by rw[I.ok.blt];exact h1.keeps I.bk) ((h2 x hn).trans hv) h) hd
theorem ET{x:Str}{v:V}{u:fv}{pos:Pos}(hg:Gl X x)(hm:X.mg x=some u)(r:RelV v u)(hd:(x==("__debug__" : Str))=false:=by decide):PE X (.Name x pos) (tC v):=
 λ_ _ _ H _ I h=>k6 I hg hm ⟨v,H,I,r,h⟩ hd
variable {a b:Fz}{ta tb:TE}{pos:Pos}
noncomputable def PC(X:Cx)(op:CmpOp)(a b:Fz)(t:TE):Prop:=
 ∀(jr:Hg)(s:Fe)(σ:St)(H:Hp)(Q:VK),Inv X jr σ H s->t σ H Q ->
  Fi (Fm X.prog X.w) X.A (eval a X.env) (λv s₁=>Fi (Fm X.prog X.w) X.A (eval b X.env) (λu s₂=>Fi (Fm X.prog X.w) X.A (compareOp op v u) (EP X jr σ Q) X.xe s₂) X.xe s₁) X.xe s
def tB(t:TE):TT:=λσ H Q=>t σ H λx H1=>∃c,x=.bl c/\Q c H1
theorem dU{op:CmpOp}{t:TE}(h:PC X op a b t)(h1:behindInMarks op b=false:=by first|exact VM _ Hd Hd|rfl):PT X (.Compare a [op] [b] pos) (tB t):=by intro jr s σ H Q I hw;refine wpAny_isTrue_Compare1 (thn (h jr s σ H _ I hw) λv s1 h1=>thn h1 λu s2 h2=>thn h2 λc s3 ⟨x,H1,I1,r1,q1⟩=>?_) h1;obtain⟨d,rfl,q⟩:=q1;cases r1;exact wpAny_truthy_bool ⟨H1,I1,q⟩
theorem lF{e:Fz}{t:TE}(h:PE X e t)(he:∀ni,isTrue e X.env ni=(do let v<- ni;standAt e.pos;holding [v] (truthy v)):=by intro _;rfl):PT X e (tB t):=by intro jr s σ H Q I hw;refine isTrue_plain (thn (h jr s σ H _ I hw) λv s1 ⟨x,H1,I1,r1,q1⟩=>?_) (he _);obtain⟨d,rfl,q⟩:=q1;cases r1;exact wpAny_truthy_bool ⟨H1,I1,q⟩
variable {tA tB':TT}{rest:List Fz}
noncomputable def WW(t u:TT):TT:=λσ H Q=>t σ H λc H1=>if c=true then u σ H1 Q else Q false H1
noncomputable def tOr(t u:TT):TT:=λσ H Q=>t σ H λc H1=>if c=true then Q true H1 else u σ H1 Q
def WL(t:TT):TT:=λσ H Q=>t σ H λc H1=>Q (!c) H1
theorem mK(ha:PT X a tA):PW X (.BoolOp .And [a] pos) tA:=by
 intro wh jr s σ H Q I h;refine isTrue_and (thn (ha jr s σ H Q I h) λc s1 e=>?_);cases c with
 |true=>exact isTrue_and_nil e
 |false=>exact e
theorem u7(ha:PT X a tA):PW X (.BoolOp .Or [a] pos) tA:=by
 intro wh jr s σ H Q I h;refine isTrue_or (thn (ha jr s σ H Q I h) λc s1 e=>?_);cases c with
 |false=>exact isTrue_or_nil e
 |true=>exact e
theorem nP(ha:PT X a tA)(hb:PW X (.BoolOp .And (b::rest) pos) tB'):PW X (.BoolOp .And (a::b::rest) pos) (WW tA tB'):=by
 intro wh jr s σ H Q I h;refine isTrue_and (thn (ha jr s σ H _ I h) λc s1 ⟨H1,I1,q1⟩=>?_);cases c with
 |true=>exact hb wh jr s1 σ H1 Q I1 q1
 |false=>exact⟨H1,I1,q1⟩
theorem A6(ha:PT X a tA)(hb:PW X (.BoolOp .Or (b::rest) pos) tB'):PW X (.BoolOp .Or (a::b::rest) pos) (tOr tA tB'):=by
 intro wh jr s σ H Q I h;refine isTrue_or (thn (ha jr s σ H _ I h) λc s1 ⟨H1,I1,q1⟩=>?_);cases c with
 |true=>exact⟨H1,I1,q1⟩
 |false=>exact hb wh jr s1 σ H1 Q I1 q1
theorem OY(ha:PT X a tA):PT X (.UnaryOp .Not a pos) (WL tA):=by intro jr s σ H Q I h;exact isTrue_not (ha jr s σ H (λc H1=>Q (!c) H1) I h)
def QS(ta:TE):TE:=λσ H Q=>ta σ H λx H1=>∃c,x=.bl c/\Q (.bl (!c)) H1
theorem P0(ha:PE X a ta):PE X (.UnaryOp .Not a pos) (QS ta):=by intro jr s σ H Q I h;refine UnaryOp_ (thn (ha jr s σ H _ I h) λv s1 ⟨x,H1,I1,r1,q1⟩=>?_);obtain⟨c,rfl,q1⟩:=q1;cases r1;exact not_of (wpAny_truthy_bool ⟨.bl (!c),H1,I1,rfl,q1⟩)
end
noncomputable def SqL(K:Fg)(H:Hp)(a:xv)(xs:List V):Prop:=
 Rd H a (.lst xs)\/
  ∃(o:Obj)(its:Array fv)(n:Nat),K.lookup a=some o/\o.cls=.type "list" /\o.dict=none/\o.data=.seq its n/\its.size<=Fh/\Vals xs its.toList
noncomputable def SqT(K:Fg)(H:Hp)(a:xv)(xs:List V):Prop:=
 Rd H a (.tup xs)\/
  ∃(o:Obj)(its:Array fv)(n:Nat),K.lookup a=some o/\o.cls=.type "tuple" /\o.data=.seq its n/\its.size<=Fh/\Vals xs its.toList
noncomputable def a0W:fv->Option V
 | .none=>some .non
 | .bool b=>some (.bl b)
 | .int i _=>some (.int i)
 | .str x _=>some (.str x)
 | .bytes b _=>some (.byt b)
 | .float b _=>some (.flt b)
 | .ref a=>some (.ref a)
 | .type n=>some (.ty n)
 |_=>none
theorem RelV.abs{x:V}{u:fv}(r:RelV x u):a0W u=some x:=by
 cases x with
 |non=>cases r;rfl
 |bl _=>cases r;rfl
 |int _=>obtain⟨t,rfl⟩:=r;rfl
 |str _=>obtain⟨t,rfl⟩:=r;rfl
 |byt _=>obtain⟨t,rfl⟩:=r;rfl
 |flt _=>obtain⟨t,rfl⟩:=r;rfl
 |ref _=>cases r;rfl
 |ty _=>cases r;rfl
theorem RelV.inj{x y:V}{u:fv}(r:RelV x u)(q:RelV y u):x=y:=Option.some.inj (r.abs.symm.trans q.abs)
theorem Vals.inj:∀{xs ys:List V}{us:List fv},Vals xs us->Vals ys us->xs=ys
 |_,_,_,.nil,.nil=>rfl
 |_,_,_,.cons r t,.cons r' t'=>by rw[r.inj r',Vals.inj t t']
section
variable {X:Cx}{jr:Hg}{σ:St}{H:Hp}{s:Fe}{a:xv}{xs ys:List V}
theorem SqL.of{K:Fg}(h:H a=some (.lst xs)):SqL K H a xs:=.inl (.inl h)
theorem SqT.of{K:Fg}(h:H a=some (.tup xs)):SqT K H a xs:=.inl (.inl h)
theorem Inv.list(I:Inv X jr σ H s)(h:SqL X.K H a xs):∃its:List fv,Vals xs its/\PlainL s.heap a its.toArray/\xs.length<=Fh:=by
 rcases h with h|⟨o,its,n,hk,hc,hd,hs,hz,r⟩
 ·obtain⟨z,its,n,r,e⟩:=h.ok I.hok;exact⟨its,r,⟨_,n,e,rfl,rfl,rfl⟩,z⟩
 ·refine⟨its.toList,r,⟨o,n,I.kIn a o hk,hc,hd,by simpa using hs⟩,?_⟩;have e:=r.length;simp only[dm]at e;omega
theorem Inv.tuple(I:Inv X jr σ H s)(h:SqT X.K H a xs):∃its:List fv,Vals xs its/\IsTup s.heap a its.toArray/\xs.length<=Fh:=by
 rcases h with h|⟨o,its,n,hk,hc,hs,hz,r⟩
 ·obtain⟨z,its,r,p⟩:=h.ok I.hok;exact⟨its,r,p,z⟩
 ·refine⟨its.toList,r,⟨o,I.kIn a o hk,hc,n,by simpa using hs⟩,?_⟩;have e:=r.length;simp only[dm]at e;omega
theorem Inv.AS(I:Inv X jr σ H s)(h:SqL X.K H a xs)(h':SqL X.K H a ys):xs=ys:=by
 obtain⟨its,r,⟨o,n,e,_,_,d⟩,_⟩:=I.list h;obtain⟨its',r',⟨o',n',e',_,_,d'⟩,_⟩:=I.list h';rw[e]at e';cases e';rw[d]at d';injection d' with d1 _
 have:its=its':=by simpa using congrArg Array.toList d1
 subst this;exact r.inj r'
theorem Inv.G1(I:Inv X jr σ H s)(h:SqT X.K H a xs)(h':SqT X.K H a ys):xs=ys:=by
 obtain⟨its,r,⟨o,e,_,n,d⟩,_⟩:=I.tuple h;obtain⟨its',r',⟨o',e',_,n',d'⟩,_⟩:=I.tuple h';rw[e]at e';cases e';rw[d]at d';injection d' with d1 _
 have:its=its':=by simpa using congrArg Array.toList d1
 subst this;exact r.inj r'
end
abbrev Cx.sQ(X:Cx)(E:Hf):Cx:={X with xe:=E}
abbrev Cx.nox(X:Cx):Cx:=X.sQ λ_ _=>False
theorem Cx.Ok.sQ{X:Cx}(ok:X.Ok)(E:Hf):(X.sQ E).Ok:=
 ⟨ok.mod,ok.kind,ok.glob,ok.blt,ok.above,ok.inj,ok.has,ok.cab,ok.hd,ok.frames,ok.stk,ok.exf,ok.bs,ok.bsz,ok.JX,ok.DY,ok.lU,ok.frf⟩
theorem Cx.Ok.kY{X:Cx}{E:Hf}(ok:(X.sQ E).Ok):X.Ok:=
 ⟨ok.mod,ok.kind,ok.glob,ok.blt,ok.above,ok.inj,ok.has,ok.cab,ok.hd,ok.frames,ok.stk,ok.exf,ok.bs,ok.bsz,ok.JX,ok.DY,ok.lU,ok.frf⟩
section
variable {X:Cx}{jr:Hg}{σ:St}{H:Hp}{s:Fe}{E:Hf}
theorem Inv.sQ(I:Inv X jr σ H s)(E:Hf):Inv (X.sQ E) jr σ H s:=⟨I.ok.sQ E,I.os,I.bare,I.base,I.loc,I.cell,I.free,I.iO,I.pin,I.hok,I.len⟩
theorem Inv.kY(I:Inv (X.sQ E) jr σ H s):Inv X jr σ H s:=⟨I.ok.kY,I.os,I.bare,I.base,I.loc,I.cell,I.free,I.iO,I.pin,I.hok,I.len⟩
theorem SP.kY{D:Ends}{f:Flow}{s':Fe}(h:SP (X.sQ E) jr D f s'):SP X jr D f s':=by
 cases f with
 |next=>obtain⟨σ',H',I,q⟩:=h;exact⟨σ',H',I.kY,q⟩
 |brk=>obtain⟨σ',H',I,q⟩:=h;exact⟨σ',H',I.kY,q⟩
 |cont=>obtain⟨σ',H',I,q⟩:=h;exact⟨σ',H',I.kY,q⟩
 |ret u=>obtain⟨v,σ',H',I,r,q⟩:=h;exact⟨v,σ',H',I.kY,r,q⟩
theorem PSs.nox{st:List Ga}{t:TS}(h:PSs X.nox st t):PSs X st t:=λjr s σ H D I hw=>
 wpAny_mono (h jr s σ H D (I.sQ _) hw) (λ_ _ q=>q.kY) λ_ _ z=>False.elim z
end
section
variable {X:Cx}{st:Ga}{rest:List Ga}{t u:TS}{e:Fz}{te:TE}{pos:Pos}
def QT:TS:=λD σ H=>D.nx σ H
def G7(t u:TS):TS:=λD σ H=>t {D with nx:=u D} σ H
theorem bF:PSs X [] QT:=λ_ _ σ H _ I h=>wpAny_execs_nil ⟨σ,H,I,h⟩
theorem aA(h1:PS X st t)(h2:PSs X rest u):PSs X (st::rest) (G7 t u):=by
 intro jr s σ H D I h;refine wpAny_execs_cons (thn (h1 jr s σ H {D with nx:=u D} I h) λf s1 q=>?_);cases f with
 |next=>obtain⟨σ',H',I',q⟩:=q;exact h2 jr s1 σ' H' D I' q
 |ret v=>exact q
 |brk=>exact q
 |cont=>exact q
theorem aF(h1:PS X st t):PSs X [st] t:=by
 intro jr s σ H D I h;refine wpAny_execs_cons (thn (h1 jr s σ H D I h) λf s1 q=>?_);cases f with
 |next=>exact wpAny_execs_nil q
 |ret v=>exact q
 |brk=>exact q
 |cont=>exact q
theorem Inv.quiet{jr:Hg}{σ:St}{H:Hp}{s:Fe}(I:Inv X jr σ H s):interactive X.env=false:=by simp[interactive,I.ok.kind]
def QY(te:TE):TS:=λD σ H=>te σ H λ_ H1=>D.nx σ H1
theorem dC(he:PE X e te)(hs:swapsWith e none pos.line X.env=pure false:=by rfl):PS X (.Expr e pos) (QY te):=by intro jr s σ H D I h;exact wpAny_Expr_any (thn (he jr s σ H _ I h) λv s1 ⟨x,H1,I1,r1,q1⟩=>⟨σ,H1,I1,q1⟩) I.quiet hs
def WK(te:TE):TS:=λD σ H=>te σ H D.rt
theorem aS(he:PE X e te):PS X (.Return (some e) pos) (WK te):=by intro jr s σ H D I h;exact wpAny_Return_some (thn (he jr s σ H _ I h) λv s1 ⟨x,H1,I1,r1,q1⟩=>⟨x,σ,H1,I1,r1,q1⟩)
noncomputable def WO(c:TT)(t u:TS):TS:=λD σ H=>c σ H λb H1=>if b=true then t D σ H1 else u D σ H1
theorem cJ{c:Fz}{a b:List Ga}{tc:TT}(hc:PT X c tc)(ha:PSs X a t)(hb:PSs X b u):PS X (.If c a b pos) (WO tc t u):=by
 intro jr s σ H D I h;refine wpAny_If (thn (hc jr s σ H _ I h) λd s1 ⟨H1,I1,q1⟩=>?_);cases d with
 |true=>exact ha jr s1 σ H1 D I1 q1
 |false=>exact hb jr s1 σ H1 D I1 q1
end
abbrev TG:=V->St->Hp->(St->Hp->Prop)->Prop
abbrev TGs:=List V->St->Hp->(St->Hp->Prop)->Prop
noncomputable def PG(X:Cx)(mw:Fz)(t:TG):Prop:=
 ∀(jr:Hg)(s:Fe)(σ:St)(H:Hp)(v:V)(u:fv)(Q:St->Hp->Prop),Inv X jr σ H s->RelV v u->t v σ H Q ->
  Fi (Fm X.prog X.w) X.A (assign mw X.env u) (λ_ s'=>∃σ' H',Inv X jr σ' H' s'/\Q σ' H') X.xe s
noncomputable def PGs(X:Cx)(ts:List Fz)(t:TGs):Prop:=
 ∀(jr:Hg)(s:Fe)(σ:St)(H:Hp)(vs:List V)(us:List fv)(Q:St->Hp->Prop),Inv X jr σ H s->Vals vs us->t vs σ H Q ->
  Fi (Fm X.prog X.w) X.A (assignInOrder ((assignEach ts X.env).map (·.2)) us) (λ_ s'=>∃σ' H',Inv X jr σ' H' s'/\Q σ' H') X.xe s
abbrev TIp:=V->V->Hp->VK->Prop
noncomputable def PIp(X:Cx)(op:Operator)(t:TIp):Prop:=
 ∀(jr:Hg)(s:Fe)(σ:St)(H:Hp)(x y:V)(v u:fv)(Q:VK),Inv X jr σ H s->RelV x v->RelV y u->t x y H Q ->
  Fi (Fm X.prog X.w) X.A (inplaceOp op v u) (EP X jr σ Q) X.xe s
section
variable {X:Cx}{pos:Pos}
def jJ(i:Nat):TG:=λv σ H Q=>Q (σ.set i (some v)) H
theorem MG{i:Nat}{x:Str}(hN:X.N.Nodup)(hi:X.N[i]? =some x)(hx:Loc X.env.scope x)(hf:X.fn x=true\/X.env.scope.names.lookup x=some .local:=by first|exact .inl rfl|exact .inr rfl|assumption):PG X (.Name x pos) (jJ i):=by intro jr s σ H v u Q I r h;exact wpAny_assign_Name (tO I hN hi hx r (λs' I'=>⟨_,H,I',h⟩) hf)
def a0K:TGs:=λvs σ H Q=>vs=[]/\Q σ H
noncomputable def VY(t:TG)(u:TGs):TGs:=λvs σ H Q=>∃v r,vs=v::r/\t v σ H λσ' H'=>u r σ' H' Q
theorem fY:PGs X [] a0K:=by intro jr s σ H vs us Q I r h;obtain⟨e,h⟩:=h;subst e;cases r;exact assignInOrder_nil ⟨σ,H,I,h⟩
theorem aX{e:Fz}{es:List Fz}{t:TG}{u:TGs}(h1:PG X e t)(h2:PGs X es u)
  (hs:(assignEach (e::es) X.env).map (·.2)=assign e X.env::(assignEach es X.env).map (·.2):=by rfl):PGs X (e::es) (VY t u):=by
 intro jr s σ H vs us Q I r h;obtain⟨v,vr,e1,h⟩:=h;subst e1;cases r with
 |cons r rr=>rw[hs];refine assignInOrder_cons (thn (h1 jr s σ H _ _ _ I r h) λ_ s1 ⟨σ1,H1,I1,q1⟩=>?_);exact h2 jr s1 σ1 H1 _ _ Q I1 rr q1
noncomputable def a0J(K:Fg)(n:Nat)(t:TGs):TG:=λv σ H Q=>∃a xs,v=.ref a/\SqT K H a xs/\xs.length=n/\t xs σ H Q
theorem jW{es:List Fz}{k:Nat}{t:TGs}{n:Nat}(hc:X.calm=true)(h:PGs X es t)
  (hn:(assignEach es X.env).length=n:=by rfl) (qi:(assignEach es X.env).findIdx? (·.1)=none:=by rfl):PG X (.Tuple es k pos) (a0J X.K n t):=by
 intro jr s σ H v u Q I r hw;obtain⟨a,xs,e1,hq,hl,hw⟩:=hw;subst e1;cases r;obtain⟨its,rv,ht,hz⟩:=I.tuple hq;refine assign_Tuple_tuple (I.ok.hd hc) ht (by simp[hn,<- hl,rv.length]) qi λh' hx=>?_
 have I1:Inv X jr σ H {s with heap:=h'}:=I.kept (t':=s.toks) λb o e=>hx b o (cj (br e)) e
 exact h jr _ σ H xs _ Q I1 (by simpa using rv) hw
def CC(te:TE)(g:TG):TS:=λD σ H=>te σ H λx H1=>g x σ H1 D.nx
theorem nQ{tg e:Fz}{te:TE}{g:TG}(he:PE X e te)(hg:PG X tg g)(hs:swapsWithSole [tg] e pos.line X.env=pure false:=by rfl)(hw:swappedStores [tg] e X.env=pure none:=by rfl)
  (h1:(assignEach [tg] X.env).map (·.2)=[assign tg X.env]:=by rfl):PS X (.Assign [tg] e pos) (CC te g):=by
 intro jr s σ H D I h;refine wpAny_Assign_stores (thn (he jr s σ H _ I h) λv s1 ⟨x,H1,I1,r1,q1⟩=>?_) hs hw;rw[h1];exact thn (hg jr s1 σ H1 x v _ I1 r1 q1) λ_ s2 q=>q
theorem CL{i:Nat}{x:Str}{e:Fz}{te:TE}{ko:Pos}(hN:X.N.Nodup)(hi:X.N[i]? =some x)(hx:Loc X.env.scope x)(he:PE X e te)(hs:swapsWith e (some (.Name x ko)) pos.line X.env=pure false:=by rfl)(hf:X.fn x=true\/X.env.scope.names.lookup x=some .local:=by first|exact .inl rfl|exact .inr rfl|assumption):
  PS X (.Assign [.Name x ko] e pos) (CC te (jJ i)):=by
 intro jr s σ H D I h;refine wpAny_Assign_Name (thn (he jr s σ H _ I h) λv s1 ⟨y,H1,I1,r1,q1⟩=>?_) hs;exact tO I1 hN hi hx r1 (λs2 I2=>⟨_,H1,I2,q1⟩) hf
noncomputable def WU(i:Nat)(te:TE)(ti:TIp):TS:=λD σ H=>∃x,σ[i]? =some (some x)/\te σ H λy H1=>ti x y H1 λz H2=>D.nx (σ.set i (some z)) H2
theorem JF{i:Nat}{x:Str}{e:Fz}{te:TE}{op:Operator}{ti:TIp}{ko:Pos}(hN:X.N.Nodup)(hi:X.N[i]? =some x)(hx:Loc X.env.scope x)(he:PE X e te)(ho:PIp X op ti)(hf:X.fn x=true\/X.env.scope.names.lookup x=some .local:=by first|exact .inl rfl|exact .inr rfl|assumption):
  PS X (.AugAssign (.Name x ko) op e pos) (WU i te ti):=by
 intro jr s σ H D I h;obtain⟨v,e1,h⟩:=h;obtain⟨m,hn,hl⟩:=I.loc;have vis:Vis X.env.scope x:=by rcases hx with k|k;exact .inl k;exact .inr (.inl k)
 obtain⟨u,r,l⟩:=hl i x v hi e1 vis;refine wpAny_AugAssign_Name ?_;have go:Fi (Fm X.prog X.w) X.A (eval e X.env) (λw s₂=>Fi (Fm X.prog X.w) X.A (inplaceOp op u w) (λr s₃=>Fi (Fm X.prog X.w) X.A (storeName X.env x r) (λ_=>SP X jr D .next) X.xe s₃) X.xe s₂) X.xe s:=by
  refine thn (he jr s σ H _ I h) λw s1 ⟨y,H1,I1,r1,q1⟩=>?_
  refine thn (ho jr s1 σ H1 v y u w _ I1 r r1 q1) λz s2 ⟨zv,H2,I2,r2,q2⟩=>?_
  exact tO I2 hN hi hx r2 (λs3 I3=>⟨_,H2,I3,q2⟩) hf
 rcases l with⟨hk,hm⟩|⟨hk,c,hc,pb⟩
 ·exact wpAny_loadName_local I.ok.kind hk hn hm go
 ·rcases hk with hk|hk
  ·exact wpAny_loadName_cell I.ok.kind hk hc pb go
  ·rcases hx with k|k
   ·have:X.env.scope.names.lookup x=some .free:=hk;rw[k]at this;cases this
   ·have:X.env.scope.names.lookup x=some .free:=hk;rw[k]at this;cases this
noncomputable def ipI(f:Int->Int->Int):TIp:=λx y H Q=>∃i j,x=.int i/\y=.int j/\Q (.int (f i j)) H
theorem KI:PIp X .Add (ipI λi j=>i+j):=by intro jr s σ H x y v u Q I r1 r2 h;obtain⟨i,j,e1,e2,q⟩:=h;subst e1;subst e2;obtain⟨t,rfl⟩:=r1;obtain⟨t',rfl⟩:=r2;exact iadd_int ⟨.int _,H,I.tok _,⟨_,rfl⟩,q⟩
end
section
variable {X:Cx}{pos:Pos}
noncomputable def IW(c:TT)(tb:TS):TS:=λD σ H=>∃W:Nat->St->Hp->Prop,(∃m,W m σ H)/\∀m σ H,W m σ H ->
 c σ H λb H1=>if b=true then∃N:St->Hp->Prop,(∀σ' H',N σ' H'->∃m',m'<m/\W m' σ' H')/\tb {D with nx:=N,ct:=N,bk:=D.nx} σ H1 else D.nx σ H1
theorem lG{c:Fz}{body:List Ga}{tc:TT}{tb:TS}(hp:PassesOwn (Fm X.prog X.w) X.A X.env X.xe)(hc:PT X c tc)(hb:PSs X body tb):PS X (.While c body [] pos) (IW tc tb):=by
 intro jr s σ H D I h;obtain⟨W,⟨m0,w0⟩,ku⟩:=h;refine wpAny_While (codeAny_whileLoop (λn s'=>∃σ' H',Inv X jr σ' H' s'/\W n σ' H') ?_ m0 ⟨σ,H,I,w0⟩);rintro n s1 ⟨σ1,H1,I1,w1⟩;refine wpAny_passesOwn hp (thn (hc jr s1 σ1 H1 _ I1 (ku n σ1 H1 w1)) λb s2 ⟨H2,I2,q2⟩=>?_);cases b with
 |true=>
  obtain⟨N,hN,q2⟩:=q2;rw[ah rfl];refine wpAny_passesOwn hp (thn (hb jr s2 σ1 H2 _ I2 q2) λf s3 q3=>?_);cases f with
  |next=>obtain⟨σ3,H3,I3,n3⟩:=q3;obtain⟨m',hm,w3⟩:=hN σ3 H3 n3;exact⟨m',hm,σ3,H3,I3,w3⟩
  |cont=>obtain⟨σ3,H3,I3,n3⟩:=q3;obtain⟨m',hm,w3⟩:=hN σ3 H3 n3;exact⟨m',hm,σ3,H3,I3,w3⟩
  |brk=>exact q3
  |ret v=>exact q3
 |false=>rw[af bp];exact wpAny_execs_nil ⟨σ1,H2,I2,q2⟩
end
structure It where
 go:Nat->Hp->Prop
 yld:Nat->Hp->V->Hp->Prop
 stop:Nat->Hp->Prop
noncomputable def oI(X:Cx)(jr:Hg)(H:Hp)(b:xv):Prop:=
 H b=none/\b≠X.env.locals/\b∉X.fs/\(b∈X.ex\/X.s_0.heap.objs.size<=b)/\(∀x c,X.env.cells.lookup x=some c->c≠b)/\∀p∈X.pn++jr,p.1≠b
theorem Inv.DU{X:Cx}{jr:Hg}{σ:St}{H H':Hp}{s:Fe}{b:xv}(I:Inv X jr σ H s)(hb:s.heap.objs.size<=b)(hn:H' b=none):oI X jr H' b:=by
 refine⟨hn,jj (bz I.lt hb),I.a0D hb,.inr (de I.sz hb),λx c e z=>?_,λp hp z=>?_⟩
 ·obtain⟨v,q⟩:=I.cell x c e;exact absurd (bz q.lt (by rw[z];exact hb)) (gu _)
 ·exact absurd (bz (br (I.pin p hp).1) (by rw[z];exact hb)) (gu _)
structure Turn(P:Fo)(w:Fw)(K:Fg)(tg:Fz)(J:It)(fp:List xv)(it:xv)(tn:Nat->Fp->Prop):Prop where
 mem:it∈fp
 obj:∀i h,tn i h->∀b∈fp,∃o,h.get? b=some o/\∀v,o.data≠ .cell v
 keep:∀i h h',tn i h->(∀b∈fp,∀o,h.get? b=some o->h'.get? b=some o)->tn i h'
 item:∀(X:Cx),X.prog=P->X.w=w->X.K=K->X.calm=true->∀(i:Nat)(jr:Hg)(s:Fe)(σ:St)(H:Hp)(E:Hf),Inv X jr σ H s->(∀b∈fp,oI X jr H b)->tn i s.heap->J.go i H ->
  Fi (Fm P w) X.A (pyNext (.ref it)) (λr s1=>∃u,r=some u/\
   Fi (Fm P w) X.A (letOwnedTupleGo tg (.ref it) u) (λ_ s2=>∃x H',Inv X jr σ H' s2/\RelV x u/\J.yld i H x H'/\tn (i+1) s2.heap/\∀b∈fp,H' b=none) E s1) E s
 done:∀(X:Cx),X.prog=P->X.w=w->X.K=K->X.calm=true->∀(i:Nat)(jr:Hg)(s:Fe)(σ:St)(H:Hp)(E:Hf),Inv X jr σ H s->(∀b∈fp,oI X jr H b)->tn i s.heap->J.stop i H ->
  Fi (Fm P w) X.A (pyNext (.ref it)) (λr s1=>r=none/\Inv X jr σ H s1) E s
 self:∀(A:Ft)(i:Nat)(s:Fe)(Q:Hf)(E:Hf),tn i s.heap->Q (.ref it) s->Fi (Fm P w) A (pyIter (.ref it)) Q E s
abbrev TI:=St->Hp->(It->Hp->Prop)->Prop
noncomputable def PIE(X:Cx)(jr:Hg)(σ:St)(tg:Fz)(R:It->Hp->Prop)(itv:fv)(s2:Fe):Prop:=
 ∃(it:xv)(fp:List xv)(tn:Nat->Fp->Prop)(J:It)(H':Hp),itv=.ref it/\Inv X jr σ H' s2/\Turn X.prog X.w X.K tg J fp it tn/\tn 0 s2.heap/\(∀b∈fp,oI X jr H' b)/\R J H'
noncomputable def PI(X:Cx)(tg iter:Fz)(wi:TI):Prop:=
 ∀(jr:Hg)(s:Fe)(σ:St)(H:Hp)(R:It->Hp->Prop),Inv X jr σ H s->wi σ H R ->
  Fi (Fm X.prog X.w) X.A (eval iter X.env) (λv s1=>Fi (Fm X.prog X.w) X.A (pyIter v) (PIE X jr σ tg R) X.xe s1) X.xe s
theorem xJ{M:Model}{A:Ft}{E:Hf}{s:Fe}{tg:Fz}{it:xv}{u:fv}{o:Obj}{n:String}{vs:Array fv}{Q:Unit->Fe->Prop}(ho:s.heap.get? it=some o)(hc:o.cls=.type n)(hd:o.data=.fields vs)
  (hn:["enumerate","zip","dict_itemiterator","dict_reverseitemiterator","odict_iterator","itertools.zip_longest","itertools.pairwise"].contains n=false) (hQ:Q () s):Fi M A (letOwnedTupleGo tg (.ref it) u) Q E s:=by
 unfold letOwnedTupleGo;cases tg<;>first
  |exact ag hQ
  |(cases u<;>first
    |exact ag hQ
    |(refine aa (wpAny_load ho ?_);rw[hc,hd];show Fi M A (if(["enumerate","zip","dict_itemiterator","dict_reverseitemiterator","odict_iterator","itertools.zip_longest","itertools.pairwise"].contains n&& vs[0]? ==some (rawInt _))=true then _ else _) Q E s;rw[af (by intro h;rw[hn,Bool.false_and]at h;cases h)];exact ag hQ))
noncomputable def Itl(K:Fg)(a:xv):It:=
 ⟨λi H=>∃xs x,SqL K H a xs/\xs[i]? =some x,λi H x H'=>H'=H/\∀xs,SqL K H a xs->xs[i]? =some x,λi H=>∃xs,SqL K H a xs/\xs.length<=i⟩
noncomputable def Itt(K:Fg)(a:xv):It:=
 ⟨λi H=>∃xs x,SqT K H a xs/\xs[i]? =some x,λi H x H'=>H'=H/\∀xs,SqT K H a xs->xs[i]? =some x,λi H=>∃xs,SqT K H a xs/\xs.length<=i⟩
noncomputable def Itr(lo:Int)(n:Nat):It:=⟨λi _=>i<n,λi H x H'=>H'=H/\x=.int (lo+i),λi _=>n<=i⟩
theorem FY{P:Fo}{w:Fw}{K:Fg}{tg:Fz}(a it:xv):Turn P w K tg (Itl K a) [it] it (λi h=>h.IsListIter it a i) where
 mem:=by simp
 obj:=λi h st b hb=>by
  have e:b=it:=by simpa using hb
  subst e;obtain⟨o,e,c,d⟩:=st;exact⟨o,e,λv z=>by rw[d]at z;cases z⟩
 keep:=λi h h' st k=>st.at λo e=>k it (by simp) o e
 item:=by
  intro X hP hw hK hc i jr s σ H E I hf st hg;subst hP hw hK;obtain⟨xs,x,hq,hx⟩:=hg;obtain⟨its,rv,p,hz⟩:=I.list hq;obtain⟨u,hu,ru⟩:=rv.get hx;obtain⟨f0,f1,f2,f3,f4,f5⟩:=hf it (by simp);refine wpAny_pyNext_list_item st p.isList (x:=u) (by simpa using hu) λh' ow sb=>?_
  have I1:Inv X jr σ H {s with heap:=h'}:=I.turned (t':=s.toks) (λb o hb e=>(sb.2 b hb).trans e) f0 f1 f3 f4 f5;obtain⟨o,e,c,d⟩:=id ow;exact⟨u,rfl,xJ (s:={s with heap:=h'}) e c d Hd ⟨x,H,I1,ru,⟨rfl,λys hy=>by rw[I.AS hy hq];exact hx⟩,ow,λb hb=>(hf b hb).1⟩⟩
 done:=by intro X hP hw hK hc i jr s σ H E I hf st hg;subst hP hw hK;obtain⟨xs,hq,hx⟩:=hg;obtain⟨its,rv,p,hz⟩:=I.list hq;obtain⟨f0,f1,f2,f3,f4,f5⟩:=hf it (by simp);have hl:=rv.length;exact wpAny_pyNext_list_end (I.ok.hd hc) st p.isList (by simp;omega) λh' eb=>⟨rfl,I.turned (t':=s.toks) (λb o hb e=>eb b o hb e) f0 f1 f3 f4 f5⟩
 self:=λ_ _ _ _ _ st h=>wpAny_pyIter_listiter st h
theorem C6{P:Fo}{w:Fw}{K:Fg}{tg:Fz}(a it:xv):Turn P w K tg (Itt K a) [it] it (λi h=>h.IsTupleIter it a i) where
 mem:=by simp
 obj:=λi h st b hb=>by
  have e:b=it:=by simpa using hb
  subst e;obtain⟨o,e,c,d⟩:=st;exact⟨o,e,λv z=>by rw[d]at z;cases z⟩
 keep:=λi h h' st k=>st.at λo e=>k it (by simp) o e
 item:=by
  intro X hP hw hK hc i jr s σ H E I hf st hg;subst hP hw hK;obtain⟨xs,x,hq,hx⟩:=hg;obtain⟨its,rv,p,hz⟩:=I.tuple hq;obtain⟨u,hu,ru⟩:=rv.get hx;obtain⟨f0,f1,f2,f3,f4,f5⟩:=hf it (by simp);refine wpAny_pyNext_tuple_item st (show s.heap.IsTuple a its.toArray from p) (x:=u) (by simpa using hu) λh' ow sb=>?_
  have I1:Inv X jr σ H {s with heap:=h'}:=I.turned (t':=s.toks) (λb o hb e=>(sb.2 b hb).trans e) f0 f1 f3 f4 f5;obtain⟨o,e,c,d⟩:=id ow;exact⟨u,rfl,xJ (s:={s with heap:=h'}) e c d Hd ⟨x,H,I1,ru,⟨rfl,λys hy=>by rw[I.G1 hy hq];exact hx⟩,ow,λb hb=>(hf b hb).1⟩⟩
 done:=by intro X hP hw hK hc i jr s σ H E I hf st hg;subst hP hw hK;obtain⟨xs,hq,hx⟩:=hg;obtain⟨its,rv,p,hz⟩:=I.tuple hq;obtain⟨f0,f1,f2,f3,f4,f5⟩:=hf it (by simp);have hl:=rv.length;exact wpAny_pyNext_tuple_end (I.ok.hd hc) st (show s.heap.IsTuple a its.toArray from p) (by simp;omega) λh' eb=>⟨rfl,I.turned (t':=s.toks) (λb o hb e=>eb b o hb e) f0 f1 f3 f4 f5⟩
 self:=λ_ _ _ _ _ st h=>wpAny_pyIter_tupleiter st h
theorem C7{P:Fo}{w:Fw}{K:Fg}{tg:Fz}(it:xv)(lo:Int)(n:Nat):Turn P w K tg (Itr lo n) [it] it (λi h=>IsRangeIter h it (lo+(i:Nat)*1) ((n:Int) - (i:Nat)) 1) where
 mem:=by simp
 obj:=λi h st b hb=>by
  have e:b=it:=by simpa using hb
  subst e;exact⟨_,st,λv z=>by
   have z':Data.fields _=Data.cell v:=z;cases z'⟩
 keep:=λi h h' st k=>k it (by simp) _ st
 item:=by
  intro X hP hw hK hc i jr s σ H E I hf st hg;subst hP hw hK;obtain⟨f0,f1,f2,f3,f4,f5⟩:=hf it (by simp);have W:=Walks.range (prog:=X.prog) (w:=X.w) (I.ok.hd hc) it lo 1 n;refine W.item i s _ _ hg st λv h' tk hv ow kk=>?_
  obtain⟨t,rfl⟩:=hv;have I1:Inv X jr σ H {s with heap:=h',toks:=tk}:=I.turned (λb o hb e=>kk b o (by simpa using hb) e) f0 f1 f3 f4 f5;refine⟨_,rfl,xJ (s:={s with heap:=h',toks:=tk}) (n:= "range_iterator") ow rfl rfl Hd ⟨.int (lo+i),H,I1,⟨t,?_⟩,⟨rfl,rfl⟩,ow,λb hb=>(hf b hb).1⟩⟩;rw[Int.mul_one]
 done:=by intro X hP hw hK hc i jr s σ H E I hf st hg;subst hP hw hK;obtain⟨f0,f1,f2,f3,f4,f5⟩:=hf it (by simp);exact wpAny_pyNext_range_end (I.ok.hd hc) st (by have:n<=i:=hg;omega) λh' eb=>⟨rfl,I.turned (t':=s.toks) (λb o hb e=>eb b o hb e) f0 f1 f3 f4 f5⟩
 self:=λ_ _ _ _ _ st h=>wpAny_pyIter_rangeiter st h
section
variable {X:Cx}{tg:Fz}
noncomputable def VT(K:Fg)(tl:TE):TI:=λσ H R=>tl σ H λx H1=>∃a,x=.ref a/\(∃xs,SqL K H1 a xs)/\R (Itl K a) H1
noncomputable def a0I(K:Fg)(tl:TE):TI:=λσ H R=>tl σ H λx H1=>∃a,x=.ref a/\(∃xs,SqT K H1 a xs)/\R (Itt K a) H1
theorem fE{l:Fz}{tl:TE}(hl:PE X l tl):PI X tg l (VT X.K tl):=by
 intro jr s σ H R I h;refine thn (hl jr s σ H _ I h) λv s1 ⟨x,H1,I1,r1,q1⟩=>?_
 obtain⟨a,e,⟨xs,hq⟩,q⟩:=q1;subst e;cases r1;obtain⟨its,rv,p,hz⟩:=I1.list hq;refine wpAny_pyIter_list p.isList ?_;refine⟨s1.heap.objs.size,[s1.heap.objs.size],_,_,H1,rfl,I1.kept (t':=s1.toks) λb o e=>ak _ e,FY a _,⟨_,az _ rfl,rfl,rfl⟩,λb hb=>?_,q⟩;have e:b=s1.heap.objs.size:=by simpa using hb
 subst e;exact I1.DU (aw _) (I1.hok.fresh (aw _))
theorem lH{l:Fz}{tl:TE}(hl:PE X l tl):PI X tg l (a0I X.K tl):=by
 intro jr s σ H R I h;refine thn (hl jr s σ H _ I h) λv s1 ⟨x,H1,I1,r1,q1⟩=>?_
 obtain⟨a,e,⟨xs,hq⟩,q⟩:=q1;subst e;cases r1;obtain⟨its,rv,p,hz⟩:=I1.tuple hq;refine wpAny_pyIter_tuple (show s1.heap.IsTuple a its.toArray from p) ?_;refine⟨s1.heap.objs.size,[s1.heap.objs.size],_,_,H1,rfl,I1.kept (t':=s1.toks) λb o e=>ak _ e,C6 a _,⟨_,az _ rfl,rfl,rfl⟩,λb hb=>?_,q⟩;have e:b=s1.heap.objs.size:=by simpa using hb
 subst e;exact I1.DU (aw _) (I1.hok.fresh (aw _))
theorem A3{jr:Hg}{σ:St}{H:Hp}{s:Fe}{R:It->Hp->Prop}{E:Hf}{lo hi:Int}{t u v:Tok}{tk:Nat}(I:Inv X jr σ H s)(h1:-(2^62)<=lo)(h2:lo<2^62)(h3:-(2^62)<=hi)(h4:hi<2^62)
  (q:R (Itr lo (hi - lo).toNat) H):Fi (Fm X.prog X.w) X.A (pyIter (.ref s.heap.objs.size)) (PIE X jr σ tg R) E {s with heap:=s.heap.push {cls:=.type "range",data:=.fields #[.int lo t,.int hi u,.int 1 v]},toks:=tk}:=by
 refine wpAny_pyIter_range (IsRange.new ..) (small_one h1 h2 h3 h4) ?_;have I1:Inv X jr σ H {s with heap:=s.heap.push {cls:=.type "range",data:=.fields #[.int lo t,.int hi u,.int 1 v]},toks:=tk}:=I.kept λb o e=>ak _ e
 refine⟨(s.heap.push {cls:=.type "range",data:=.fields #[.int lo t,.int hi u,.int 1 v]}).objs.size,[(s.heap.push {cls:=.type "range",data:=.fields #[.int lo t,.int hi u,.int 1 v]}).objs.size],_,_,H,rfl,
  I1.kept (t':=tk) λb o e=>ak _ e,C7 _ lo (hi - lo).toNat,?_,λb hb=>?_,q⟩
 ·have e1:lo+((0:Nat):Int)*1=lo:=by simp
  have e2:(((hi - lo).toNat:Nat):Int) - ((0:Nat):Int)=Builtin.Range.rangeSize lo hi 1:=by rw[rangeSize_one];split<;>omega
  show IsRangeIter _ _ (lo+((0:Nat):Int)*1) ((((hi - lo).toNat:Nat):Int) - ((0:Nat):Int)) 1
  rw[e1,e2];exact az _ rfl
 ·have e:b=(s.heap.push {cls:=.type "range",data:=.fields #[.int lo t,.int hi u,.int 1 v]}).objs.size:=by simpa using hb
  subst e;exact I1.DU (aw _) (I1.hok.fresh (aw _))
noncomputable def VS(ta:TA):TI:=λσ H R=>ta σ H λvs H1=>∃j:Int,vs=[.int j]/\-(2^62)<=j/\j<2^62/\R (Itr 0 j.toNat) H1
noncomputable def VR(ta:TA):TI:=λσ H R=>ta σ H λvs H1=>∃i j:Int,vs=[.int i,.int j]/\(-(2^62)<=i/\i<2^62/\-(2^62)<=j/\j<2^62)/\R (Itr i (j - i).toNat) H1
theorem wV{a:Fz}{ta:TA}{p pos:Pos}(hg:Gl X "range")(hm:X.mg "range" =none)(ha:PA X [a] ta)(hs:Fq [a] X.env=[(false,eval a X.env)]:=by rfl):PI X tg (.Call (.Name "range" p) [a] [] pos) (VS ta):=by
 intro jr s σ H R I h;refine Call_ (qS I hg hm boot_range (PyProof.Rows.callWith_type1 (thn (ha pos jr s σ H _ I h) λus s1 ⟨vs,H1,I1,r1,q1⟩=>?_) hs rfl));obtain⟨j,e,q1,q2,q⟩:=q1;subst e;cases r1 with
 |cons r rr=>cases rr;obtain⟨t,rfl⟩:=r;exact call_range_1 (A3 I1 Hc Hc q1 q2 (by simpa using q))
theorem GG{a b:Fz}{ta:TA}{p pos:Pos}(hg:Gl X "range")(hm:X.mg "range" =none)(ha:PA X [a,b] ta)(hs:Fq [a,b] X.env=[(false,eval a X.env),(false,eval b X.env)]:=by rfl)(tm:Fq [b] X.env=[(false,eval b X.env)]:=by rfl):
  PI X tg (.Call (.Name "range" p) [a,b] [] pos) (VR ta):=by
 intro jr s σ H R I h;refine Call_ (qS I hg hm boot_range (PyProof.Rows.callWith_type1 (thn (ha pos jr s σ H _ I h) λus s1 ⟨vs,H1,I1,r1,q1⟩=>?_) (by rw[hs,tm]) (by rw[tm];rfl)));obtain⟨i,j,e,⟨q1,q2,q3,q4⟩,q⟩:=q1;subst e;cases r1 with
 |cons r rr=>
  cases rr with
  |cons r' rr=>cases rr;obtain⟨t,rfl⟩:=r;obtain⟨t',rfl⟩:=r';exact call_range_2 (A3 I1 q1 q2 q3 q4 q)
noncomputable def WQ(wi:TI)(g:TG)(tb:TS):TS:=λD σ H=>wi σ H λJ H1=>∃W:Nat->Nat->St->Hp->Prop,(∃m,W 0 m σ H1)/\∀i m σ H,W i m σ H ->
 (J.stop i H/\D.nx σ H)\/(J.go i H/\∃N:St->Hp->Prop,(∀σ' H',N σ' H'->∃m',m'<m/\W (i+1) m' σ' H')/\∀x H',J.yld i H x H'->g x σ H' λσ2 H2=>tb {D with nx:=N,ct:=N,bk:=D.nx} σ2 H2)
noncomputable def qM(fp:List xv)(h:Fp):Hg:=fp.filterMap λb=>(h.get? b).map λo=>(b,o)
theorem jZ{fp:List xv}{h:Fp}{b:xv}{o:Obj}(hb:b∈fp)(e:h.get? b=some o):(b,o)∈qM fp h:=ig.mpr ⟨b,hb,by rw[e];rfl⟩
theorem GI{fp:List xv}{h:Fp}{p:xv×Obj}(hp:p∈qM fp h):p.1∈fp/\h.get? p.1=some p.2:=by
 obtain⟨b,hb,e⟩:=ig.mp hp;cases q:h.get? b with
 |none=>rw[q]at e;cases e
 |some o=>rw[q]at e;have e':(b,o)=p:=Option.some.inj e;subst e';exact⟨hb,q⟩
theorem Inv.pinned{jr:Hg}{σ:St}{H:Hp}{s:Fe}{fp:List xv}(I:Inv X jr σ H s)(hf:∀b∈fp,oI X jr H b)(ho:∀b∈fp,∃o,s.heap.get? b=some o/\∀v,o.data≠ .cell v):Inv X (jr++qM fp s.heap) σ H s:=
 I.EO λp hp=>(ax.mp hp).elim (λz=>I.pin p (bg _ z)) λz=>by obtain⟨hb,e⟩:=GI z;obtain⟨f0,f1,f2,_⟩:=hf p.1 hb;obtain⟨o,e',d⟩:=ho p.1 hb;rw[e]at e';cases e';exact⟨e,f0,f1,f2,d⟩
theorem Inv.kZ{jr pl:Hg}{σ:St}{H:Hp}{s:Fe}(I:Inv X (jr++pl) σ H s):Inv X jr σ H s:=I.EO λp hp=>I.pin p (bg _ (cg _ hp))
theorem c8{iter:Fz}{body:List Ga}{wi:TI}{g:TG}{tb:TS}{pos:Pos}(hp:PassesOwn (Fm X.prog X.w) X.A X.env X.xe)(hc:X.calm=true)(hi:PI X tg iter wi)(hg:PG X tg g)(hb:PSs X body tb)
  (hs:∀x,foldedSetIterable iter X.env x=pure x:=by intro _;rfl):PS X (.For tg iter body [] pos) (WQ wi g tb):=by
 intro jr s σ H D I h;refine wpAny_For (thn (hi jr s σ H _ I h) λv s1 h1=>thn h1 λitv s2 h2=>?_) hs;obtain⟨it,fp,tn,J,H2,e,I2,T,zj,f2,W,⟨m0,w0⟩,ku⟩:=h2;subst e;have ny:∀{H':Hp},(∀b∈fp,H' b=none)->∀b∈fp,oI X jr H' b:=λhn b hb=>⟨hn b hb,(f2 b hb).2⟩
 refine codeAny_forLoop_any (λn s'=>∃i σ' H',Inv X jr σ' H' s'/\tn i s'.heap/\(∀b∈fp,H' b=none)/\W i n σ' H') ?_ m0 ⟨0,σ,H2,I2,zj,λb hb=>(f2 b hb).1,w0⟩;rintro n s3 ⟨i,σ3,H3,I3,Bf,fr3,w3⟩;rcases ku i n σ3 H3 w3 with⟨stop,qn⟩|⟨go,N,hN,step⟩
 ·refine wpAny_passesOwn hp (thn (T.done X rfl rfl rfl hc i jr s3 σ3 H3 X.xe I3 (ny fr3) Bf stop) λr s4 ⟨hr,I4⟩=>?_);subst hr;exact wpAny_execs_nil ⟨σ3,H3,I4,qn⟩
 ·refine wpAny_passesOwn hp (thn (T.item X rfl rfl rfl hc i jr s3 σ3 H3 X.xe I3 (ny fr3) Bf go) λr s4 ⟨u,hr,h4⟩=>?_);subst hr;refine wpAny_passesOwn hp (thn h4 λ_ s5 ⟨x,H5,I5,r5,y5,wq,fr5⟩=>?_);have I5':=I5.pinned (ny fr5) (T.obj _ _ wq);refine wpAny_passesOwn hp (thn (hg _ s5 σ3 H5 x u _ I5' r5 (step x H5 y5)) λ_ s6 ⟨σ6,H6,I6,q6⟩=>?_);refine wpAny_passesOwn hp (thn (hb _ s6 σ6 H6 _ I6 q6) λf s7 q7=>?_);have again:∀{σ7:St}{H7:Hp},Inv X (jr++qM fp s5.heap) σ7 H7 s7->N σ7 H7->∃m,m<n/\∃i σ' H',Inv X jr σ' H' s7/\tn i s7.heap/\(∀b∈fp,H' b=none)/\W i m σ' H':=λ{σ7 H7} I7 n7=>by obtain⟨m',hm,w7⟩:=hN σ7 H7 n7;refine⟨m',hm,i+1,σ7,H7,I7.kZ,T.keep _ _ _ wq λb hb o e=>(I7.pin (b,o) (bg _ (bg _ (jZ hb e)))).1,λb hb=>?_,w7⟩;obtain⟨o,e,d⟩:=T.obj _ _ wq b hb;exact(I7.pin (b,o) (bg _ (bg _ (jZ hb e)))).2.1
  cases f with
  |next=>obtain⟨σ7,H7,I7,n7⟩:=q7;exact again I7 n7
  |cont=>obtain⟨σ7,H7,I7,n7⟩:=q7;exact again I7 n7
  |brk=>obtain⟨σ7,H7,I7,q7⟩:=q7;exact⟨σ7,H7,I7.kZ,q7⟩
  |ret v=>obtain⟨x7,σ7,H7,I7,r7,q7⟩:=q7;exact⟨x7,σ7,H7,I7.kZ,r7,q7⟩
end
theorem jK{K:Fg}{a:xv}{xs:List V}{g:TG}{tb:TS}{D:Ends}{σ:St}{H:Hp}(Pv:Nat->St->Hp->Prop)(h0:Pv 0 σ H)(hl:∀i σ H,i<=xs.length->Pv i σ H->SqL K H a xs)
  (hs:∀i x σ H,xs[i]? =some x->Pv i σ H->g x σ H λσ2 H2=>tb {D with nx:=Pv (i+1),ct:=Pv (i+1),bk:=D.nx} σ2 H2) (hd:∀σ H,Pv xs.length σ H->D.nx σ H):
  ∃W:Nat->Nat->St->Hp->Prop,(∃m,W 0 m σ H)/\∀i m σ H,W i m σ H ->
   ((Itl K a).stop i H/\D.nx σ H)\/((Itl K a).go i H/\∃N:St->Hp->Prop,(∀σ' H',N σ' H'->∃m',m'<m/\W (i+1) m' σ' H')/\∀x H',(Itl K a).yld i H x H'->g x σ H' λσ2 H2=>tb {D with nx:=N,ct:=N,bk:=D.nx} σ2 H2):=by
 refine⟨λi m σ H=>m=xs.length - i/\i<=xs.length/\Pv i σ H,⟨xs.length,by simp,cn _,h0⟩,?_⟩;rintro i m σ H ⟨rfl,hi,p⟩;have q:=hl i σ H hi p;by_cases ka:i<xs.length
 ·refine .inr ⟨⟨xs,xs[i],q,by simp[ka]⟩,Pv (i+1),λσ' H' p'=>⟨xs.length - (i+1),Hc,rfl,ka,p'⟩,λx H' y=>?_⟩;obtain⟨e,y⟩:=y;subst e;exact hs i x σ _ (y xs q) p
 ·have e:i=xs.length:=Hc
  subst e;exact .inl ⟨⟨xs,q,aw _⟩,hd σ H p⟩
theorem kF{K:Fg}{a:xv}{xs:List V}{g:TG}{tb:TS}{D:Ends}{σ:St}{H:Hp}(Pv:Nat->St->Hp->Prop)(h0:Pv 0 σ H)(hl:∀i σ H,i<=xs.length->Pv i σ H->SqT K H a xs)
  (hs:∀i x σ H,xs[i]? =some x->Pv i σ H->g x σ H λσ2 H2=>tb {D with nx:=Pv (i+1),ct:=Pv (i+1),bk:=D.nx} σ2 H2) (hd:∀σ H,Pv xs.length σ H->D.nx σ H):
  ∃W:Nat->Nat->St->Hp->Prop,(∃m,W 0 m σ H)/\∀i m σ H,W i m σ H ->
   ((Itt K a).stop i H/\D.nx σ H)\/((Itt K a).go i H/\∃N:St->Hp->Prop,(∀σ' H',N σ' H'->∃m',m'<m/\W (i+1) m' σ' H')/\∀x H',(Itt K a).yld i H x H'->g x σ H' λσ2 H2=>tb {D with nx:=N,ct:=N,bk:=D.nx} σ2 H2):=by
 refine⟨λi m σ H=>m=xs.length - i/\i<=xs.length/\Pv i σ H,⟨xs.length,by simp,cn _,h0⟩,?_⟩;rintro i m σ H ⟨rfl,hi,p⟩;have q:=hl i σ H hi p;by_cases ka:i<xs.length
 ·refine .inr ⟨⟨xs,xs[i],q,by simp[ka]⟩,Pv (i+1),λσ' H' p'=>⟨xs.length - (i+1),Hc,rfl,ka,p'⟩,λx H' y=>?_⟩;obtain⟨e,y⟩:=y;subst e;exact hs i x σ _ (y xs q) p
 ·have e:i=xs.length:=Hc
  subst e;exact .inl ⟨⟨xs,q,aw _⟩,hd σ H p⟩
theorem qY{lo:Int}{n:Nat}{g:TG}{tb:TS}{D:Ends}{σ:St}{H:Hp}(Pv:Nat->St->Hp->Prop)(h0:Pv 0 σ H)
  (hs:∀i σ H,i<n->Pv i σ H->g (.int (lo+i)) σ H λσ2 H2=>tb {D with nx:=Pv (i+1),ct:=Pv (i+1),bk:=D.nx} σ2 H2) (hd:∀σ H,Pv n σ H->D.nx σ H):
  ∃W:Nat->Nat->St->Hp->Prop,(∃m,W 0 m σ H)/\∀i m σ H,W i m σ H ->
   ((Itr lo n).stop i H/\D.nx σ H)\/((Itr lo n).go i H/\∃N:St->Hp->Prop,(∀σ' H',N σ' H'->∃m',m'<m/\W (i+1) m' σ' H')/\∀x H',(Itr lo n).yld i H x H'->g x σ H' λσ2 H2=>tb {D with nx:=N,ct:=N,bk:=D.nx} σ2 H2):=by
 refine⟨λi m σ H=>m=n - i/\i<=n/\Pv i σ H,⟨n,by simp,cn _,h0⟩,?_⟩;rintro i m σ H ⟨rfl,hi,p⟩;by_cases ka:i<n
 ·refine .inr ⟨ka,Pv (i+1),λσ' H' p'=>⟨n - (i+1),Hc,rfl,ka,p'⟩,λx H' y=>?_⟩;obtain⟨e,y⟩:=y;subst e y;exact hs i σ _ ka p
 ·have e:i=n:=Hc
  subst e;exact .inl ⟨aw _,hd σ H p⟩
theorem kX{c:TT}{tb:TS}{D:Ends}{σ:St}{H:Hp}(Pv:St->Hp->Prop)(μ:St->Hp->Nat)(h0:Pv σ H)
  (hs:∀σ H,Pv σ H->c σ H λb H1=>if b=true then tb {D with nx:=λσ' H'=>Pv σ' H'/\μ σ' H'<μ σ H,ct:=λσ' H'=>Pv σ' H'/\μ σ' H'<μ σ H,bk:=D.nx} σ H1 else D.nx σ H1)
  (mono:∀σ H Q Q',(∀b H1,Q b H1->Q' b H1)->c σ H Q->c σ H Q'):IW c tb D σ H:=by
 refine⟨λm σ H=>m=μ σ H/\Pv σ H,⟨_,rfl,h0⟩,?_⟩;rintro m σ H ⟨rfl,p⟩;refine mono σ H _ _ (λb H1 q=>?_) (hs σ H p);cases b with
 |true=>exact⟨_,λσ' H' ⟨p',l⟩=>⟨_,l,rfl,p'⟩,q⟩
 |false=>exact q
abbrev R2:=V->V->Hp->VK->Prop
noncomputable def OpR(X:Cx)(f:fv->fv->Sem fv)(r:R2):Prop:=
 ∀(jr:Hg)(s:Fe)(σ:St)(H:Hp)(x y:V)(v u:fv)(Q:VK),Inv X jr σ H s->RelV x v->RelV y u->r x y H Q ->
  Fi (Fm X.prog X.w) X.A (f v u) (EP X jr σ Q) X.xe s
noncomputable def UnR(X:Cx)(f:fv->Sem fv)(r:V->Hp->VK->Prop):Prop:=
 ∀(jr:Hg)(s:Fe)(σ:St)(H:Hp)(x:V)(v:fv)(Q:VK),Inv X jr σ H s->RelV x v->r x H Q ->
  Fi (Fm X.prog X.w) X.A (f v) (EP X jr σ Q) X.xe s
noncomputable def nL(X:Cx)(f:fv)(r:List V->Hp->VK->Prop):Prop:=
 ∀(jr:Hg)(s:Fe)(σ:St)(H:Hp)(xs:List V)(us:List fv)(Q:VK),Inv X jr σ H s->Vals xs us->r xs H Q ->
  Fi (Fm X.prog X.w) X.A (call f us) (EP X jr σ Q) X.xe s
noncomputable def a0X(X:Cx)(r:V->Hp->(Bool->Hp->Prop)->Prop):Prop:=
 ∀(jr:Hg)(s:Fe)(σ:St)(H:Hp)(x:V)(v:fv)(Q:Bool->Hp->Prop),Inv X jr σ H s->RelV x v->r x H Q ->
  Fi (Fm X.prog X.w) X.A (truthy v) (TP X jr σ Q) X.xe s
noncomputable def tOp(r:R2)(ta tb:TE):TE:=λσ H Q=>ta σ H λx H1=>tb σ H1 λy H2=>r x y H2 Q
def tUn(r:V->Hp->VK->Prop)(ta:TE):TE:=λσ H Q=>ta σ H λx H1=>r x H1 Q
noncomputable def rI(C:Int->Int->Prop)(g:Int->Int->V):R2:=λx y H Q=>∃i j,x=.int i/\y=.int j/\C i j/\Q (g i j) H
noncomputable def rI0(g:Int->Int->V):R2:=λx y H Q=>∃i j,x=.int i/\y=.int j/\Q (g i j) H
def rU(g:Int->V):V->Hp->VK->Prop:=λx H Q=>∃i,x=.int i/\Q (g i) H
section
variable {X:Cx}{a b c:Fz}{ta tb tc:TE}{pos:Pos}
theorem QG(ha:PE X a ta)(hb:PE X b tb){jr:Hg}{s:Fe}{σ:St}{H:Hp}{R:V->V->Hp->Prop}(I:Inv X jr σ H s)
  (h:ta σ H λx H1=>tb σ H1 λy H2=>R x y H2) {Q:Hf}{f:fv->fv->Sem fv}
  (hf:∀v u s2 x y H2,Inv X jr σ H2 s2->RelV x v->RelV y u->R x y H2->Fi (Fm X.prog X.w) X.A (f v u) Q X.xe s2):
  Fi (Fm X.prog X.w) X.A (eval a X.env) (λv s₁=>Fi (Fm X.prog X.w) X.A (eval b X.env) (λu s₂=>Fi (Fm X.prog X.w) X.A (f v u) Q X.xe s₂) X.xe s₁) X.xe s:=by
 refine thn (ha jr s σ H _ I h) λv s1 ⟨x,H1,I1,r1,q1⟩=>?_
 refine thn (hb jr s1 σ H1 _ I1 q1) λu s2 ⟨y,H2,I2,r2,q2⟩=>?_
 exact hf v u s2 x y H2 I2 r1 r2 q2
theorem bR{op:Operator}{r:R2}(ho:OpR X (binaryOp op) r)(ha:PE X a ta)(hb:PE X b tb):PE X (.BinOp a op b pos) (tOp r ta tb):=by intro jr s σ H Q I h;exact wpAny_BinOp (QG ha hb I h λv u s2 x y H2 I2 rx ry q=>ho jr s2 σ H2 x y v u Q I2 rx ry q)
theorem O7{op:UnaryOp}{r:V->Hp->VK->Prop}(ho:UnR X (unaryOp op) r)(ha:PE X a ta):PE X (.UnaryOp op a pos) (tUn r ta):=by intro jr s σ H Q I h;exact UnaryOp_ (thn (ha jr s σ H _ I h) λv s1 ⟨x,H1,I1,r1,q1⟩=>ho jr s1 σ H1 x v Q I1 r1 q1)
theorem opI{f:fv->fv->Sem fv}{C:Int->Int->Prop}{g:Int->Int->Int}
  (rule:∀(i j:Int)(t u:Tok)(s:Fe)(Q:Hf)(E:Hf),C i j->Q (.int (g i j) s.toks) {s with toks:=s.toks+1}->Fi (Fm X.prog X.w) X.A (f (.int i t) (.int j u)) Q E s):
  OpR X f (rI C λi j=>.int (g i j)):=by
 intro jr s σ H x y v u Q I rx ry h;obtain⟨i,j,rfl,rfl,hc,q⟩:=h;obtain⟨t,rfl⟩:=rx;obtain⟨t',rfl⟩:=ry;exact rule i j t t' s _ _ hc ⟨.int (g i j),H,I.tok _,⟨_,rfl⟩,q⟩
theorem R9{f:fv->fv->Sem fv}{g:Int->Int->Int}
  (rule:∀(i j:Int)(t u:Tok)(s:Fe)(Q:Hf)(E:Hf),Q (.int (g i j) s.toks) {s with toks:=s.toks+1}->Fi (Fm X.prog X.w) X.A (f (.int i t) (.int j u)) Q E s):
  OpR X f (rI0 λi j=>.int (g i j)):=by
 intro jr s σ H x y v u Q I rx ry h;obtain⟨i,j,rfl,rfl,q⟩:=h;obtain⟨t,rfl⟩:=rx;obtain⟨t',rfl⟩:=ry;exact rule i j t t' s _ _ ⟨.int (g i j),H,I.tok _,⟨_,rfl⟩,q⟩
theorem RA{f:fv->fv->Sem fv}{g:Int->Int->Bool}
  (rule:∀(i j:Int)(t u:Tok)(s:Fe)(Q:Hf)(E:Hf),Q (.bool (g i j)) s->Fi (Fm X.prog X.w) X.A (f (.int i t) (.int j u)) Q E s):
  OpR X f (rI0 λi j=>.bl (g i j)):=by
 intro jr s σ H x y v u Q I rx ry h;obtain⟨i,j,rfl,rfl,q⟩:=h;obtain⟨t,rfl⟩:=rx;obtain⟨t',rfl⟩:=ry;exact rule i j t t' s _ _ ⟨.bl (g i j),H,I,rfl,q⟩
def a0Z(i j:Int):Prop:=0<j/\j<1073741824
def QK(i j:Int):Prop:=(-(2^64)<i/\i<2^64)\/(-(2^64)<j/\j<2^64)
theorem QK.ok{i j:Int}(h:QK i j):IntMulOk i j:=by
 rcases h with⟨h1,h2⟩|⟨h1,h2⟩
 ·exact .of_left (intBits_le_64 h1 h2)
 ·exact .of_right (intBits_le_64 h1 h2)
theorem gM:OpR X (binaryOp .Add) (rI0 λi j=>.int (i+j)):=R9 λ_ _ _ _ _ _ _ q=>add_int q
theorem lJ:OpR X (binaryOp .Sub) (rI0 λi j=>.int (i - j)):=R9 λ_ _ _ _ _ _ _ q=>sub_int q
theorem iE:OpR X (binaryOp .Mult) (rI QK λi j=>.int (i*j)):=opI λ_ _ _ _ _ _ _ hc q=>mul_int q hc.ok
theorem sZ:OpR X (binaryOp .FloorDiv) (rI a0Z λi j=>.int (i/j)):=opI λi j _ _ _ _ _ hc q=>by have h1:(0:Int)<j:=hc.1;have h2:j<1073741824:=hc.2;exact floordiv_int Hc (by rw[Int.fdiv_eq_ediv_of_nonneg i Hc];exact q) (.inl (PyProof.noPylong_small Hc))
theorem CV:OpR X (binaryOp .Mod) (rI (λ_ j=>0<j) λi j=>.int (i%j)):=opI λi j _ _ _ _ _ hc q=>by have h1:(0:Int)<j:=hc;exact mod_int' Hc (by rw[Int.fmod_eq_emod_of_nonneg i Hc];exact q)
theorem unI{f:fv->Sem fv}{g:Int->Int}
  (rule:∀(i:Int)(t:Tok)(s:Fe)(Q:Hf)(E:Hf),Q (.int (g i) s.toks) {s with toks:=s.toks+1}->Fi (Fm X.prog X.w) X.A (f (.int i t)) Q E s):
  UnR X f (rU λi=>.int (g i)):=by
 intro jr s σ H x v Q I rx h;obtain⟨i,rfl,q⟩:=h;obtain⟨t,rfl⟩:=rx;exact rule i t s _ _ ⟨.int (g i),H,I.tok _,⟨_,rfl⟩,q⟩
theorem IP:UnR X (unaryOp .USub) (rU λi=>.int (-i)):=unI λ_ _ _ _ _ q=>neg_int q
end
noncomputable def R1:V->V->Bool
 | .non,.non=>true| .non,.int _=>true| .int _,.non=>true| .non,.bl _=>true| .bl _,.non=>true| .non,.str _=>true| .str _,.non=>true
 | .int _,.int _=>true| .bl _,.bl _=>true| .str _,.str _=>true| .byt _,.byt _=>true
 | .int _,.str _=>true| .str _,.int _=>true| .bl _,.str _=>true| .str _,.bl _=>true
 |_,_=>false
def rEq:R2:=λx y H Q=>R1 x y=true/\Q (.bl (decide (x=y))) H
def rNe:R2:=λx y H Q=>R1 x y=true/\Q (.bl (!decide (x=y))) H
theorem pV{i j:Int}:decide (V.int i=V.int j)=(i==j):=by rw[df];simp
theorem LG{i j:Bool}:decide (V.bl i=V.bl j)=(i==j):=by rw[df];simp
theorem FJ{i j:Str}:decide (V.str i=V.str j)=(i==j):=by rw[df];simp
theorem FK{i j:Array UInt8}:decide (V.byt i=V.byt j)=(i.toList==j.toList):=by rw[df];cases i;cases j;simp
section
variable {X:Cx}{a b c:Fz}{ta tb tc:TE}{pos:Pos}
theorem bN{jr:Hg}{σ:St}{H:Hp}{s:Fe}{Q:VK}{k k':Bool}(I:Inv X jr σ H s)(q:Q (.bl k) H)(e:k=k'):EP X jr σ Q (.bool k') s:=by subst e;exact⟨.bl k,H,I,rfl,q⟩
theorem lM:OpR X (compareOp .Eq) rEq:=by
 intro jr s σ H x y v u Q I rx ry h;obtain⟨hs,q⟩:=h;cases x with
 |non=>
  cases rx;cases y with
  |non=>cases ry;exact PySem.EqNone.eq_none_none (bN I q (by simp))
  |bl j=>cases ry;exact PySem.EqNone.eq_none_bool (bN I q (by simp))
  |int j=>obtain⟨t',rfl⟩:=ry;exact PySem.EqNone.eq_none_int (bN I q (by simp))
  |str j=>obtain⟨t',rfl⟩:=ry;exact PySem.EqNone.eq_none_str (bN I q (by simp))
  |_=>exact absurd (show false=true from hs) bp
 |bl i=>
  cases rx;cases y with
  |non=>cases ry;exact PySem.EqNone.eq_bool_none (bN I q (by simp))
  |bl j=>cases ry;exact eq_bool (bN I q LG)
  |str j=>obtain⟨t',rfl⟩:=ry;exact PySem.EqMixed.eq_bool_str (bN I q (by simp))
  |_=>exact absurd (show false=true from hs) bp
 |int i=>
  obtain⟨t,rfl⟩:=rx;cases y with
  |non=>cases ry;exact PySem.EqNone.eq_int_none (bN I q (by simp))
  |int j=>obtain⟨t',rfl⟩:=ry;exact eq_int (bN I q pV)
  |str j=>obtain⟨t',rfl⟩:=ry;exact PySem.EqMixed.eq_int_str (bN I q (by simp))
  |_=>exact absurd (show false=true from hs) bp
 |str i=>
  obtain⟨t,rfl⟩:=rx;cases y with
  |non=>cases ry;exact PySem.EqNone.eq_str_none (bN I q (by simp))
  |bl j=>cases ry;exact PySem.EqMixed.eq_str_bool (bN I q (by simp))
  |int j=>obtain⟨t',rfl⟩:=ry;exact PySem.EqMixed.eq_str_int (bN I q (by simp))
  |str j=>obtain⟨t',rfl⟩:=ry;exact eq_str (bN I q FJ)
  |_=>exact absurd (show false=true from hs) bp
 |byt i=>
  obtain⟨t,rfl⟩:=rx;cases y with
  |byt j=>obtain⟨t',rfl⟩:=ry;exact W.eq_bytes (bN I q FK)
  |_=>exact absurd (show false=true from hs) bp
 |_=>cases y<;>exact absurd (show false=true from hs) bp
theorem EU:OpR X (compareOp .NotEq) rNe:=by
 intro jr s σ H x y v u Q I rx ry h;obtain⟨hs,q⟩:=h;cases x with
 |non=>
  cases rx;cases y with
  |non=>cases ry;exact PySem.EqNone.ne_none_none (bN I q (by simp))
  |bl j=>cases ry;exact PySem.EqNone.ne_none_bool (bN I q (by simp))
  |int j=>obtain⟨t',rfl⟩:=ry;exact PySem.EqNone.ne_none_int (bN I q (by simp))
  |str j=>obtain⟨t',rfl⟩:=ry;exact PySem.EqNone.ne_none_str (bN I q (by simp))
  |_=>exact absurd (show false=true from hs) bp
 |bl i=>
  cases rx;cases y with
  |non=>cases ry;exact PySem.EqNone.ne_bool_none (bN I q (by simp))
  |bl j=>cases ry;exact ne_bool (bN I q (congrArg not LG))
  |str j=>obtain⟨t',rfl⟩:=ry;exact PySem.EqMixed.ne_bool_str (bN I q (by simp))
  |_=>exact absurd (show false=true from hs) bp
 |int i=>
  obtain⟨t,rfl⟩:=rx;cases y with
  |non=>cases ry;exact PySem.EqNone.ne_int_none (bN I q (by simp))
  |int j=>obtain⟨t',rfl⟩:=ry;exact ne_int (bN I q (congrArg not pV))
  |str j=>obtain⟨t',rfl⟩:=ry;exact PySem.EqMixed.ne_int_str (bN I q (by simp))
  |_=>exact absurd (show false=true from hs) bp
 |str i=>
  obtain⟨t,rfl⟩:=rx;cases y with
  |non=>cases ry;exact PySem.EqNone.ne_str_none (bN I q (by simp))
  |bl j=>cases ry;exact PySem.EqMixed.ne_str_bool (bN I q (by simp))
  |int j=>obtain⟨t',rfl⟩:=ry;exact PySem.EqMixed.ne_str_int (bN I q (by simp))
  |str j=>obtain⟨t',rfl⟩:=ry;exact ne_str (bN I q (congrArg not FJ))
  |_=>exact absurd (show false=true from hs) bp
 |byt i=>
  obtain⟨t,rfl⟩:=rx;cases y with
  |byt j=>obtain⟨t',rfl⟩:=ry;exact W.ne_bytes (bN I q (congrArg not FK))
  |_=>exact absurd (show false=true from hs) bp
 |_=>cases y<;>exact absurd (show false=true from hs) bp
theorem JS:OpR X (compareOp .Lt) (rI0 λi j=>.bl (decide (i<j))):=RA λ_ _ _ _ _ _ _ q=>lt_int q
theorem uD:OpR X (compareOp .Gt) (rI0 λi j=>.bl (decide (j<i))):=RA λ_ _ _ _ _ _ _ q=>gt_int q
theorem bU(b:Fz){op:CmpOp}(h:op≠ .In:=by decide)(h2:op≠ .NotIn:=by decide):behindInMarks op b=false:=by
 have e1:(op==CmpOp.In)=false:=by cases op<;>first|rfl|exact absurd rfl h
 have e2:(op==CmpOp.NotIn)=false:=by cases op<;>first|rfl|exact absurd rfl h2
 cases b<;>simp[behindInMarks,e1,e2]
theorem yR{op:CmpOp}{r:R2}(ho:OpR X (compareOp op) r)(ha:PE X a ta)(hb:PE X b tb)(hm:behindInMarks op b=false):PE X (.Compare a [op] [b] pos) (tOp r ta tb):=by intro jr s σ H Q I h;exact wpAny_Compare1 (QG ha hb I h λv u s2 x y H2 I2 rx ry q=>ho jr s2 σ H2 x y v u Q I2 rx ry q) hm
def QP(t:TE):TT:=λσ H Q=>t σ H λx H'=>∃k,x=.bl k/\Q k H'
theorem bO{op:CmpOp}{r:R2}(ho:OpR X (compareOp op) r)(ha:PE X a ta)(hb:PE X b tb)(hm:behindInMarks op b=false):PT X (.Compare a [op] [b] pos) (QP (tOp r ta tb)):=by
 intro jr s σ H Q I h;refine wpAny_isTrue_Compare1 (thn (ha jr s σ H _ I h) λv s1 ⟨x,H1,I1,r1,q1⟩=>thn (hb jr s1 σ H1 _ I1 q1) λu s2 ⟨y,H2,I2,r2,q2⟩=>
  thn (ho jr s2 σ H2 x y v u _ I2 r1 r2 q2) λc s3 ⟨z,H3,I3,r3,k,e,q3⟩=>?_) hm
 subst e;cases r3;exact wpAny_truthy_bool ⟨H3,I3,q3⟩
noncomputable def WA(K:Fg)(x:V)(H:Hp)(k:Bool):Prop:=
 match x with
 | .non=>k=false
 | .bl b=>k=b
 | .int i=>k=(i !=0)
 | .str y=>y.length<=Fh/\k=((y.length:Int) !=0)
 | .byt y=>y.size<=Fh/\k=((y.size:Int) !=0)
 | .ref p=>(∃xs,SqL K H p xs/\k=!xs.isEmpty)\/(∃xs,SqT K H p xs/\k=!xs.isEmpty)\/∃kvs,H p=some (.dK kvs)/\k=!kvs.isEmpty
 |_=>False
theorem DK{κ:Type}{kvs:List (κ×V)}{vs:List (κ×fv)}(r:KV kvs vs):(!vs.isEmpty)=!kvs.isEmpty:=by cases r<;>rfl
theorem uU{xs:List V}{its:List fv}(r:Vals xs its):(!its.toArray.isEmpty)=!xs.isEmpty:=by cases r<;>simp
theorem uO:(Fh:Nat)<2^63:=by rw[sizeLine_eq];decide
theorem OJ:a0X X (λx H Q=>∃k,WA X.K x H k/\Q k H):=by
 intro jr s σ H x v Q I rx h;obtain⟨k,e,q⟩:=h;have hl:=uO;have hs:Fh=16777216:=sizeLine_eq;cases x with
 |non=>cases rx;have e':k=false:=e;subst e';exact truthy_none ⟨H,I,q⟩
 |bl b=>cases rx;have e':k=b:=e;subst e';exact wpAny_truthy_bool ⟨H,I,q⟩
 |int i=>obtain⟨t,rfl⟩:=rx;have e':k=(i !=0):=e;subst e';exact PySem.P.truthy_int ⟨H,I,q⟩
 |str y=>obtain⟨t,rfl⟩:=rx;obtain⟨hy,e'⟩:y.length<=Fh/\k=((y.length:Int) !=0):=e;subst e';exact PySem.P.truthy_str Hc ⟨H,I.tok _,q⟩
 |byt y=>obtain⟨t,rfl⟩:=rx;obtain⟨hy,e'⟩:y.size<=Fh/\k=((y.size:Int) !=0):=e;subst e';exact W.truthy_bytes Hc ⟨H,I.tok _,q⟩
 |ref p=>
  cases rx;have e':(∃xs,SqL X.K H p xs/\k=!xs.isEmpty)\/(∃xs,SqT X.K H p xs/\k=!xs.isEmpty)\/∃kvs,H p=some (.dK kvs)/\k=!kvs.isEmpty:=e
  rcases e' with⟨xs,hx,e'⟩|⟨xs,hx,e'⟩|⟨kvs,hx,e'⟩
  ·subst e';obtain⟨its,r,pl,hz⟩:=I.list hx;have kc:=r.length;exact wpAny_truthy_list pl.isList (by simp only[bj];omega) ⟨H,I.tok _,by rw[uU r];exact q⟩
  ·subst e';obtain⟨its,r,pl,hz⟩:=I.tuple hx;have kc:=r.length;exact truthy_tuple pl (by simp only[bj];omega) ⟨H,I.tok _,by rw[uU r];exact q⟩
  ·subst e';obtain⟨hz,hS,vs,r,m⟩:kvs.length<=Fh/\(p==Fy)=false/\∃vs,KV kvs vs/\s.heap.DictOf (bX X.prog X.w) p vs:=I.hok p _ hx
   have kc:kvs.length=vs.length:=Paired.length r;exact wpAny_truthy_dict hS m Hc ⟨H,I.tok _,by rw[DK r];exact q⟩
 |_=>exact(show False from e).elim
theorem uA(ha:PE X a ta)(he:∀ni,isTrue a X.env ni=(do let v<- ni;standAt a.pos;holding [v] (truthy v))):
  PT X a (λσ H Q=>ta σ H λx H'=>∃k,WA X.K x H' k/\Q k H'):=by
 intro jr s σ H Q I h;exact isTrue_plain (thn (ha jr s σ H _ I h) λv s1 ⟨x,H1,I1,r1,q1⟩=>OJ jr s1 σ H1 x v Q I1 r1 q1) (he _)
theorem vals1{x:V}{us:List fv}(r:Vals [x] us):∃u,us=[u]/\RelV x u:=by
 cases r with
 |cons r1 r2=>cases r2;exact⟨_,rfl,r1⟩
theorem vals2{x y:V}{us:List fv}(r:Vals [x,y] us):∃u w',us=[u,w']/\RelV x u/\RelV y w':=by
 cases r with
 |cons r1 r2=>
  cases r2 with
  |cons r3 r4=>cases r4;exact⟨_,_,rfl,r1,r3⟩
theorem xY(hc:X.calm=true):nL X (.builtin "max") (λxs H Q=>∃i j,xs=[.int i,.int j]/\Q (.int (if j>i then j else i)) H):=by
 intro jr s σ H xs us Q I r h;obtain⟨i,j,rfl,q⟩:=h;obtain⟨u,w',rfl,⟨t,rfl⟩,⟨t',rfl⟩⟩:=vals2 r;refine max_two_ints (I.ok.hd hc) λh' tk k=>⟨_,H,I.kept k,?_,q⟩
 by_cases hj:j>i
 ·rw[ah hj,ah hj];exact⟨_,rfl⟩
 ·rw[af hj,af hj];exact⟨_,rfl⟩
theorem xX(hc:X.calm=true):nL X (.builtin "min") (λxs H Q=>∃i j,xs=[.int i,.int j]/\Q (.int (if j<i then j else i)) H):=by
 intro jr s σ H xs us Q I r h;obtain⟨i,j,rfl,q⟩:=h;obtain⟨u,w',rfl,⟨t,rfl⟩,⟨t',rfl⟩⟩:=vals2 r;refine min_two_ints (I.ok.hd hc) λh' tk k=>⟨_,H,I.kept k,?_,q⟩
 by_cases hj:j<i
 ·rw[ah hj,ah hj];exact⟨_,rfl⟩
 ·rw[af hj,af hj];exact⟨_,rfl⟩
end
structure IE(h:Fp)(x dx C:xv)(mA:Str->Option fv):Prop where
 obj:h.get? x=some (W.instObj C dx)
 ns:h.Ns1 dx mA
 ne:dx≠x
theorem GP{h:Fp}{dx:xv}{mA:Str->Option fv}(n:h.Ns1 dx mA):∃od,h.get? dx=some od/\∀name,W.lookIn name od=some (mA name):=by
 obtain⟨o,es,ep,ho,hd,hk,_,hm⟩:=n;refine⟨o,ho,λname=>?_⟩;have e:=hm name;unfold nsFind findBy at e;rw[<- Array.find?_toList]at e;unfold W.lookIn;rw[hd];dsimp only;split
 ·rename_i y q;rw[q]at e;exact congrArg some e
 ·rename_i q;rw[q]at e;have a:es.toList.any (·.refKey)=false:=by rw[List.any_eq_false];intro y hy;obtain⟨z,t,ng⟩:=hk y (Array.mem_toList_iff.mp hy);simp[Gd.refKey,ng]
  have a':¬es.toList.any (·.refKey)=true:=by rw[a];exact bp
  rw[af a'];exact congrArg some e
theorem IE.look{h:Fp}{x dx C:xv}{mA:Str->Option fv}(I:IE h x dx C mA):∃od,W.InstAt h x (W.instObj C dx) C (some od)/\∀name,W.lookIn name od=some (mA name):=
 let⟨od,ho,hl⟩:=GP I.ns
 ⟨od,⟨I.obj,rfl,rfl,ho⟩,hl⟩
section
variable {prog:Fo}{w:Fw}{A:Ft}{E:Hf}{s:Fe}{K:Fg}{x dx C f:xv}{mA:Str->Option fv}{name:Str}{v:fv}
theorem get_map{expr:Bool}{Q:Hf}(X:K.In s.heap)(I:IE s.heap x dx C mA)(hg:W.plainGet K C name=true)(hh:W.hasDictIn K C=true)
  (ha:W.findIn K (.ref C) name=some none) (hv:mA name=some v) (hv':W.handedIn v=true) (h:Q v {s with toks:=s.toks+1}):
  Fi (Fm prog w) A (getAttr (.ref x) name expr) Q E s:=by
 obtain⟨od,J,hl⟩:=I.look;exact W.get_value X J (W.plainGet_of hg).1 (W.findObj_own hh ha rfl (by rw[hl,hv])) hv' h
theorem M9{ns:List Str}{Q:Unit->Fe->Prop}(X:K.In s.heap)(I:IE s.heap x dx C mA)
  (hs:W.findIn K (.ref C) "__setattr__" =some (some (.builtin "object.__setattr__"))) (hp:W.plainOver K C=true) (ht:W.takerIn K C name=some none) (hh:W.hasDictIn K C=true)
  (hw:PySem.Within mA ns) (hsz:ns.length<=Fh)
  (h:∀h',IE h' x dx C (λy=>if y=name then some v else mA y)->Fp.SameBut dx s.heap h'->Q () {s with heap:=h',toks:=s.toks+2}):
  Fi (Fm prog w) A (setAttr (.ref x) name v) Q E s:=by
 obtain⟨od,J,hl⟩:=I.look;refine W.set_plain X J hs (W.osa_open (s:={s with toks:=s.toks+1}) (r:=none) X J hp ht λb=>?_);obtain⟨cd,hc,xw⟩:=W.any_some hh;have hx:s.heap.get? x=some ⟨.ref C,some dx,.plain,#[]⟩:=I.obj;refine aa (ag (aa (aa (wpAny_loadPart hx (aa (W.Looks.here (s:={s with toks:=s.toks+1}) (W.looks_clsIn X hc) ?_))))));rw[xw];refine ag (a:=some dx) (aa (ag (aa ?_)));refine wpAny_nsSet1 (s:={s with toks:=s.toks+1}) I.ns λh' Bo tm=>?_
 obtain⟨oD,esD,epD,hoD,hdD,hcD⟩:=Bo.count (PySem.Within.cons name v hw);refine aa (wpAny_lookBehind hoD (by rw[hdD];exact pastItsLine_dict (de hcD (by rw[bo];omega))) ?_);exact ag (h _ ⟨(tm.2 _ (Ne.symm I.ne)).trans I.obj,Bo,I.ne⟩ tm)
theorem K2{R:Result->Fe->Prop}{vs:List fv}{kw:List (Str×fv)}(X:K.In s.heap)(hm:W.makesIn K C=true)
  (hi:W.findIn K (.ref C) "__init__" =some (some (.ref f))) (hf:W.typeIn K (.ref f)=some (.type "function"))
  (h:codeAny (Fm prog w) (A.under (.builtin "type.__call__" ⟨.ref C::vs,kw⟩)) (.call (.ref f) ⟨.ref (s.heap.objs.size+1)::vs,kw⟩) (W.InitBack (s.heap.objs.size+1) R)
   {s with heap:=(s.heap.push W.emptyDict).push (W.instObj C s.heap.objs.size)}):
  codeAny (Fm prog w) A (.call (.ref C) ⟨vs,kw⟩) R s:=by
 obtain⟨hh,g,d,t,os⟩:=s;exact W.make_core (W.makes_of X hm) (W.looks_findIn X hi) (λself=>W.bind_fn X self hf) (.inl rfl) h
end
noncomputable def bT(f:Str)(v:V):List (Str×V)->List (Str×V)
 |[]=>[(f,v)]
 |(g,x)::r=>if g=f then(g,v)::r else(g,x)::bT f v r
theorem bM(f g:Str)(v:V):∀fs:List (Str×V),(bT f v fs).lookup g=if g=f then some v else fs.lookup g
 |[]=>by
  show List.lookup g [(f,v)]=_
  by_cases h:g=f
  ·have hb:(g==f)=true:=beq_iff_eq.mpr h;simp only[List.lookup,hb,ah h]
  ·have hb:(g==f)=false:=beq_eq_false_iff_ne.mpr h;simp only[List.lookup,hb,af h]
 |(k,x)::r=>by
  have ih:=bM f g v r;rw[show bT f v ((k,x)::r)=(if k=f then(k,v)::r else(k,x)::bT f v r)from rfl];by_cases hk:k=f
  ·rw[ah hk];by_cases h:g=k
   ·have hb:(g==k)=true:=beq_iff_eq.mpr h;simp only[List.lookup,hb,ah (h.trans hk)]
   ·have hb:(g==k)=false:=beq_eq_false_iff_ne.mpr h;simp only[List.lookup,hb,af (λe:g=f=>h (e.trans hk.symm))]
  ·rw[af hk];by_cases h:g=k
   ·have hb:(g==k)=true:=beq_iff_eq.mpr h;simp only[List.lookup,hb,af (λe:g=f=>hk (h.symm.trans e))]
   ·have hb:(g==k)=false:=beq_eq_false_iff_ne.mpr h;simp only[List.lookup,hb];exact ih
theorem qT(f:Str)(v:V):∀fs:List (Str×V),f∈(bT f v fs).map (·.1)/\∀g,g∈fs.map (·.1)->g∈(bT f v fs).map (·.1)
 |[]=>⟨by simp[bT],λg h=>by simp at h⟩
 |(k,x)::r=>by
  obtain⟨i1,i2⟩:=qT f v r;rw[show bT f v ((k,x)::r)=(if k=f then(k,v)::r else(k,x)::bT f v r)from rfl];by_cases hk:k=f
  ·rw[ah hk];subst hk;exact⟨by simp,λg h=>by simpa using h⟩
  ·rw[af hk];refine⟨?_,λg h=>?_⟩
   ·rw[bh];exact ao _ i1
   ·rw[bh]at h ⊢;rcases aq.mp h with e|e
    ·exact aq.mpr (.inl e)
    ·exact ao _ (i2 g e)
theorem dH(f:Str)(v:V):∀fs:List (Str×V),(bT f v fs).length<=fs.length+1
 |[]=>by simp[bT]
 |(k,x)::r=>by
  have ih:=dH f v r;rw[show bT f v ((k,x)::r)=(if k=f then(k,v)::r else(k,x)::bT f v r)from rfl];by_cases hk:k=f
  ·rw[ah hk,bo,bo];omega
  ·rw[af hk,bo,bo];omega
theorem oH.some_of{v:V}{o:Option fv}(r:oH (some v) o):∃u,o=some u/\RelV v u:=by
 cases o with
 |none=>exact(show False from r).elim
 |some u=>exact⟨u,rfl,r⟩
theorem HF{v:V}{u:fv}(r:RelV v u):W.handedIn u=true:=by
 cases v with
 |non=>cases (show u=fv.none from r);rfl
 |bl b=>cases (show u=fv.bool b from r);rfl
 |int i=>obtain⟨t,e⟩:=(show∃t,u=fv.int i t from r);cases e;rfl
 |str x=>obtain⟨t,e⟩:=(show∃t,u=fv.str x t from r);cases e;rfl
 |byt b=>obtain⟨t,e⟩:=(show∃t,u=fv.bytes b t from r);cases e;rfl
 |flt b=>obtain⟨t,e⟩:=(show∃t,u=fv.float b t from r);cases e;rfl
 |ref a=>cases (show u=fv.ref a from r);rfl
 |ty n=>cases (show u=fv.type n from r);rfl
section
variable {P:Fo}{w:Fw}{H H':Hp}{h h':Fp}{a C dx:xv}{fs fs':List (Str×V)}
theorem F6(hok:HOk P w H h)(e:H a=some (.ins C dx fs)):∃mA,IE h a dx C mA/\(∀f,oH (fs.lookup f) (mA f))/\PySem.Within mA (fs.map (·.1))/\fs.length<=1000/\H dx=some (.own a):=by obtain⟨d,z,ne,ob,mA,n,r,q⟩:=(show cS P w H h a (.ins C dx fs)from hok a _ e);exact⟨mA,⟨ob,n,ne⟩,r,q,z,d⟩
end
structure Cls(K:Fg)(C:xv):Prop where
 pg:W.plainGet K C Str.empty=true
 hd:W.hasDictIn K C=true
 po:W.plainOver K C=true
 sa:W.findIn K (.ref C) "__setattr__" =some (some (.builtin "object.__setattr__"))
theorem Cls.get{K:Fg}{C:xv}(c:Cls K C)(f:Str):W.plainGet K C f=true:=c.pg
def gQ(K:Fg)(C:xv)(f:Str):Prop:=W.findIn K (.ref C) f=some none
theorem gQ.QO{K:Fg}{C:xv}{f:Str}(n:gQ K C f):W.takerIn K C f=some none:=by unfold W.takerIn;rw[show W.findIn K (.ref C) f=some none from n];rfl
section
variable {X:Cx}{jr:Hg}{σ:St}{H:Hp}{s:Fe}{a C dx:xv}{fs:List (Str×V)}{f:Str}{v:V}{A:Ft}{E:Hf}
theorem DR{b:Bool}{Q:Hf}(I:Inv X jr σ H s)(e:H a=some (.ins C dx fs))(c:Cls X.K C)(n:gQ X.K C f)(l:fs.lookup f=some v)
  (h:∀u s',Inv X jr σ H s'->RelV v u->Q u s'):Fi (Fm X.prog X.w) A (getAttr (.ref a) f b) Q E s:=by
 obtain⟨mA,O,r,_,_,_⟩:=F6 I.hok e;obtain⟨u,hu,ru⟩:=oH.some_of (v:=v) (o:=mA f) (by rw[<- l];exact r f);exact get_map I.kIn O (c.get f) c.hd n hu (HF ru) (h u _ (I.tok _) ru)
theorem CI{y:V}{u:fv}{Q:Unit->Fe->Prop}(I:Inv X jr σ H s)(e:H a=some (.ins C dx fs))(c:Cls X.K C)(n:gQ X.K C f)(hl:fs.length<1000)(ry:RelV y u)
  (h:∀s',Inv X jr σ (upd H a (.ins C dx (bT f y fs))) s'->Q () s'):Fi (Fm X.prog X.w) A (setAttr (.ref a) f u) Q E s:=by
 obtain⟨mA,O,r,wi,_,ho⟩:=F6 I.hok e;have hz:(fs.map (·.1)).length<=Fh:=by rw[ai,sizeLine_eq];omega
 refine M9 I.kIn O c.sa c.po n.QO c.hd wi hz λh' O' sb=>h _ ?_
 have hd:∃o,h'.get? dx=some o:=let⟨o,_,_,e',_⟩:=O'.ns;⟨o,e'⟩
 refine I.write (x:=a) (e:=dx) (by rw[e];exact True.intro) (.inr ho) (λb q hb z=>(sb.2 b hb).trans z) hd ?_;refine⟨by rw[aB O.ne];exact ho,?_,O.ne,O'.obj,_,O'.ns,λg=>?_,λg hg=>?_⟩
 ·have:=dH f y fs;omega
 ·show oH ((bT f y fs).lookup g) (if g=f then some u else mA g)
  rw[bM];by_cases q:g=f
  ·rw[ah q,ah q];exact ry
  ·rw[af q,af q];exact r g
 ·by_cases q:g=f
  ·rw[q];exact(qT f y fs).1
  ·refine(qT f y fs).2 g (wi g λz=>hg ?_);show(if g=f then some u else mA g)=none
   rw[af q];exact z
theorem Inv.made(I:Inv X jr σ H s):Inv X jr σ (upd (upd H s.heap.objs.size (.own (s.heap.objs.size+1))) (s.heap.objs.size+1) (.ins C s.heap.objs.size []))
  {s with heap:=(s.heap.push W.emptyDict).push (W.instObj C s.heap.objs.size)}:=by
 have e1:(s.heap.push W.emptyDict).get? s.heap.objs.size=some W.emptyDict:=az s.heap rfl;have e2:((s.heap.push W.emptyDict).push (W.instObj C s.heap.objs.size)).get? (s.heap.objs.size+1)=some (W.instObj C s.heap.objs.size):=by
  have:=az (s.heap.push W.emptyDict) (o:=W.instObj C s.heap.objs.size) rfl
  rwa [fo]at this
 have e3:(s.heap.push W.emptyDict).Ns s.heap.objs.size (λ_=>none):=⟨W.emptyDict,#[],_,e1,rfl,(λe he=>absurd he (by simp)),λ_=>rfl⟩;have I1:=I.laid (a:=s.heap.objs.size) (o:=.own (s.heap.objs.size+1)) (h':=s.heap.push W.emptyDict) (t':=s.toks) (λb u q=>ak _ q) (aw _) ⟨_,e1⟩;refine I1.laid (a:=s.heap.objs.size+1) (o:=.ins C s.heap.objs.size []) (t':=s.toks) (λb u q=>ak _ q) (iq (fo _ _)) ?_;have ne:s.heap.objs.size≠s.heap.objs.size+1:=cj (Nat.lt_succ_self _);refine⟨by rw[aB ne,a8],cn _,ne,e2,λ_=>none,(Fp.Ns1.of_empty e3).at λo q=>ak _ q,λ_=>True.intro,λy hy=>absurd rfl hy⟩
theorem NY{prog:Fo}{w:Fw}{env:Env}{e:Fz}{f:Str}{pos:Pos}{s:Fe}{Q:Hf}(hb:attributeBase e f env (eval e env)=eval e env)
  (h:Fi (Fm prog w) A (eval e env) (λo s₁=>Fi (Fm prog w) A (getAttr o f true) Q E s₁) E s):Fi (Fm prog w) A (eval (.Attribute e f pos) env) Q E s:=
 Attribute_any_ h (by rw[arm_eval_Attribute,hb])
end
noncomputable def WR(K:Fg)(ta:TE)(f:Str):TE:=λσ H Q=>ta σ H λx H1=>∃a C dx fs v,x=.ref a/\H1 a=some (.ins C dx fs)/\Cls K C/\gQ K C f/\fs.lookup f=some v/\Q v H1
noncomputable def WX(K:Fg)(ta tv:TE)(f:Str):TS:=λD σ H=>tv σ H λy H1=>ta σ H1 λx H2=>∃a C dx fs,x=.ref a/\H2 a=some (.ins C dx fs)/\Cls K C/\gQ K C f/\fs.length<1000/\
 D.nx σ (upd H2 a (.ins C dx (bT f y fs)))
section
variable {X:Cx}{o e jz:Fz}{f:Str}{pos ko nv:Pos}{ta tv:TE}
theorem fG(he:PE X e ta)(hb:attributeBase e f X.env (eval e X.env)=eval e X.env):PE X (.Attribute e f pos) (WR X.K ta f):=by intro jr s σ H Q I h;refine NY hb (thn (he jr s σ H _ I h) λu s1 ⟨x,H1,I1,rx,a,C,dx,fs,v,ex,ea,c,n,l,q⟩=>?_);subst ex;obtain rfl:u=fv.ref a:=rx;exact DR I1 ea c n l λu' s2 I2 ru=>⟨v,H1,I2,ru,q⟩
theorem qL(ha:PE X o ta)(hv:PE X jz tv)(hs:swapsWith jz (some (.Attribute o f ko)) pos.line X.env=pure false):PS X (.Assign [.Attribute o f ko] jz pos) (WX X.K ta tv f):=by intro jr s σ H D I h;refine plainObj_wpAny_Assign_Attribute (thn (hv jr s σ H _ I h) λu s1 ⟨y,H1,I1,ry,q⟩=>thn (ha jr s1 σ H1 _ I1 q) λov s2 ⟨x,H2,I2,rx,a,C,dx,fs,ex,ea,c,n,l,q2⟩=>?_) hs;subst ex;obtain rfl:ov=fv.ref a:=rx;exact CI I2 ea c n l ry λs3 I3=>⟨σ,_,I3,q2⟩
end
structure cR(k:Nat)(A:Ft):Prop where
 hd:A.handled=none
 dp:A.depth+3*k+5<recursionLimit
 un:A.units+16*k+200<cLine
theorem cR.mono{j k:Nat}{A:Ft}(r:cR k A)(h:j<=k):cR j A:=⟨r.hd,by have:=r.dp;omega,by have:=r.un;omega⟩
theorem cR.deeper{k:Nat}{A:Ft}(r:cR (k+1) A)(env:Env):cR k (A.deeper env):=
 ⟨r.hd,by have:=r.dp;show A.depth+1+3*k+5< _;omega,by have:=r.un;show A.units+3+16*k+200< _;omega⟩
theorem cR.in1{k:Nat}{A:Ft}(r:cR (k+1) A):cR k A.in1:=
 ⟨r.hd,by have:=r.dp;show A.depth+3*k+5< _;omega,by have:=r.un;show A.units+1+16*k+200< _;omega⟩
theorem DA{A:Ft}{C:xv}{us:List fv}{kw:List (Str×fv)}:(A.under (.builtin "type.__call__" ⟨.ref C::us,kw⟩)).depth=A.depth+1:=by first|rfl|simp[Ft.under,Code.weight,Code.isCreation,Code.isGuard,Code.isCaller,Code.frames,Code.isFrame,guardIds]
theorem D9{A:Ft}{C:xv}{us:List fv}{kw:List (Str×fv)}:(A.under (.builtin "type.__call__" ⟨.ref C::us,kw⟩)).units=A.units+1:=by first|rfl|simp[Ft.under,Code.cUnits,Code.frames,Code.isFrame]
theorem cR.make{k:Nat}{A:Ft}(r:cR (k+1) A)(C:xv)(us:List fv)(kw:List (Str×fv)):cR k (A.under (.builtin "type.__call__" ⟨.ref C::us,kw⟩)):=
 ⟨r.hd,by have:=r.dp;rw[DA];omega,by have:=r.un;rw[D9];omega⟩
theorem cR.depth{k:Nat}{A:Ft}(r:cR k A):A.depth<recursionLimit:=by have:=r.dp;omega
theorem cR.units{k:Nat}{A:Ft}(r:cR k A):A.units+64<cLine:=by have:=r.un;omega
def LZ:TA:=λ_ H Q=>Q [] H
noncomputable def EI(ta:TE)(tr:TA):TA:=λσ H Q=>ta σ H λx H1=>tr σ H1 λxs H2=>Q (x::xs) H2
section
variable {X:Cx}{e:Fz}{es:List Fz}{te:TE}{t:TA}{pos:Pos}
theorem aC:PA X [] LZ:=λ_ _ _ _ H Q I h=>Calls.spliced_nil ⟨[],H,I,.nil,h⟩
theorem a7(ha:PE X e te)(hr:PA X es t)(hs:Fq (e::es) X.env=(false,eval e X.env)::Fq es X.env:=by rfl):PA X (e::es) (EI te t):=by
 intro pos jr s σ H Q I h;rw[hs];show Fi _ _ (spliced ((false,eval e X.env)::backTo pos (Fq es X.env))) _ _ s
 refine Calls.spliced_cons (thn (ha jr s σ H _ I h) λu s1 ⟨x,H1,I1,r1,q1⟩=>?_);exact thn (hr pos jr s1 σ H1 _ I1 q1) λus s2 ⟨xs,H2,I2,r2,q2⟩=>⟨x::xs,H2,I2,.cons r1 r2,q2⟩
noncomputable def WJ(t:TA):TE:=λσ H Q=>t σ H λxs H1=>xs.length<=Fh/\∀p,H1 p=none->Q (.ref p) (upd H1 p (.tup xs))
noncomputable def WN(t:TA):TE:=λσ H Q=>t σ H λxs H1=>xs.length<=Fh/\∀p,H1 p=none->Q (.ref p) (upd H1 p (.lst xs))
theorem c9{x1}(h:PA X es t):PE X (.Tuple es x1 pos) (WJ t):=by intro jr s σ H Q I hq;refine wpAny_Tuple_spliced (thn (h pos jr s σ H _ I hq) λus s1 ⟨xs,H1,I1,r,z,q⟩=>⟨by rw[<- r.length];exact z,?_⟩);have hf:H1 s1.heap.objs.size=none:=I1.hok.fresh (aw _);refine⟨.ref s1.heap.objs.size,upd H1 s1.heap.objs.size (.tup xs),I1.laid (t':=s1.toks) (λb u e=>ak _ e) (aw _) ?_,rfl,q _ hf⟩;exact⟨z,us,r,⟨_,az _ rfl,rfl,_,rfl⟩⟩
theorem fF(h:PA X es t):PE X (.List es pos) (WN t):=by intro jr s σ H Q I hq;refine wpAny_List_spliced (thn (h pos jr s σ H _ I hq) λus s1 ⟨xs,H1,I1,r,z,q⟩=>⟨by rw[<- r.length];exact z,?_⟩);have hf:H1 s1.heap.objs.size=none:=I1.hok.fresh (aw _);refine⟨.ref s1.heap.objs.size,upd H1 s1.heap.objs.size (.lst xs),I1.laid (t':=s1.toks) (λb u e=>ak _ e) (aw _) ?_,rfl,q _ hf⟩;exact⟨z,us,0,r,az _ rfl⟩
end
abbrev Sp:=List V->Hp->VK->XK->Prop
abbrev CXT:=List Env->Hp->Fe->XK->fv->Fe->Prop
structure qB(P:Fo)(w:Fw)(K:Fg)(mg:Str->Option fv)(base:Fp)(A:Ft)(outer:List Env)(s:Fe)(H:Hp):Prop where
 frames:A.frames=some outer
 mod:Mod K mg base
 bs:∀b o,base.get? b=some o->s.heap.get? b=some o/\H b=none
 bsz:base.objs.size<=s.heap.objs.size
 lU:s.heap.FunFrames base outer
 frf:∀b∈frs outer,H b=none
 hok:HOk P w H s.heap
 bare:AllBare s.gens
noncomputable def CE(outer:List Env)(P:Fo)(w:Fw)(H:Hp)(s:Fe)(Q:VK)(u:fv)(s':Fe):Prop:=
 ∃v H',s'.os=s.os/\AllBare s'.gens/\Un (frs outer) [] H H' s.heap s'.heap/\HOk P w H' s'.heap/\RelV v u/\Q v H'
noncomputable def CR(CX:CXT)(outer:List Env)(P:Fo)(w:Fw)(H:Hp)(s:Fe)(Q:VK)(E:XK)(r:Result)(s':Fe):Prop:=
 match r with
 | .ok (.ret u)=>CE outer P w H s Q u s'
 | .ok _=>False
 | .error e=>CX outer H s E e s'
structure bJ(P:Fo)(w:Fw)(K:Fg)(mg:Str->Option fv)(base:Fp)(CX:CXT)(k:Nat)(f:xv)(fd:Gi)(ps:List Str)(sp:Sp):Prop where
 len:∀vs H Q E,sp vs H Q E->vs.length=ps.length
 run:∀(A:Ft)(outer:List Env)(s:Fe)(H:Hp)(args:Args)(us:List fv)(vs:List V)(Q:VK)(E:XK),cR k A->qB P w K mg base A outer s H->BindsTo s fd args (ps.zip us)->Vals vs us->sp vs H Q E ->
  codeAny (Fm P w) A (.call (.ref f) args) (CR CX outer P w H s Q E) s
theorem qB.make{P:Fo}{w:Fw}{K:Fg}{mg:Str->Option fv}{base:Fp}{A:Ft}{outer:List Env}{s:Fe}{H:Hp}(e:qB P w K mg base A outer s H)(C:xv)(us:List fv)(kw:List (Str×fv)):
  qB P w K mg base (A.under (.builtin "type.__call__" ⟨.ref C::us,kw⟩)) outer s H:=⟨by first|exact e.frames|(simpa[Ft.under,Code.envs,Code.isFrame,pushEnvs]using e.frames),e.mod,e.bs,e.bsz,e.lU,e.frf,e.hok,e.bare⟩
theorem qB.in1{P:Fo}{w:Fw}{K:Fg}{mg:Str->Option fv}{base:Fp}{A:Ft}{outer:List Env}{s:Fe}{H:Hp}(e:qB P w K mg base A outer s H):
  qB P w K mg base A.in1 outer s H:=⟨e.frames,e.mod,e.bs,e.bsz,e.lU,e.frf,e.hok,e.bare⟩
section
variable {X:Cx}{jr:Hg}{σ:St}{H:Hp}{s s':Fe}
theorem Inv.L4(I:Inv X jr σ H s):qB X.prog X.w X.K X.mg X.base X.A X.stack s H:=
 ⟨I.ok.frames,I.ok.mod,I.bs,de I.ok.bsz I.sz,I.stack,I.yI,I.hok,I.bare⟩
theorem Inv.after{Q:VK}{u:fv}(I:Inv X jr σ H s)(h:CE X.stack X.prog X.w H s Q u s'):EP X jr σ Q u s':=by obtain⟨v,H',os,bare,un,hok,r,q⟩:=h;obtain⟨hh,g,d,t,os'⟩:=s';obtain rfl:os'=s.os:=os;exact⟨v,H',I.call (h':=hh) (g':=g) (d':=d) (t':=t) (ch:=[]) un hok bare (λb z=>absurd z (by simp)),r,q⟩
end
noncomputable def wG(sp:Sp)(ro:List V)(E:XK)(t:TA):TE:=λσ H Q=>t σ H λvs H1=>sp (vs++ro) H1 Q E
noncomputable def QW(C:xv)(sp:Sp)(ro:List V)(E:XK)(t:TA):TE:=λσ H Q=>t σ H λvs H1=>∀x dx,H1 x=none->H1 dx=none->dx≠x ->
 sp (.ref x::(vs++ro)) (upd (upd H1 dx (.own x)) x (.ins C dx [])) (λv H2=>v=.non/\Q (.ref x) H2) E
noncomputable def Binds(K:Fg)(fd:Gi)(ps:List Str)(ds:List fv):Prop:=
 ∀(s:Fe)(us:List fv),K.In s.heap->(us++ds).length=ps.length->BindsTo s fd ⟨us,[]⟩ (ps.zip (us++ds))
theorem Binds.all{K:Fg}{fd:Gi}{ps:List Str}(h:∀us:List fv,us.length=ps.length->bindArgs fd ⟨us,[]⟩=pure (ps.zip us)):Binds K fd ps []:=λs us _ hl=>by rw[di]at hl ⊢;exact .of_eq (h us hl)
noncomputable def Passes(CX:CXT)(X:Cx)(E:XK):Prop:=∀(jr:Hg)(σ:St)(H:Hp)(s:Fe)(e:fv)(s':Fe),Inv X jr σ H s->CX X.stack H s E e s'->X.xe e s'
section
variable {X:Cx}{CX:CXT}{k:Nat}{f C:xv}{fd:Gi}{ps:List Str}{sp:Sp}{ro:List V}{ds:List fv}{E:XK}{x m:Str}{p pos kz:Pos}{e o:Fz}{es:List Fz}{ta:TE}{t:TA}
theorem OW{jr:Hg}{σ:St}{H:Hp}{s:Fe}{Q:VK}{us:List fv}{vs:List V}(F:bJ X.prog X.w X.K X.mg X.base CX k f fd ps sp)(hr:cR k X.A)(hb:Binds X.K fd ps ds)(hd:Vals ro ds)(hx:Passes CX X E)
  (I:Inv X jr σ H s) (r:Vals vs us) (h:sp (vs++ro) H Q E):Fi (Fm X.prog X.w) X.A (call (.ref f) us) (EP X jr σ Q) X.xe s:=by
 have r2:Vals (vs++ro) (us++ds):=r.append hd;have hl:(us++ds).length=ps.length:=by rw[<- r2.length];exact F.len _ _ _ _ h
 refine wpAny_call (codeAny_mono (F.run X.A X.stack s H ⟨us,[]⟩ (us++ds) (vs++ro) Q E hr I.L4 (hb s us I.kIn hl) r2 h) λr s' hq=>?_);cases r with
 |error e=>exact hx jr σ H s e s' I hq
 |ok fl=>
  cases fl with
  |ret u=>exact I.after hq
  |next=>exact False.elim hq
  |brk=>exact False.elim hq
  |cont=>exact False.elim hq
theorem ML(F:bJ X.prog X.w X.K X.mg X.base CX k f fd ps sp)(hr:cR k X.A)(hg:Gl X x)(hm:X.mg x=some (.ref f))(hk:W.keepIn X.K (.ref f)=true)(hb:Binds X.K fd ps ds)(hd:Vals ro ds)(hx:Passes CX X E)
  (ha:PA X (e::es) t) (rm:(x==("__debug__" : Str))=false:=by decide) (he:Fq (e::es) X.env=(false,eval e X.env)::Fq es X.env:=by rfl) (sf:(backTo pos (Fq es X.env)).any (·.1)=false:=by rfl):
  PE X (.Call (.Name x p) (e::es) [] pos) (wG sp ro E t):=by
 intro jr s σ H Q I h;refine wpAny_Call_Name_kw (k6 I hg hm ?_ rm);refine W.callWith_K (h₀:=X.base) I.ok.mod.kin hk (thn (ha pos jr s σ H _ I h) λus s1 ⟨vs,H1,I1,r,q⟩=>⟨I1.kIn,?_⟩) he sf;exact OW F hr hb hd hx I1 r q
structure Mk(K:Fg)(C f:xv):Prop where
 makes:W.makesIn K C=true
 init:W.findIn K (.ref C) "__init__" =some (some (.ref f))
 fn:W.isFn K (.ref f)=true
 kp:W.keepIn K (.ref C)=true
theorem J4{jr:Hg}{σ:St}{H:Hp}{s:Fe}{Q:VK}{us:List fv}{vs:List V}(M:Mk X.K C f)(F:bJ X.prog X.w X.K X.mg X.base CX k f fd ps sp)(hr:cR (k+1) X.A)(hb:Binds X.K fd ps ds)(hd:Vals ro ds)
  (hx:Passes CX X E) (I:Inv X jr σ H s) (r:Vals vs us)
  (h:∀x dx,H x=none->H dx=none->dx≠x->sp (.ref x::(vs++ro)) (upd (upd H dx (.own x)) x (.ins C dx [])) (λv H2=>v=.non/\Q (.ref x) H2) E):
  Fi (Fm X.prog X.w) X.A (call (.ref C) us) (EP X jr σ Q) X.xe s:=by
 have hq:=h (s.heap.objs.size+1) s.heap.objs.size (I.hok.fresh (Nat.le_succ _)) (I.hok.fresh (aw _)) (cj (Nat.lt_succ_self _));have I2:=Inv.made (C:=C) I;have r2:Vals (V.ref (s.heap.objs.size+1)::(vs++ro)) (fv.ref (s.heap.objs.size+1)::(us++ds)):=.cons rfl (r.append hd);have hl:(fv.ref (s.heap.objs.size+1)::us++ds).length=ps.length:=by have e:=r2.length;rw[F.len _ _ _ _ hq]at e;exact e.symm
 refine wpAny_call (K2 (f:=f) I.kIn M.makes M.init (beq_iff_eq.mp M.fn) (codeAny_mono (F.run _ X.stack _ _ ⟨fv.ref (s.heap.objs.size+1)::us,[]⟩ (fv.ref (s.heap.objs.size+1)::(us++ds)) _ _ E (hr.make C us [])
  (I2.L4.make C us []) (hb _ (fv.ref (s.heap.objs.size+1)::us) I2.kIn hl) r2 hq) λr s' qw=>?_))
 cases r with
 |error e=>exact hx jr σ _ _ e s' I2 qw
 |ok fl=>
  cases fl with
  |ret u=>obtain⟨v,H',I3,rv,ev,q3⟩:=I2.after qw;subst ev;exact⟨rv,⟨V.ref (s.heap.objs.size+1),H',I3,rfl,q3⟩⟩
  |next=>exact False.elim qw
  |brk=>exact False.elim qw
  |cont=>exact False.elim qw
theorem MJ(M:Mk X.K C f)(F:bJ X.prog X.w X.K X.mg X.base CX k f fd ps sp)(hr:cR (k+1) X.A)(hg:Gl X x)(hm:X.mg x=some (.ref C))(hb:Binds X.K fd ps ds)(hd:Vals ro ds)(hx:Passes CX X E)
  (ha:PA X (e::es) t) (rm:(x==("__debug__" : Str))=false:=by decide) (he:Fq (e::es) X.env=(false,eval e X.env)::Fq es X.env:=by rfl) (sf:(backTo pos (Fq es X.env)).any (·.1)=false:=by rfl):
  PE X (.Call (.Name x p) (e::es) [] pos) (QW C sp ro E t):=by
 intro jr s σ H Q I h;refine wpAny_Call_Name_kw (k6 I hg hm ?_ rm);refine W.callWith_K (h₀:=X.base) I.ok.mod.kin M.kp (thn (ha pos jr s σ H _ I h) λus s1 ⟨vs,H1,I1,r,q⟩=>⟨I1.kIn,?_⟩) he sf;exact J4 M F hr hb hd hx I1 r q
end
structure aN(N P:List Str)(sc:Gj):Prop where
 kind:sc.kind=.function
 co:sc.isCoroutine=false
 gen:sc.isGenerator=false
 nd:N.Nodup
 pre:N.take P.length=P
 par:∀x∈P,sc.names.lookup x=some .local\/sc.names.lookup x=some .cell
 PB:∀y∈sc.names,y.2≠ .free
theorem xZ{kindOf:Str->Option NameKind}{x:Str}:∀{binds:List (Str×fv)}{m:Str->Option fv},(∀v,(x,v)∉binds)->bindL kindOf binds m x=m x
 |[],_,_=>rfl
 |(n,v)::r,m,h=>by
  unfold bindL;rw[xZ λw hw=>h w (ao _ hw)];split
  ·have:x≠n:=by rintro rfl;exact h v ay
   simp[this]
  ·rfl
theorem y8{kindOf:Str->Option NameKind}{x:Str}:∀{binds:List (Str×fv)}{m:Str->Option fv},(∀v,(x,v)∉binds)->bindC kindOf binds m x=m x
 |[],_,_=>rfl
 |(n,v)::r,m,h=>by
  unfold bindC;rw[y8 λw hw=>h w (ao _ hw)];split
  ·rfl
  ·have:x≠n:=by rintro rfl;exact h v ay
   simp[this]
theorem y6{kindOf:Str->Option NameKind}{x:Str}{v:fv}:∀{P:List Str}{vs:List fv}{i:Nat}{m:Str->Option fv},P.Nodup->P[i]? =some x->vs[i]? =some v->kindOf x=some .local ->
  bindL kindOf (P.zip vs) m x=some v
 |[],_,_,_,_,h,_,_=>by simp at h
 |_::_,[],_,_,_,_,h,_=>by simp at h
 |p::P,w::vs,0,m,nd,h1,h2,hk=>by
  simp at h1 h2;subst h1;subst h2;show bindL kindOf ((p,w)::P.zip vs) m p=_
  unfold bindL;rw[xZ λv hv=>(dh.mp nd).1 (of_mem_zip hv).1,ah hk];simp
 |p::P,w::vs,i+1,m,nd,h1,h2,hk=>by
  show bindL kindOf ((p,w)::P.zip vs) m x=_
  unfold bindL;exact y6 (i:=i) (dh.mp nd).2 (by simpa using h1) (by simpa using h2) hk
theorem y9{kindOf:Str->Option NameKind}{x:Str}{v:fv}:∀{P:List Str}{vs:List fv}{i:Nat}{m:Str->Option fv},P.Nodup->P[i]? =some x->vs[i]? =some v->kindOf x≠some .local ->
  bindC kindOf (P.zip vs) m x=some v
 |[],_,_,_,_,h,_,_=>by simp at h
 |_::_,[],_,_,_,_,h,_=>by simp at h
 |p::P,w::vs,0,m,nd,h1,h2,hk=>by
  simp at h1 h2;subst h1;subst h2;show bindC kindOf ((p,w)::P.zip vs) m p=_
  unfold bindC;rw[y8 λv hv=>(dh.mp nd).1 (of_mem_zip hv).1,af hk];simp
 |p::P,w::vs,i+1,m,nd,h1,h2,hk=>by
  show bindC kindOf ((p,w)::P.zip vs) m x=_
  unfold bindC;exact y9 (i:=i) (dh.mp nd).2 (by simpa using h1) (by simpa using h2) hk
noncomputable def start(N:List Str)(vs:List V):St:=vs.map some++List.replicate (N.length - vs.length) none
noncomputable def vW(CX:CXT)(P:Fo)(w:Fw)(K:Fg)(mg:Str->Option fv)(base:Fp)(N:List Str)(qual:Str)(scope:Gj)(f:xv)(cd:fv)(A:Ft)(outer:List Env)(s:Fe)(H:Hp)(E:XK):Cx where
 prog:=P
 w:=w
 K:=K
 mg:=mg
 base:=base
 A:=A.deeper (envOfC qual scope s.heap.objs.size f cd)
 N:=N
 s_0:=s
 H_0:=H
 env:=envOfC qual scope s.heap.objs.size f cd
 outer:=outer
 stack:=envOfC qual scope s.heap.objs.size f cd::outer
 ex:=[]
 calm:=true
 fn:=λ_=>true
 pn:=[]
 xe:=λe s'=>Fi (Fm P w) (A.deeper (envOfC qual scope s.heap.objs.size f cd)) (leaving (envOfC qual scope s.heap.objs.size f cd) e) (λ_ zo=>CX outer H s E e zo) (λe' zo=>CX outer H s E e' zo) s'
theorem BV{sc:Gj}{n:Nat}{x:Str}(h:sc.names.lookup x=some .cell):∃c,(Gb n sc.names []).lookup x=some c:=by have q:=W.cellsFrom_some sc.names n [] (.inl h);exact Option.isSome_iff_exists.mp q
theorem qU{CX:CXT}{P:Fo}{w:Fw}{K:Fg}{mg:Str->Option fv}{base:Fp}{N ps:List Str}{qual:Str}{scope:Gj}{f:xv}{cd:fv}{A:Ft}{outer:List Env}{s s1:Fe}{H:Hp}{E:XK}{us:List fv}{vs:List V}
  (S:aN N ps scope) (hd:A.handled=none) (e0:qB P w K mg base A outer s H) (hl:vs.length=ps.length) (r:Vals vs us)
  (x:InCallC s s.heap.objs.size (bindL (envOfC qual scope s.heap.objs.size f cd).kindOf (ps.zip us) λ_=>none) (Gb (s.heap.objs.size+1) scope.names []) (bindC (envOfC qual scope s.heap.objs.size f cd).kindOf (ps.zip us) λ_=>none) s1):
  Inv (vW CX P w K mg base N qual scope f cd A outer s H E) [] (start N vs) H s1:=by
 have sf:ps.length<=N.length:=by have:=congrArg List.length S.pre;rw[bx]at this;omega
 obtain⟨h1,tk,rfl,hk⟩:=x.done;have noA:∀b:xv,b∉ (vW CX P w K mg base N qual scope f cd A outer s H E).ex:=λb z=>absurd (show b∈([]:List xv)from z) (by simp)
 refine⟨⟨e0.mod,S.kind,rfl,rfl,aw _,λy z c h1 h2=>?_,λy hy=>?_,λy c _ h=>?_,λ_=>hd,Ft.frames_deeper e0.frames,.inr ⟨rfl,rfl⟩,λb z=>absurd z (noA b),e0.bs,e0.bsz,λb _ _=>noA b,λb z=>absurd z (noA b),e0.lU,e0.frf⟩,
  rfl,e0.bare,Un.kept hk,⟨_,x.toInCall.ns,λi y v h1 h2 h3=>?_⟩,λy c h=>⟨_,x.cell y c h⟩,e0.hok.fresh (aw _),λy c h=>?_,λp hp=>absurd (show p∈([]:Hg)from hp) (by simp),e0.hok.kept hk,?_⟩
 ·exact name_of_addr x.apart (PySem.mem_of_lookup h1) (PySem.mem_of_lookup h2)
 ·have hy:scope.names.lookup y=some .cell\/scope.names.lookup y=some .free:=hy;rcases hy with hy|hy
  ·exact BV hy
  ·exact absurd rfl (S.PB _ (PySem.mem_of_lookup hy))
 ·exact le_of_lt (x.above y c (PySem.mem_of_lookup h))
 ·have hi:i<vs.length:=by
   unfold start at h2;by_cases hi:i<vs.length
   ·exact hi
   ·rw[dv (by simpa using hi)]at h2;rw[List.getElem?_replicate]at h2;split at h2<;>cases h2
  have ha:vs[i]? =some v:=by
   unfold start at h2;rw[ij (by simpa using hi),bc]at h2;cases e:vs[i]? with
   |none=>rw[e]at h2;cases h2
   |some a=>rw[e]at h2;cases h2;rfl
  obtain⟨u,hu,rv⟩:=r.get ha;have hp:ps[i]? =some y:=by rw[<- S.pre,fw Hc];exact h1
  have ndP:ps.Nodup:=by rw[<- S.pre];exact S.nd.sublist (List.take_sublist _ _)
  refine⟨u,rv,?_⟩;rcases S.par y (ba hp)with k|k
  ·exact .inl ⟨k,y6 ndP hp hu k⟩
  ·obtain⟨c,e⟩:=BV (n:=s.heap.objs.size+1) k;refine .inr ⟨.inl k,c,e,?_⟩;have q:=x.cell y c e;rw[y9 ndP hp hu (by show scope.names.lookup y≠ _;rw[k];decide)]at q;exact q
 ·exact e0.hok.fresh (le_of_lt (x.above y c (PySem.mem_of_lookup h)))
 ·unfold start;show _=N.length
  rw[aj,ai,List.length_replicate];omega
theorem VZ{CX:CXT}{P:Fo}{w:Fw}{K:Fg}{mg:Str->Option fv}{base:Fp}{k:Nat}{f:xv}{name qual:Str}{params:Arguments}{body:List Ga}{scope:Gj}{dV kV mf pm jx ct oc:fv}{an od:Option xv}
  {nh:Array (Option fv)}{N ps:List Str}{sp:Sp} (lk:K.lookup f=some ⟨oc,od,.func (W.fnOf name qual params body scope dV kV mf pm an jx ct),nh⟩) (ot:W.codeIn K jx qual=true) (S:aN N ps scope)
  (len:∀vs H Q E,sp vs H Q E->vs.length=ps.length)
  (lr:∀(A:Ft)(outer:List Env)(s:Fe)(H:Hp)(vs:List V)(Q:VK)(E:XK),cR k (A.deeper (envOfC qual scope s.heap.objs.size f jx))->sp vs H Q E ->
   ∃t,PSs (vW CX P w K mg base N qual scope f jx A outer s H E) body t/\t {nx:=λ_ H'=>Q .non H',rt:=Q} (start N vs) H):
  bJ P w K mg base CX (k+1) f (W.fnOf name qual params body scope dV kV mf pm an jx ct) ps sp:=by
 refine⟨len,λA outer s H args us vs Q E hr e0 hb r va=>?_⟩;have hl:=len _ _ _ _ va;have KX:K.In s.heap:=e0.mod.kin.keeps λb o e=>(e0.bs b o e).1
 have zw:s.heap.NoLimit:=e0.mod.nolimit.keeps λb o e=>(e0.bs b o e).1
 have qp:∀y∈ps.zip us,scope.names.lookup y.1=some .local\/(scope.names.lookup y.1=some .cell/\((Gb (s.heap.objs.size+1) scope.names []).lookup y.1).isSome=true):=λ⟨n,v⟩ hy=>by
  rcases S.par n (of_mem_zip hy).1 with q|q
  ·exact .inl q
  ·exact .inr ⟨q,W.cellsFrom_some _ _ _ (.inl q)⟩
 refine codeAny_call_function hr.depth (KX _ _ lk) rfl S.co S.gen rfl (W.codeRec_of KX ot) (hb _ _ _ _ ?_);refine wpAny_newFunctionEnv_cells S.kind qp λenv he s1 x=>?_
 subst he;refine⟨zw.keeps x.toInCall.keep,codeAny_func ?_⟩;obtain⟨t,ht,hq⟩:=lr A outer s H vs Q E (hr.deeper _) va;have I:Inv (vW CX P w K mg base N qual scope f jx A outer s H E) [] (start N vs) H s1:=qU S hr.hd e0 hl r x;refine wpAny_mono (ht [] s1 (start N vs) H _ I hq) (λfl s' hs=>?_) λe s' hs=>hs
 have fin:∀{σ':St}{H':Hp}{v:V}{u:fv},Inv (vW CX P w K mg base N qual scope f jx A outer s H E) [] σ' H' s'->RelV v u->Q v H'->CE outer P w H s Q u s':=
  λ{σ' H' v u} J rv q=>⟨v,H',J.os,J.bare,J.base,J.hok,rv,q⟩
 cases fl with
 |ret u=>obtain⟨v,σ',H',J,rv,q⟩:=hs;exact fin J rv q
 |next=>obtain⟨σ',H',J,q⟩:=hs;exact fin (v:=V.non) (u:=fv.none) J rfl q
 |brk=>obtain⟨_,_,_,q⟩:=hs;exact False.elim q
 |cont=>obtain⟨_,_,_,q⟩:=hs;exact False.elim q
section
variable {X:Cx}{x:Str}{p pos:Pos}{e:Fz}{es:List Fz}{t:TA}{id T:String}{r:List V->Hp->VK->Prop}
noncomputable def tCB(r:List V->Hp->VK->Prop)(t:TA):TE:=λσ H Q=>t σ H λvs H1=>r vs H1 Q
theorem bP(hc:nL X (.builtin id) r)(hg:Gl X x)(hm:X.mg x=none)(hv:bootBuiltins x=some (.builtin id))(ha:PA X (e::es) t)(hn:x≠ "__name__" :=by decide)(rm:(x==("__debug__" : Str))=false:=by decide)
  (he:Fq (e::es) X.env=(false,eval e X.env)::Fq es X.env:=by rfl) (sf:(backTo pos (Fq es X.env)).any (·.1)=false:=by rfl):PE X (.Call (.Name x p) (e::es) [] pos) (tCB r t):=by
 intro jr s σ H Q I h;refine wpAny_Call_Name_kw (qS I hg hm hv ?_ hn rm);exact PyProof.Rows.callWith_builtin1 (thn (ha pos jr s σ H _ I h) λus s1 ⟨vs,H1,I1,r1,q1⟩=>hc jr s1 σ H1 vs us Q I1 r1 q1) he sf
theorem wY(hc:nL X (.type T) r)(hg:Gl X x)(hm:X.mg x=none)(hv:bootBuiltins x=some (.type T))(ha:PA X (e::es) t)(hn:x≠ "__name__" :=by decide)(rm:(x==("__debug__" : Str))=false:=by decide)
  (he:Fq (e::es) X.env=(false,eval e X.env)::Fq es X.env:=by rfl) (sf:(backTo pos (Fq es X.env)).any (·.1)=false:=by rfl):PE X (.Call (.Name x p) (e::es) [] pos) (tCB r t):=by
 intro jr s σ H Q I h;refine wpAny_Call_Name_kw (qS I hg hm hv ?_ hn rm);exact PyProof.Rows.callWith_type1 (thn (ha pos jr s σ H _ I h) λus s1 ⟨vs,H1,I1,r1,q1⟩=>hc jr s1 σ H1 vs us Q I1 r1 q1) he sf
end
end L2
namespace HT
open PySem PyProof.Rows
section
variable {prog:Fo}{w:Fw}{A:Ft}{E:Hf}{s:Fe}
noncomputable def sIx(n d:Nat):Option Int->Nat
 |none=>d
 |some v=>if v<0 then(v+(n:Int)).toNat else min v.toNat n
end
end HT
namespace L2
open PySem PySem.Spec PyProof.Rows
abbrev TO:=St->Hp->(Option Int->Hp->Prop)->Prop
noncomputable def PO(X:Cx)(e:Option Fz)(t:TO):Prop:=
 ∀(jr:Hg)(s:Fe)(σ:St)(H:Hp)(Q:Option Int->Hp->Prop),Inv X jr σ H s->t σ H Q ->
  Fi (Fm X.prog X.w) X.A (evalPart e X.env) (λu s'=>∃o H',Inv X jr σ H' s'/\IsPart u o/\Q o H') X.xe s
def LY:TO:=λ_ H Q=>Q none H
def QR(t:TE):TO:=λσ H Q=>t σ H λx H1=>∃i,x=.int i/\Q (some i) H1
section
variable {X:Cx}{e:Fz}{te:TE}{lo hi:Option Fz}{tl th:TO}{pos p2:Pos}
theorem MD:PO X none LY:=by intro jr s σ H Q I h;rw[evalPart_none];exact ag ⟨none,H,I,.none,h⟩
theorem MC(h:PE X e te):PO X (some e) (QR te):=by
 intro jr s σ H Q I hw;rw[evalPart_some];refine thn (h jr s σ H _ I hw) λu s1 ⟨x,H1,I1,r1,q1⟩=>?_
 obtain⟨i,rfl,q⟩:=q1;obtain⟨t,rfl⟩:=r1;exact⟨some i,H1,I1,.int i t,q⟩
noncomputable def SlR(X:Cx)(r:V->Option Int->Option Int->Hp->VK->Prop):Prop:=
 ∀(jr:Hg)(s:Fe)(σ:St)(H:Hp)(x:V)(v vl vu:fv)(lo hi:Option Int)(sl:xv)(Q:VK),Inv X jr σ H s->RelV x v->s.heap.IsSliceOf sl vl vu .none->IsPart vl lo->IsPart vu hi->r x lo hi H Q ->
  ∃T id,typeLookup (.type T) "__getitem__" =pure (some (.builtin id))/\s.TypeIs v T/\Fi (Fm X.prog X.w) X.A (getItem v (.ref sl)) (EP X jr σ Q) X.xe s
noncomputable def tSl(r:V->Option Int->Option Int->Hp->VK->Prop)(te:TE)(tl th:TO):TE:=λσ H Q=>te σ H λx H1=>tl σ H1 λl H2=>th σ H2 λu H3=>r x l u H3 Q
theorem JJ{r:V->Option Int->Option Int->Hp->VK->Prop}(hr:SlR X r)(he:PE X e te)(hl:PO X lo tl)(hu:PO X hi th):PE X (.Subscript e (.Slice lo hi none p2) pos) (tSl r te tl th):=by
 intro jr s σ H Q I h;refine Subscript_ (thn (he jr s σ H _ I h) λv s1 ⟨x,H1,I1,r1,q1⟩=>?_);refine wpAny_Slice (thn (hl jr s1 σ H1 _ I1 q1) λvl s2 ⟨l,H2,I2,pl,q2⟩=>thn (hu jr s2 σ H2 _ I2 q2) λvu s3 ⟨u,H3,I3,pu,q3⟩=>?_);rw[evalPart_none];refine ag ?_;have I4:Inv X jr σ H3 {s3 with heap:=s3.heap.push {cls:=.type "slice",data:=.fields #[vl,vu,.none]}}:=I3.kept (t':=s3.toks) λb ob q=>ak _ q
 obtain⟨T,id,hT,ht,hg⟩:=hr jr {s3 with heap:=s3.heap.push {cls:=.type "slice",data:=.fields #[vl,vu,.none]}} σ H3 x v vl vu l u s3.heap.objs.size Q I4 r1 (Fp.IsSliceOf.new ..) pl pu q3;show Fi (Fm X.prog X.w) X.A (subscriptTail e (.Slice lo hi none p2) v (.ref s3.heap.objs.size)) (EP X jr σ Q) X.xe {s3 with heap:=s3.heap.push {cls:=.type "slice",data:=.fields #[vl,vu,.none]}}
 exact tail_any (ops:=[.ref s3.heap.objs.size,v]) ht hT hg (by with_unfolding_all rfl)
noncomputable def HX(xs:List V)(lo hi:Option Int):List V:=(xs.drop (HT.sIx xs.length 0 lo)).take (HT.sIx xs.length xs.length hi - HT.sIx xs.length 0 lo)
theorem BR(xs:List V)(lo hi:Option Int):(HX xs lo hi).length<=xs.length:=by unfold HX;rw[bx,ik];omega
end
noncomputable def ixN(n:Nat)(i:Int):Option Nat:=if 0<=i then(if i<n then some i.toNat else none)else if -(n:Int)<=i then some (i+n).toNat else none
def atI{α:Type}(xs:List α)(i:Int):Option α:=(ixN xs.length i).bind λj=>xs[j]?
theorem N8{n:Nat}{i:Int}{j:Nat}(h:ixN n i=some j):seqIndex? i n=some j/\j<n/\-(n:Int)<=i/\i<n:=by
 unfold ixN at h;by_cases h0:0<=i
 ·rw[ah h0]at h;by_cases h1:i<n
  ·rw[ah h1]at h;have e:i.toNat=j:=Option.some.inj h;exact⟨by rw[seqIndex_of h0 h1,e],Hc,Hc,h1⟩
  ·rw[af h1]at h;cases h
 ·rw[af h0]at h;by_cases h1:-(n:Int)<=i
  ·rw[ah h1]at h;have e:(i+n).toNat=j:=Option.some.inj h;exact⟨by rw[seqIndex_neg Hc h1,e],Hc,h1,Hc⟩
  ·rw[af h1]at h;cases h
theorem FP{α:Type}{xs:List α}{i:Int}{v:α}(h:atI xs i=some v):∃j,seqIndex? i xs.length=some j/\xs[j]? =some v/\j<xs.length/\-(xs.length:Int)<=i/\i<xs.length:=by
 unfold atI at h;cases e:ixN xs.length i with
 |none=>rw[e]at h;cases h
 |some j=>rw[e]at h;obtain⟨h1,h2,h3,h4⟩:=N8 e;exact⟨j,h1,h,h2,h3,h4⟩
theorem O0{α:Type}{xs:List α}{j:Nat}{v:α}(h:xs[j]? =some v):atI xs (j:Int)=some v:=by
 have hj:j<xs.length:=(ar.mp h).1;have e:ixN xs.length (j:Int)=some j:=by unfold ixN;rw[ah Hc,ah Hc];simp
 unfold atI;rw[e];exact h
def O4(b:Fz):Prop:=∀o i,subscripted b false o i=operate [o,i] (getItem o i)
noncomputable def IxR(X:Cx)(r:R2):Prop:=
 ∀(jz slice:Fz)(jr:Hg)(s:Fe)(σ:St)(H:Hp)(x y:V)(v u:fv)(Q:VK),Inv X jr σ H s->RelV x v->RelV y u->r x y H Q ->
  subscripted slice false v u=operate [v,u] (getItem v u)->Fi (Fm X.prog X.w) X.A (subscriptTail jz slice v u) (EP X jr σ Q) X.xe s
noncomputable def MtR(X:Cx)(id:String)(r:V->List V->Hp->VK->Prop):Prop:=
 ∀(jr:Hg)(s:Fe)(σ:St)(H:Hp)(x:V)(xs:List V)(v:fv)(us:List fv)(Q:VK),Inv X jr σ H s->RelV x v->Vals xs us->r x xs H Q ->
  Fi (Fm X.prog X.w) X.A (call (.builtin id) (v::us)) (EP X jr σ Q) X.xe s
section
variable {X:Cx}{a b:Fz}{ta tb:TE}{pos:Pos}
theorem aY{r:R2}(hr:IxR X r)(ha:PE X a ta)(hb:PE X b tb)(hs:O4 b):PE X (.Subscript a b pos) (tOp r ta tb):=by intro jr s σ H Q I h;exact Subscript_ (QG ha hb I h λv u s2 x y H2 I2 rx ry q=>hr a b jr s2 σ H2 x y v u Q I2 rx ry q (hs _ _))
noncomputable def X4(K:Fg):R2:=λx y H Q=>∃p xs i v,x=.ref p/\y=.int i/\SqL K H p xs/\atI xs i=some v/\Q v H
noncomputable def X3(K:Fg):R2:=λx y H Q=>∃p xs i v,x=.ref p/\y=.int i/\SqT K H p xs/\atI xs i=some v/\Q v H
theorem gY:IxR X (X4 X.K):=by
 intro jz slice jr s σ H x y v u Q I rx ry h hs;obtain⟨p,xs,i,z,rfl,rfl,hq,he,q⟩:=h;cases rx;obtain⟨t,rfl⟩:=ry;obtain⟨its,r,pl,hz⟩:=I.list hq;obtain⟨j,h1,h2,h3,h4,h5⟩:=FP he;obtain⟨w,ew,qz⟩:=r.get h2;have hl:=r.length;have hn:=uO;have fin:EP X jr σ Q w s:=⟨z,H,I,qz,q⟩;by_cases h0:0<=i
 ·have hj:i.toNat=j:=by rw[seqIndex_of h0 h5]at h1;exact Option.some.inj h1
  exact item_listR pl.isList h0 Hc (by rw[hj];simpa using ew) fin hs
 ·have hj:(i+(its.toArray.size:Int)).toNat=j:=by rw[seqIndex_neg Hc h4]at h1;rw[bj,<- hl];exact Option.some.inj h1
  exact subscriptTail_builtinR (x:=w) pl.isList.typeIs slot_list_getitem.lookup
   (wpAny_getItem_list_neg (Q:=λr s'=>r=w/\EP X jr σ Q r s') pl.isList Hc (by rw[bj]<;>omega) Hc (by rw[hj];simpa using ew) ⟨rfl,fin⟩) hs
theorem aT:IxR X (X3 X.K):=by
 intro jz slice jr s σ H x y v u Q I rx ry h hs;obtain⟨p,xs,i,z,rfl,rfl,hq,he,q⟩:=h;cases rx;obtain⟨t,rfl⟩:=ry;obtain⟨its,r,pl,hz⟩:=I.tuple hq;obtain⟨j,h1,h2,h3,h4,h5⟩:=FP he;obtain⟨w,ew,qz⟩:=r.get h2;have hl:=r.length;have hn:=uO;have fin:EP X jr σ Q w s:=⟨z,H,I,qz,q⟩;exact subscriptTail_builtinR (x:=w) pl.typeIs slot_tuple_getitem.lookup
  (getItem_tuple (j:=j) (Q:=λr s'=>r=w/\EP X jr σ Q r s') pl Hc Hc (by rw[bj,<- hl];exact h1) (by simpa using ew) ⟨rfl,fin⟩) hs
theorem yK(lo hi:Option Int)(n:Nat):(sliceBounds lo hi none n).1=((HT.sIx n 0 lo:Nat):Int)/\(sliceBounds lo hi none n).2.1=((HT.sIx n n hi:Nat):Int)/\(sliceBounds lo hi none n).2.2=1:=by
 refine⟨?_,?_,rfl⟩
 ·cases lo with
  |none=>simp[sliceBounds,HT.sIx]
  |some i=>
   simp only[sliceBounds,HT.sIx,Option.getD_none,show(1:Int)>0 by decide,if_true];by_cases h:i<0
   ·simp only[h,if_true]<;>omega
   ·simp only[h,if_false]<;>omega
 ·cases hi with
  |none=>simp[sliceBounds,HT.sIx]
  |some i=>
   simp only[sliceBounds,HT.sIx,Option.getD_none,show(1:Int)>0 by decide,if_true];by_cases h:i<0
   ·simp only[h,if_true]<;>omega
   ·simp only[h,if_false]<;>omega
theorem vO(its:List fv)(lo hi:Option Int):slicePick its.toArray lo hi none=((its.drop (HT.sIx its.length 0 lo)).take (HT.sIx its.length its.length hi - HT.sIx its.length 0 lo)).toArray:=by obtain⟨h1,h2,h3⟩:=yK lo hi its.toArray.size;unfold slicePick;rw[h1,h2,h3];simp only[sliceRange_one,pick_run,bj]<;>rfl
noncomputable def WZ(K:Fg):V->Option Int->Option Int->Hp->VK->Prop:=λx lo hi H Q=>∃a xs,x=.ref a/\SqL K H a xs/\∀p,H p=none->Q (.ref p) (upd H p (.lst (HX xs lo hi)))
theorem M8:SlR X (WZ X.K):=by intro jr s σ H x v vl vu lo hi sl Q I rx hs pl pu h;obtain⟨a,xs,rfl,hx,q⟩:=h;cases rx;obtain⟨its,r,ht,hz⟩:=I.list hx;have kc:=r.length;refine⟨"list",_,slot_list_getitem.lookup,ht.isList.typeIs,?_⟩;refine wpAny_getItem_list_slice ht.isList hs pl pu .none (by simp) ?_ (by rw[bj]<;>omega);rw[vO,<- kc];refine⟨.ref s.heap.objs.size,_,I.laid (t':=s.toks) (o:=.lst (HX xs lo hi)) (λb ob q=>ak _ q) (aw _) ?_,rfl,q _ (I.hok.fresh (aw _))⟩;exact⟨de (BR xs lo hi) hz,_,0,(r.drop (HT.sIx xs.length 0 lo)).take (HT.sIx xs.length xs.length hi - HT.sIx xs.length 0 lo),az _ rfl⟩
theorem cD:nL X (.builtin "len") (λxs H Q=>∃p ys,xs=[.ref p]/\(SqL X.K H p ys\/SqT X.K H p ys)/\Q (.int ys.length) H):=by
 intro jr s σ H xs us Q I r h;obtain⟨p,ys,rfl,hq,q⟩:=h;obtain⟨u,rfl,rx⟩:=vals1 r;cases rx;have hn:=uO;rcases hq with hq|hq
 ·obtain⟨its,r',pl,hz⟩:=I.list hq;have kc:=r'.length;exact Calls.call_len_list pl.isList (by simp only[bj]<;>omega) ⟨.int ys.length,H,I.tok _,⟨s.toks+1,by rw[bj,kc]⟩,q⟩
 ·obtain⟨its,r',pl,hz⟩:=I.tuple hq;have kc:=r'.length;exact len_tuple pl (by simp only[bj]<;>omega) ⟨.int ys.length,H,I.tok _,⟨s.toks+1,by rw[bj,kc]⟩,q⟩
noncomputable def tyV(K:Fg)(T:String)(x:V)(H:Hp):Prop:=match x with
 | .str _=>T= "str"
 | .int _=>T= "int"
 | .ref p=>(T= "list" /\∃xs,SqL K H p xs)\/(T= "tuple" /\∃o,K.lookup p=some o/\o.cls=.type "tuple" /\o.dict=none)\/
   (T= "dict" /\((∃kvs,H p=some (.dK kvs))\/∃kvs,H p=some (.dT kvs)))\/(T= "set" /\∃S n,H p=some (.set S n))
 |_=>False
theorem IQ{jr:Hg}{σ:St}{H:Hp}{s:Fe}{T:String}{x:V}{v:fv}(I:Inv X jr σ H s)(r:RelV x v)(ty:tyV X.K T x H):
  s.TypeIs v T/\∀a,v=.ref a->∃ob,s.heap.get? a=some ob/\ob.dict=none:=by
 cases x with
 |str z=>obtain⟨t,rfl⟩:=r;cases (show T= "str" from ty);exact⟨typeIs_str s z t,λ_ e=>nomatch e⟩
 |int i=>obtain⟨t,rfl⟩:=r;cases (show T= "int" from ty);exact⟨typeIs_int s i t,λ_ e=>nomatch e⟩
 |ref p=>
  cases r;rcases ty with⟨rfl,xs,hq⟩|⟨rfl,o,hk,hc,hd⟩|⟨rfl,hk⟩|⟨rfl,S,n,hk⟩
  ·obtain⟨its,_,pl,_⟩:=I.list hq;refine⟨pl.isList.typeIs,λa e=>?_⟩;cases e;obtain⟨o,n,e,c,hd,_⟩:=pl;exact⟨o,e,hd⟩
  ·refine⟨⟨o,I.kIn p o hk,hc⟩,λa e=>?_⟩;cases e;exact⟨o,I.kIn _ o hk,hd⟩
  ·have z:∃o,s.heap.get? p=some o/\o.ExactDict:=by
    rcases hk with⟨kvs,hk⟩|⟨kvs,hk⟩
    ·obtain⟨_,_,_,_,o,_,_,e,ex,_⟩:=I.hok p _ hk;exact⟨o,e,ex⟩
    ·obtain⟨_,_,_,_,o,_,_,e,ex,_⟩:=I.hok p _ hk;exact⟨o,e,ex⟩
   obtain⟨o,e,ex⟩:=z;refine⟨⟨o,e,ex.1⟩,λa e2=>?_⟩;cases e2;exact⟨o,e,ex.2.1⟩
  ·obtain⟨o,_,_,_,e,ex,_⟩:=I.hok p _ hk;refine⟨⟨o,e,ex.1⟩,λa e2=>?_⟩;cases e2;exact⟨o,e,ex.2.1⟩
 |_=>exact False.elim ty
noncomputable def WT(K:Fg)(T:String)(r:V->List V->Hp->VK->Prop)(to:TE):TE:=λσ H Q=>to σ H λx H1=>tyV K T x H1/\r x [] H1 Q
noncomputable def tBM(K:Fg)(T:String)(r:V->List V->Hp->VK->Prop)(to:TE)(t:TA):TE:=λσ H Q=>to σ H λx H1=>tyV K T x H1/\t σ H1 λxs H2=>r x xs H2 Q
variable {o e:Fz}{es:List Fz}{to:TE}{t:TA}{name:Str}{kz jy:Pos}{T id:String}{r:V->List V->Hp->VK->Prop}
theorem CO(pa:PlainAttrs T)(slot:Slot T name id)(Dd:typeOf (.builtin id)=pure (.type "method_descriptor"))(hm:MtR X id r)(ho:PE X o to)
  (om:attributeBase o name X.env (eval o X.env)=eval o X.env:=by rfl) (qm:(kz.endLine==jy.line)=true:=by rfl):PE X (.Call (.Attribute o name kz) [] [] jy) (WT X.K T r to):=by
 intro jr s σ H Q I h;refine wpAny_Call_method0_late om qm (thn (ho jr s σ H _ I h) λv s1 ⟨x,H1,I1,r1,ty,q1⟩=>?_);obtain⟨h1,h2⟩:=IQ I1 r1 ty;exact⟨T,id,pa,slot,Dd,h1,h2,Calls.callWith_builtin rfl (PySem.evalArgs_none (hm jr s1 σ H1 x [] v [] Q I1 r1 .nil q1))⟩
theorem jA(pa:PlainAttrs T)(slot:Slot T name id)(Dd:typeOf (.builtin id)=pure (.type "method_descriptor"))(hm:MtR X id r)(ho:PE X o to)(ha:PA X (e::es) t)
  (om:attributeBase o name X.env (eval o X.env)=eval o X.env:=by rfl)
  (hfew:((backTo jy (Fq (e::es) X.env)).all (λx=>!x.1)&& (backToKw jy (keywordEach [] X.env)).all (λx=>x.1.isSome)
   && decide ((e::es).length+([]:List Keyword).length+(if([]:List Keyword).isEmpty then 0 else 1)<30))=true:=by rfl)
  (qm:(kz.endLine==jy.line)=true:=by rfl) (hs:Fq (e::es) X.env=(false,eval e X.env)::Fq es X.env:=by rfl) (Aj:(backTo jy (Fq es X.env)).any (·.1)=false:=by rfl):
  PE X (.Call (.Attribute o name kz) (e::es) [] jy) (tBM X.K T r to t):=by
 intro jr s σ H Q I h;refine wpAny_Call_method_late om hfew qm rfl (thn (ho jr s σ H _ I h) λv s1 ⟨x,H1,I1,r1,ty,q1⟩=>?_);obtain⟨h1,h2⟩:=IQ I1 r1 ty;refine⟨T,id,pa,slot,Dd,h1,h2,?_⟩;have hA:=ha jy jr s1 σ H1 _ I1 q1;rw[hs]at hA ⊢;refine Calls.callWith_builtin (by show(false||(backTo jy (Fq es X.env)).any (·.1))=false;rw[Aj]<;>rfl) (Calls.evalArgs_plain ?_);exact thn hA λus s2 ⟨vs,H2,I2,r2,q2⟩=>hm jr s2 σ H2 x vs v us Q I2 r1 r2 q2
end
noncomputable def MtM(X:Cx)(id:String)(r:V->List V->Hp->VK->Prop):Prop:=
 ∀(jr:Hg)(s:Fe)(σ:St)(H:Hp)(x:V)(xs:List V)(v:fv)(us:List fv)(Q:VK),Inv X jr σ H s->RelV x v->Vals xs us->r x xs H Q ->
  Fi (Fm X.prog X.w) X.A (call (.builtin id) (v::us)) (EP X jr σ Q) X.xe s
theorem Vals.one:∀{x:V}{us:List fv},Vals [x] us->∃u,us=[u]/\RelV x u
 |_,_,.cons r .nil=>⟨_,rfl,r⟩
theorem Vals.zero:∀{us:List fv},Vals [] us->us=[]
 |_,.nil=>rfl
theorem Vals.dropLast{xs:List V}{us:List fv}(h:Vals xs us):Vals xs.dropLast us.dropLast:=by
 induction h with
 |nil=>exact .nil
 |cons r t ih=>
  cases t with
  |nil=>exact .nil
  |cons q t'=>exact .cons r ih
theorem DZ{α:Type}(l:List α):l.eraseIdx (l.length - 1)=l.dropLast:=by
 induction l with
 |nil=>rfl
 |cons a r ih=>
  cases r with
  |nil=>rfl
  |cons b r=>
   have e:(a::b::r).length - 1=((b::r).length - 1)+1:=by have h1:(a::b::r).length=r.length+2:=rfl;have h2:(b::r).length=r.length+1:=rfl;omega
   rw[e,List.eraseIdx_cons_succ,ih];all_goals rfl
section
variable {X:Cx}{jr:Hg}{σ:St}{H:Hp}{s:Fe}{l b:xv}{xs ys zs:List V}
theorem Inv.DB{its its':List fv}{n:Nat}{f:Array fv->Array fv}{t':Nat}(I:Inv X jr σ H s)(hH:H l=some (.lst xs))
  (e:s.heap.get? l=some {cls:=.type "list",data:=.seq its.toArray n}) (hf:f its.toArray=its'.toArray) (hv:Vals ys its') (hz:ys.length<=Fh):
  Inv X jr σ (upd H l (.lst ys)) {s with heap:=s.heap.update l (Obj.mapSeq f),toks:=t'}:=by
 have q:=PySem.IsL.update e f;rw[hf]at q;refine I.write (x:=l) (e:=l) (by rw[hH];exact trivial) (.inl rfl) (λb' u hb hu=>(Fp.get?_update_other s.heap (Obj.mapSeq f) (Ne.symm hb)).trans hu) ⟨_,q⟩ ?_;exact⟨hz,its',_,hv,q⟩
theorem Inv.VQ{its:List fv}{t':Nat}(I:Inv X jr σ H s)(hv:Vals ys its)(hz:ys.length<=Fh):
  Inv X jr σ (upd H s.heap.objs.size (.lst ys)) {s with heap:=s.heap.push {cls:=.type "list",data:=.seq its.toArray},toks:=t'}:=
 I.laid (λ_ _ q=>ak _ q) (aw _) ⟨hz,its,0,hv,az _ rfl⟩
theorem Inv.fresh(I:Inv X jr σ H s):H s.heap.objs.size=none:=I.hok.fresh (aw _)
theorem Inv.AR(I:Inv X jr σ H s)(hH:H l=some (.lst xs)):xs.length<=Fh/\∃(its:List fv)(n:Nat),Vals xs its/\xs.length=its.length/\s.heap.get? l=some {cls:=.type "list",data:=.seq its.toArray n}:=by obtain⟨z,its,n,r,e⟩:=I.hok l _ hH;exact⟨z,its,n,r,r.length,e⟩
theorem JW{n:Nat}(h:n<=Fh):Builtin.List.listTooLong n=false:=by unfold Builtin.List.listTooLong;exact decide_eq_false Hc
end
section
variable {X:Cx}
noncomputable def MB:V->List V->Hp->VK->Prop:=λx vs H Q=>∃l xs y,x=.ref l/\vs=[y]/\H l=some (.lst xs)/\xs.length<Fh/\Q .non (upd H l (.lst (xs++[y])))
theorem cQ:MtM X "list.append" MB:=by intro jr s σ H x vs v us Q I rx rv h;obtain⟨l,xs,y,rfl,rfl,hH,hz,q⟩:=h;cases rx;obtain⟨u,rfl,ru⟩:=rv.one;obtain⟨z,its,n,r,hl,e⟩:=I.AR hH;refine call_meets F.slot_list_append ⟨_,e,rfl⟩ F.entry_list_append (F.args_list_append_2 _ _) (PySem.list_append l its.toArray n u (by rw[bj];omega)) ⟨e,?_⟩;refine⟨.non,_,I.DB (its':=its++[u]) hH e (by simp) (r.append (.cons ru .nil)) ?_,rfl,q⟩;rw[aj,List.length_singleton];omega
noncomputable def MA:V->List V->Hp->VK->Prop:=λx vs H Q=>∃l b xs zs,x=.ref l/\vs=[.ref b]/\H l=some (.lst xs)/\H b=some (.lst zs)/\xs.length+zs.length<=Fh/\Q .non (upd H l (.lst (xs++zs)))
theorem GL:MtM X "list.extend" MA:=by
 intro jr s σ H x vs v us Q I rx rv h;obtain⟨l,b,xs,zs,rfl,rfl,hH,hB,hz,q⟩:=h;cases rx;obtain⟨u,rfl,ru⟩:=rv.one;cases ru;obtain⟨z,its,n,r,hl,e⟩:=I.AR hH;obtain⟨z2,xc,n2,r2,hl2,e2⟩:=I.AR hB;have hsz:its.toArray.size+xc.toArray.size<=Fh:=by rw[bj,bj];omega
 have Dz:¬(!its.toArray.isEmpty&& Builtin.List.listTooLong (its.toArray.size+xc.toArray.size))=true:=by rw[JW hsz,Bool.and_false];exact bp
 refine call_meets F.slot_list_extend ⟨_,e,rfl⟩ F.entry_list_extend (F.args_list_extend_2 _ _)
  (AutoSeq1.list_extend_list_list_0 l its.toArray n b xc.toArray n2 Dz (by rw[bj];omega) Hc) ⟨e,e2,?_⟩
 refine⟨.non,_,I.DB (its':=its++xc) hH e (by simp) (r.append r2) ?_,rfl,q⟩;rw[aj];omega
noncomputable def X0:V->List V->Hp->VK->Prop:=λx vs H Q=>∃l xs y,x=.ref l/\vs=[]/\H l=some (.lst xs)/\xs[xs.length - 1]? =some y/\Q y (upd H l (.lst xs.dropLast))
theorem D5:MtM X "list.pop" X0:=by
 intro jr s σ H x vs v us Q I rx rv h;obtain⟨l,xs,y,rfl,rfl,hH,hy,q⟩:=h;cases rx;have hus:=rv.zero;subst hus;obtain⟨z,its,n,r,hl,e⟩:=I.AR hH;obtain⟨u,hu,ru⟩:=r.get hy;have ue:its.toArray[its.toArray.size - 1]? =some u:=by
  show its.toArray[its.length - 1]? =some u
  rw[<- gw,<- hl];exact hu
 refine call_meets F.slot_list_pop ⟨_,e,rfl⟩ F.entry_list_pop (F.args_list_pop_1 _) (MeetsSeq.list_pop_last l its.toArray n u ue (by rw[bj];omega)) ⟨e,?_⟩;refine⟨y,_,I.DB (its':=its.dropLast) hH e ?_ r.dropLast ?_,ru,q⟩
 ·show its.toArray.eraseIdxIfInBounds (its.toArray.size - 1)=its.dropLast.toArray
  rw[bj,List.eraseIdxIfInBounds_toArray,DZ]
 ·rw[gr];omega
end
theorem Vals.ints:∀{ns:List Int}{us:List fv},Vals (ns.map V.int) us->IntsAre us ns
 |[],us,h=>by rw[je]at h;cases h;exact IntsAre.nil
 |n::ns,us,h=>by
  rw[bh]at h;cases h with
  |cons r t=>obtain⟨k,rfl⟩:=r;exact IntsAre.cons n k (Vals.ints t)
theorem Vals.bls:∀{bs:List Bool}{us:List fv},Vals (bs.map V.bl) us->us=bs.map fv.bool
 |[],us,h=>by rw[je]at h;cases h;rfl
 |b::bs,us,h=>by
  rw[bh]at h;cases h with
  |cons r t=>cases r;rw[Vals.bls t,bh]
theorem Vals.R7{a:xv}{us:List fv}(r:Vals [V.ref a] us):us=[fv.ref a]:=by
 cases r with
 |cons r t=>cases t;cases r;rfl
section
variable {prog:Fo}{w:Fw}{A:Ft}{E:Hf}{s:Fe}{l:xv}{its:List fv}{ns:List Int}{Q:Hf}
theorem MW(hh:A.handled=none)(hl:s.heap.IsList l its.toArray)(hi:IntsAre its ns)(jw:0<ns.length)
  (h:∀h' tk M t',(∀b o,s.heap.get? b=some o->h'.get? b=some o)->M∈ns->(∀a,a∈ns->M<=a)->Q (.int M t') {s with heap:=h',toks:=tk}):Fi (Fm prog w) A (call (.builtin "min") [.ref l]) Q E s:=by
 obtain⟨xs,e⟩:=hi.allInts.items;have hn:numsOf (intItems xs).toList=ns:=by rw[<- e];exact hi.numsOf
 rw[nums_intItems]at hn;subst hn;rw[e]at hl;have hsz:0<xs.size:=by simpa using jw
 refine PySem.min_intList hh hl hsz λv h' tk hv hk=>?_
 obtain⟨t,rfl⟩:=intItems_at hv;obtain⟨h1,h2⟩:=argBest_lt (numAt xs) (xs.size - 1);refine h h' tk _ t hk ?_ λa ha=>?_
 ·rw[numAt_eq];exact PySem.getD_mem (by rw[ai,dm];omega)
 ·obtain⟨j,hj,rfl⟩:=mem_getD ha;rw[ai,dm]at hj;rw[<- numAt_eq];exact h2 j Hc
end
section
variable {X:Cx}
noncomputable def X2(K:Fg):List V->Hp->VK->Prop:=λvs H Q=>∃(a:xv)(ns:List Int),vs=[V.ref a]/\SqL K H a (ns.map V.int)/\0<ns.length/\∀m,m∈ns->(∀y,y∈ns->m<=y)->Q (.int m) H
theorem QD(hc:X.calm=true):nL X (.builtin "min") (X2 X.K):=by intro jr s σ H vs us Q I r h;obtain⟨a,ns,rfl,hs,jw,q⟩:=h;obtain⟨its,rv,hl,_⟩:=I.list hs;rw[Vals.R7 r];exact MW (I.ok.hd hc) hl.isList rv.ints jw λh' tk m t' hk h1 h2=>⟨.int _,H,I.kept hk,⟨_,rfl⟩,q m h1 h2⟩
end
theorem KC{prog:Fo}{w:Fw}{A:Ft}{E:Hf}{s:Fe}{l:xv}{items:Array fv}{Q:Hf}(hl:s.heap.IsList l items)
  (h:∀s₂:Fe,s₂={s with heap:=s.heap.push {cls:=.type "list_iterator",data:=.fields #[.ref l,.int 0 0]}} ->
   (s₂.heap.IsListIter s.heap.objs.size l 0/\s₂.heap.IsList l items)->l≠s.heap.objs.size->Q (.ref s.heap.objs.size) s₂):Fi (Fm prog w) A (pyIter (.ref l)) Q E s:=by
 have ka:l<s.heap.objs.size:=by obtain⟨_,e,_⟩:=hl;exact br e
 exact wpAny_pyIter_list hl (h _ rfl ⟨⟨_,az _ rfl,rfl,rfl⟩,hl.push _⟩ (cj ka))
theorem zU{prog:Fo}{w:Fw}{A:Ft}{bs:List Bool}{its:List fv}(e:its=bs.map fv.bool):
  TruthOf prog w A (λi v=>its.toArray[i]? =some v) (λi=>bs.getD i false):=λi v s Q E hv hq=>by
 have hv':its[i]? =some v:=by simpa using hv
 rw[e,bc]at hv';obtain⟨b,hb,rfl⟩:=Option.map_eq_some_iff.mp hv';have hg:bs.getD i false=b:=by rw[List.getD_eq_getElem?_getD,hb]<;>rfl
 have qw:Q (bs.getD i false) s:=hq;rw[hg]at qw;exact wpAny_truthy_bool qw
theorem any_range:∀bs:List Bool,(List.range bs.length).any (λi=>bs.getD i false)=bs.any id
 |[]=>rfl
 |b::bs=>by rw[bo,List.range_succ_eq_map,any_cons,any_map,any_cons,<- any_range bs];all_goals rfl
section
variable {X:Cx}
noncomputable def X5(K:Fg):List V->Hp->VK->Prop:=λvs H Q=>∃(a:xv)(bs:List Bool),vs=[V.ref a]/\SqL K H a (bs.map V.bl)/\Q (.bl (bs.any id)) H
theorem QE(hc:X.calm=true):nL X (.builtin "any") (X5 X.K):=by
 intro jr s σ H vs us Q I r h;obtain⟨a,bs,rfl,hs,q⟩:=h;obtain⟨its,rv,hl,_⟩:=I.list hs;rw[Vals.R7 r];have hb:=rv.bls;refine call_any_walk (KC hl.isList λs₂ e2 st jw=>?_);subst e2;refine⟨_,_,_,_,_,_,_,rfl,Walks.list (A:=X.A.in1) (I.ok.hd hc) _ a jw its.toArray,st,zU hb,λh' tk hk=>?_⟩;refine⟨.bl _,H,I.kept λb o eo=>hk b o (λhmem=>?_) (ak _ eo),?_,q⟩
 ·rcases aq.mp hmem with e1|hmem
  ·exact absurd (e1▸br eo) (gu _)
  ·cases hmem
 ·show fv.bool _=fv.bool _
  rw[<- any_range,hb,bj,ai]
end
mutual
inductive Dp (K:Fg) (H:Hp):V->PyData->Prop
 |non:Dp K H .non .none
 |bl (b:Bool):Dp K H (.bl b) (.bool b)
 |int (i:Int):Dp K H (.int i) (.int i)
 |str (x:Str):Dp K H (.str x) (.str x)
 |lst {a:xv}{xs:List V}{ds:List PyData}:SqL K H a xs->vJ K H xs ds->Dp K H (.ref a) (.list ds)
 |tup {a:xv}{xs:List V}{ds:List PyData}:SqT K H a xs->vJ K H xs ds->Dp K H (.ref a) (.tuple ds)
inductive vJ (K:Fg) (H:Hp):List V->List PyData->Prop
 |nil:vJ K H [] []
 |cons {v:V}{vs:List V}{d:PyData}{ds:List PyData}:Dp K H v d->vJ K H vs ds->vJ K H (v::vs) (d::ds)
end
section
variable {X:Cx}{jr:Hg}{σ:St}{H:Hp}{s:Fe}
mutual
theorem Dp.reads(I:Inv X jr σ H s):∀(d:PyData)(v:V)(u:fv),Dp X.K H v d->RelV v u->∃as,Reads s.heap u d as
 | .none,_,_,h,r=>by cases h;cases r;exact⟨_,Reads.none⟩
 | .bool b,_,_,h,r=>by cases h;cases r;exact⟨_,Reads.bool b⟩
 | .int i,_,_,h,r=>by cases h;obtain⟨t,rfl⟩:=r;exact⟨_,Reads.int i t⟩
 | .str x,_,_,h,r=>by cases h;obtain⟨t,rfl⟩:=r;exact⟨_,Reads.str x t⟩
 | .list ds,_,_,h,r=>by
  cases h with
  |lst hs ha=>cases r;obtain⟨its,rv,⟨o,n,ho,hc,_,hd⟩,_⟩:=I.list hs;obtain⟨as,hr⟩:=Dp.readsAll I ds _ its ha rv;exact⟨_,Reads.list ho hc hd hr⟩
 | .tuple ds,_,_,h,r=>by
  cases h with
  |tup hs ha=>cases r;obtain⟨its,rv,⟨o,ho,hc,n,hd⟩,_⟩:=I.tuple hs;obtain⟨as,hr⟩:=Dp.readsAll I ds _ its ha rv;exact⟨_,Reads.tuple ho hc hd hr⟩
 | .dict _,_,_,h,_=>by cases h
theorem Dp.readsAll(I:Inv X jr σ H s):∀(ds:List PyData)(vs:List V)(us:List fv),vJ X.K H vs ds->Vals vs us->∃as,ReadsAll s.heap us ds as
 |[],_,_,h,r=>by cases h;cases r;exact⟨_,ReadsAll.nil⟩
 |d::ds,_,_,h,r=>by
  cases h with
  |cons h1 h2=>
   cases r with
   |cons r1 r2=>obtain⟨as,q1⟩:=Dp.reads I d _ _ h1 r1;obtain⟨bs,q2⟩:=Dp.readsAll I ds _ _ h2 r2;exact⟨_,ReadsAll.cons q1 q2⟩
end
end
section
variable {X:Cx}
noncomputable def X1(K:Fg):R2:=λx y H Q=>∃d e,Dp K H x d/\Dp K H y e/\SeqAt.shaped d=true/\SeqAt.shaped e=true/\Q (.bl (!PyData.eqv d e)) H
theorem P8(hu:X.A.units+64<cLine):OpR X (compareOp .NotEq) (X1 X.K):=by intro jr s σ H x y v u Q I rx ry h;obtain⟨d,e,hd,he,sd,se,q⟩:=h;obtain⟨as,r1⟩:=Dp.reads I d x v hd rx;obtain⟨bs,r2⟩:=Dp.reads I e y u he ry;exact SeqAt.compareNe_shaped r1 r2 sd se hu ⟨.bl _,H,I,rfl,q⟩
end
abbrev LU(h:Fp)(c:xv)(v:Option fv):Prop:=h.IsCell c v
noncomputable def WY(scope sc:Gj):Gj:=
 {scope with names:=scope.names.map λ(n,k)=>if(k== .free&& sc.kind== .function&& sc.names.lookup n==some .cell)then(n,.cell)else(n,k)}
noncomputable def bH(cells:List (Str×xv)):List (Str×NameKind)->List (Str×xv)->List (Str×xv)
 |[],acc=>acc
 |(n,k)::r,acc=>if k== .free then bH cells r ((n,(cells.lookup n).getD 0)::acc)else bH cells r acc
theorem pX(env:Env)(f:Str×NameKind->List (Str×xv)->Sem (ForInStep (List (Str×xv))))
  (hf:∀n k c,f (n,k) c=if k== .free then(do let a<- cellOf env n;pure (.yield ((n,a)::c)))else pure (.yield c)):
  ∀(names:List (Str×NameKind))(acc:List (Str×xv)),(∀y∈names,y.2=.free->∃c,env.cells.lookup y.1=some c)->forIn names acc f=pure (bH env.cells names acc)
 |[],acc,_=>by rw[List.forIn_nil];rfl
 |(n,k)::r,acc,h=>by
  rw[List.forIn_cons,hf];have ih:=λacc=>pX env f hf r acc λy hy=>h y (ao _ hy)
  unfold bH;by_cases hk:(k==NameKind.free)=true
  ·rw[ah hk,ah hk];obtain⟨c,hc⟩:=h (n,k) ay (by simpa using hk);have e:cellOf env n=pure c:=by unfold cellOf;rw[hc]
   rw[e];have e2:(env.cells.lookup n).getD 0=c:=by rw[hc];rfl
   rw[e2];exact ih _
  ·rw[af hk,af hk];exact ih _
theorem oB{scope:Gj}{env:Env}(h:∀y∈scope.names,y.2=.free->∃c,env.cells.lookup y.1=some c):closureFor scope env=pure (bH env.cells scope.names []):=by simp only[closureFor];rw[pX env _ (λn k c=>rfl) scope.names [] h];rfl
theorem mem_lookup{α:Type}:∀{l:List (Str×α)}{n:Str}{c:α},(n,c)∈l->∃c',l.lookup n=some c'
 |(k,v)::r,n,c,h=>by
  rw[gh];cases hb:n==k with
  |true=>exact⟨_,rfl⟩
  |false=>
   rcases aq.mp h with e|h
   ·cases e;simp at hb
   ·exact mem_lookup h
theorem gG{cells:List (Str×xv)}:∀{names:List (Str×NameKind)}{acc:List (Str×xv)}{n:Str}{c:xv},(n,c)∈bH cells names acc->(n,c)∈acc\/((n,.free)∈names/\c=(cells.lookup n).getD 0)
 |[],_,_,_,h=>.inl h
 |(m,k)::r,acc,n,c,h=>by
  unfold bH at h;split at h
  ·rename_i hk;have hk:k=.free:=by simpa using hk
   rcases gG h with h|⟨h1,h2⟩
   ·rcases aq.mp h with e|h
    ·cases e;exact .inr ⟨hk▸ay,rfl⟩
    ·exact .inl h
   ·exact .inr ⟨ao _ h1,h2⟩
  ·rcases gG h with h|⟨h1,h2⟩
   ·exact .inl h
   ·exact .inr ⟨ao _ h1,h2⟩
theorem m5{cells:List (Str×xv)}:∀{names:List (Str×NameKind)}{acc:List (Str×xv)}{p:Str×xv},p∈acc->p∈bH cells names acc
 |[],_,_,h=>h
 |(m,k)::r,acc,p,h=>by
  unfold bH;split
  ·exact m5 (ao _ h)
  ·exact m5 h
theorem iR{cells:List (Str×xv)}:∀{names:List (Str×NameKind)}{acc:List (Str×xv)}{n:Str},(n,.free)∈names->(n,(cells.lookup n).getD 0)∈bH cells names acc
 |(m,k)::r,acc,n,h=>by
  unfold bH;rcases aq.mp h with e|h
  ·cases e;exact m5 ay
  ·split
   ·exact iR h
   ·exact iR h
theorem jM:∀{names:List (Str×NameKind)}{h:Fp}{acc:List (Str×xv)}{x:Str}{c:xv},(x,c)∈Gb h.objs.size names acc ->
  (x,c)∈acc\/((x,.cell)∈names/\h.objs.size<=c/\LU (pushCells h names) c none)
 |[],_,_,_,_,h=>.inl h
 |(n,k)::r,h,acc,x,c,hm=>by
  unfold Gb at hm;unfold pushCells;split at hm
  ·rename_i hk;rw[ah hk];have hk:k=.cell:=by simpa using hk
   rw[<- fo h {cls:=.type "cell",data:=.cell none}]at hm;rcases jM hm with hm|⟨h1,h2,h3⟩
   ·rcases aq.mp hm with e|hm
    ·cases e;exact .inr ⟨hk▸ay,aw _,_,pushCells_keeps r _ _ _ (az _ rfl),rfl⟩
    ·exact .inl hm
   ·rw[fo]at h2;exact .inr ⟨ao _ h1,jo h2,h3⟩
  ·rename_i hk;rw[af hk];rcases jM hm with hm|⟨h1,h2,h3⟩
   ·exact .inl hm
   ·exact .inr ⟨ao _ h1,h2,h3⟩
theorem mY:∀{names:List (Str×NameKind)}{n:Nat}{acc:List (Str×xv)}{p:Str×xv},p∈acc->p∈Gb n names acc
 |[],_,_,_,h=>h
 |(m,k)::r,n,acc,p,h=>by
  unfold Gb;split
  ·exact mY (ao _ h)
  ·exact mY h
theorem rA:∀{names:List (Str×NameKind)}{n:Nat}{acc:List (Str×xv)}{x:Str},(x,.cell)∈names->∃c,(x,c)∈Gb n names acc
 |(m,k)::r,n,acc,x,h=>by
  unfold Gb;rcases aq.mp h with e|h
  ·cases e;exact⟨n,mY ay⟩
  ·split
   ·exact rA h
   ·exact rA h
theorem r9:∀{names:List (Str×NameKind)}{h:Fp}{acc:List (Str×xv)}{x y:Str}{c:xv},(∀p∈acc,p.2<h.objs.size)->(∀x y c,(x,c)∈acc->(y,c)∈acc->x=y) ->
  (x,c)∈Gb h.objs.size names acc->(y,c)∈Gb h.objs.size names acc->x=y
 |[],_,_,_,_,_,_,hi,h1,h2=>hi _ _ _ h1 h2
 |(n,k)::r,h,acc,x,y,c,hl,hi,h1,h2=>by
  unfold Gb at h1 h2;split at h1
  ·rename_i hk;rw[ah hk]at h2;rw[<- fo h {cls:=.type "cell",data:=.cell none}]at h1 h2;refine r9 (h:=h.push _) (λp hp=>?_) (λx y c a b=>?_) h1 h2
   ·rw[fo];rcases aq.mp hp with rfl|hp
    ·exact Nat.lt_succ_self _
    ·exact jq (hl p hp)
   ·rcases aq.mp a with e|a<;>rcases aq.mp b with e'|b
    ·cases e;cases e';rfl
    ·cases e;exact absurd (hl _ b) (gu _)
    ·cases e';exact absurd (hl _ a) (gu _)
    ·exact hi _ _ _ a b
  ·rename_i hk;rw[af hk]at h2;exact r9 hl hi h1 h2
theorem rT{M:Model}{A:Ft}{E:Hf}{s:Fe}{scope:Gj}{globals:xv}{closure:List (Str×xv)}{qual:Str}{func:Option xv}{code:fv}{vj:Env}{builtins:xv}{Q:Env->Fe->Prop}
  (h:Q (newEnv scope s.heap.objs.size globals (Gb (s.heap.objs.size+1) scope.names closure) qual func code (some vj) builtins)
   {s with heap:=pushCells (s.heap.push {cls:=.type "dict",data:=.dict #[]}) scope.names}):
  Fi M A (newFunctionEnv scope globals closure [] qual func code (some vj) builtins) Q E s:=by
 simp only[newFunctionEnv,Option.isSome_some,if_true];refine aa (wpAny_alloc ?_);refine aa (wpAny_layCells _ (λn k c=>rfl) scope.names closure _ _ ?_);rw[show({s with heap:=s.heap.push {cls:=.type "dict",data:=.dict #[]}}:Fe).heap.objs.size=s.heap.objs.size+1 from fo ..];rw[List.forIn_nil];exact aa (ag (ag h))
theorem lP{sc:Gj}:∀{names:List (Str×NameKind)}{x:Str}{k:NameKind},
  (names.map λ(n,k)=>if(k==NameKind.free&& sc.kind== .function&& sc.names.lookup n==some .cell)then(n,NameKind.cell)else(n,k)).lookup x=some k ->
  ∃k',names.lookup x=some k'/\(k=k'\/(k'=.free/\k=.cell))
 |[],_,_,h=>by simp at h
 |(n,k₀)::r,x,k,h=>by
  have ih:=@lP sc r x k;have h':List.lookup x ((if(k₀==NameKind.free&& sc.kind== .function&& sc.names.lookup n==some .cell)=true then(n,NameKind.cell)else(n,k₀))::(r.map _))=some k:=h;cases hx:x==n with
  |true=>
   simp only[gh,hx];by_cases hc:(k₀==NameKind.free&& sc.kind== .function&& sc.names.lookup n==some .cell)=true
   ·rw[ah hc]at h';simp only[gh,hx]at h';cases h';simp only[bw,beq_iff_eq]at hc;exact⟨k₀,rfl,.inr ⟨hc.1.1,rfl⟩⟩
   ·rw[af hc]at h';simp only[gh,hx]at h';cases h';exact⟨_,rfl,.inl rfl⟩
  |false=>
   simp only[gh,hx];by_cases hc:(k₀==NameKind.free&& sc.kind== .function&& sc.names.lookup n==some .cell)=true
   ·rw[ah hc]at h';simp only[gh,hx]at h';exact ih h'
   ·rw[af hc]at h';simp only[gh,hx]at h';exact ih h'
structure qC(N:List Str)(sc scope:Gj)(own:List (Str×Nat)):Prop where
 kind:scope.kind=.function
 uniq:∀y∈scope.names,scope.names.lookup y.1=some y.2
 ix:∀p∈own,N[p.2]? =some p.1
 free:∀y∈scope.names,y.2=.free->sc.names.lookup y.1=some .cell\/sc.names.lookup y.1=some .free
 own:∀y∈scope.names,y.2=.local\/y.2=.cell->y.1∈own.map (·.1)\/y.1∉N
def wipe(σ:St):List Nat->St
 |[]=>σ
 |v::vs=>(wipe σ vs).set v none
theorem iL(σ:St):∀vs:List Nat,(wipe σ vs).length=σ.length
 |[]=>rfl
 |v::vs=>by unfold wipe;rw[List.length_set,iL σ vs]
theorem mH{σ:St}{i:Nat}{x:V}:∀{vs:List Nat},(wipe σ vs)[i]? =some (some x)->σ[i]? =some (some x)/\i∉vs
 |[],h=>⟨h,by simp⟩
 |v::vs,h=>by
  unfold wipe at h;by_cases hi:v=i
  ·subst hi;by_cases hv:v<(wipe σ vs).length
   ·rw[List.getElem?_set_self hv]at h;cases h
   ·rw[List.getElem?_eq_none (by simpa using hv)]at h;cases h
  ·rw[List.getElem?_set_ne hi]at h;obtain⟨h1,h2⟩:=mH h;exact⟨h1,by simp only[aq,not_or];exact⟨λe=>hi e.symm,h2⟩⟩
noncomputable abbrev Cx.blk(X:Cx)(s:Fe)(H:Hp)(scope:Gj)(ju:Env)(fp:List xv):Cx:={X with s_0:=s,H_0:=H,env:=ju,outer:=X.stack,ex:=fp,fn:=λx=>scope.names.lookup x==some .cell,pn:=[],xe:=λ_ _=>False}
section
variable {X:Cx}{jr:Hg}{σ:St}{H:Hp}{s:Fe}
theorem sL{scope:Gj}{own:List (Str×Nat)}{fp:List xv}(I:Inv X jr σ H s)(ok:qC X.N X.env.scope scope own)(hN:X.N.Nodup)(yt:∀b∈fp,oI X jr H b/\b<s.heap.objs.size):
  Inv (X.blk s H scope (Gh scope (Gb (s.heap.objs.size+1) scope.names (bH X.env.cells scope.names [])) s.heap.objs.size X.env) fp) [] (wipe σ (own.map (·.2))) H {s with heap:=pushCells (s.heap.push {cls:=.type "dict",data:=.dict #[]}) scope.names}:=by
 have lj:∀y∈scope.names,y.2=.free->∃c,X.env.cells.lookup y.1=some c:=λy hy e=>by
  rcases ok.free y hy e with k|k
  ·exact I.ok.has _ (.inl k)
  ·exact I.ok.has _ (.inr k)
 generalize hcenv:Gh scope (Gb (s.heap.objs.size+1) scope.names (bH X.env.cells scope.names [])) s.heap.objs.size X.env=ju;have kp:∀b o,s.heap.get? b=some o->(pushCells (s.heap.push {cls:=.type "dict",data:=.dict #[]}) scope.names).get? b=some o:=λb o e=>pushCells_keeps _ _ _ _ (ak _ e)
 have hL:ju.locals=s.heap.objs.size:=by rw[<- hcenv];rfl
 have oo:ju.cells=Gb (s.heap.objs.size+1) scope.names (bH X.env.cells scope.names []):=by rw[<- hcenv];rfl
 have hsc:ju.scope=WY scope X.env.scope:=by rw[<- hcenv];rfl
 rw[<- fo s.heap {cls:=.type "dict",data:=.dict #[]}]at oo;have cm:∀{y c},(y,c)∈bH X.env.cells scope.names []->X.env.cells.lookup y=some c/\c<s.heap.objs.size:=λ{y c} hm=>by
  rcases gG hm with hm|⟨h1,rfl⟩
  ·cases hm
  ·obtain⟨c,hc⟩:=lj _ h1 rfl;rw[hc];obtain⟨w,z⟩:=I.cell _ _ hc;exact⟨rfl,z.lt⟩
 have mem:∀{y c},ju.cells.lookup y=some c->(X.env.cells.lookup y=some c/\c<s.heap.objs.size)\/(s.heap.objs.size+1<=c/\LU (pushCells (s.heap.push {cls:=.type "dict",data:=.dict #[]}) scope.names) c none):=λ{y c} e=>by
  rw[oo]at e;rcases jM (PySem.mem_of_lookup e)with hm|⟨_,h2,h3⟩
  ·exact .inl (cm hm)
  ·rw[fo]at h2;exact .inr ⟨h2,h3⟩
 have look:∀{y},scope.names.lookup y=some .free->∃c,ju.cells.lookup y=some c/\X.env.cells.lookup y=some c:=λ{y} hl=>by
  have hy:(y,NameKind.free)∈scope.names:=PySem.mem_of_lookup hl;obtain⟨c',e'⟩:=mem_lookup (mY (names:=scope.names) (n:=(s.heap.push {cls:=.type "dict",data:=.dict #[]}).objs.size) (iR (cells:=X.env.cells) (acc:=[]) hy));rw[<- oo]at e';refine⟨c',e',?_⟩;rw[oo]at e';rcases jM (PySem.mem_of_lookup e')with hm|⟨h1,_,_⟩
  ·exact(cm hm).1
  ·have:=ok.uniq _ h1;rw[hl]at this;cases this
 have okB:(X.blk s H scope ju fp).Ok:=by
  refine⟨I.ok.mod,by show ju.scope.kind=_;rw[hsc];exact ok.kind,by show ju.globals=_;rw[<- hcenv];exact I.ok.glob,by show ju.builtins=_;rw[<- hcenv];exact I.ok.blt,by show s.heap.objs.size<=ju.locals;rw[hL];exact aw _,
   λy z c e1 e2=>?_,λy hy=>?_,λy c z e=>?_,I.ok.hd,I.ok.frames,.inl rfl,λb hb=>⟨?_,λy c e z=>?_⟩,I.bs,de I.ok.bsz I.sz,λb o e hb=>?_,λb hb z=>?_,I.stack,I.yI⟩
  ·have e1:ju.cells.lookup y=some c:=e1;have e2:ju.cells.lookup z=some c:=e2;rw[oo]at e1 e2;refine r9 (λp hp=>?_) (λy z c a b=>I.ok.inj y z c (cm a).1 (cm b).1) (PySem.mem_of_lookup e1) (PySem.mem_of_lookup e2);rw[fo];exact jq (cm (y:=p.1) (c:=p.2) hp).2
  ·show∃c,ju.cells.lookup y=some c
   have key:∀k,ju.kindOf y=some k->(k=.cell\/k=.free)->∃c,ju.cells.lookup y=some c:=λk hk si=>by
    unfold Env.kindOf at hk;rw[hsc]at hk;obtain⟨k',e,r⟩:=lP hk;have:k'=.cell\/k'=.free:=by
     rcases r with rfl|⟨rfl,_⟩
     ·exact si
     ·exact .inr rfl
    rcases this with rfl|rfl
    ·obtain⟨c,hm⟩:=rA (n:=(s.heap.push {cls:=.type "dict",data:=.dict #[]}).objs.size) (acc:=bH X.env.cells scope.names []) (PySem.mem_of_lookup e);obtain⟨c',e'⟩:=mem_lookup hm;exact⟨c',by rw[oo];exact e'⟩
    ·obtain⟨c,h1,_⟩:=look e;exact⟨c,h1⟩
   rcases hy with hy|hy
   ·exact key _ hy (.inl rfl)
   ·exact key _ hy (.inr rfl)
  ·have z:(scope.names.lookup y==some NameKind.cell)=true:=z;have z:scope.names.lookup y=some .cell:=by simpa using z
   have e:ju.cells.lookup y=some c:=e;rw[oo]at e;rcases jM (PySem.mem_of_lookup e)with hm|⟨_,h2,_⟩
   ·rcases gG hm with hm|⟨h1,_⟩
    ·cases hm
    ·have q:=ok.uniq _ h1;rw[z]at q;cases q
   ·rw[fo]at h2;exact jo h2
  ·show b≠ju.locals
   rw[hL];exact cj (yt b hb).2
  ·have e:ju.cells.lookup y=some c:=e;rcases mem e with⟨h1,_⟩|⟨h1,_⟩
   ·exact(yt b hb).1.2.2.2.2.1 y c h1 z
   ·have h2:s.heap.objs.size+1<=b:=by rw[<- z];exact h1
    exact absurd (bz (yt b hb).2 (jo h2)) (gu _)
  ·rcases(yt b hb).1.2.2.2.1 with z|z
   ·exact I.ok.JX b o e z
   ·exact absurd (bz (br e) (de I.ok.bsz z)) (gu _)
  ·rcases aq.mp (I.tQ b z)with z|z
   ·exact(yt b hb).1.2.1 z
   ·exact(yt b hb).1.2.2.1 z
 refine⟨okB,rfl,I.bare,Un.kept kp,⟨λ_=>none,?_,λi y av e1 e2 e3=>?_⟩,λy c e=>?_,?_,λy c e=>?_,λp hp=>?_,I.hok.kept kp,by rw[iL];exact I.len⟩
 ·show Fp.Ns _ ju.locals _
  rw[hL];exact Fp.Ns.keeps (Fp.Ns.new ..) λb o e=>pushCells_keeps _ _ _ _ e
 ·obtain⟨e2,jw⟩:=mH e2;have xl:scope.names.lookup y=some .free/\(ju.kindOf y=some .cell\/ju.kindOf y=some .free):=by
   have key:∀k,ju.scope.names.lookup y=some k->k=.local\/k=.cell\/k=.free->scope.names.lookup y=some .free/\(ju.kindOf y=some .cell\/ju.kindOf y=some .free):=λk hk si=>by
    have hk0:=hk;rw[hsc]at hk;obtain⟨k',e,r⟩:=lP hk;have no:¬(k'=.local\/k'=.cell):=λhh=>by
     rcases ok.own _ (PySem.mem_of_lookup e) hh with e'|e'
     ·obtain⟨p,hp,hpy⟩:=au.mp e';have e3:=ok.ix p hp;have:p.1=y:=hpy;rw[this]at e3;exact jw (au.mpr ⟨p,hp,uH hN e3 e1⟩)
     ·exact e' (ba e1)
    rcases r with rfl|⟨rfl,rfl⟩
    ·rcases si with rfl|rfl|rfl
     ·exact absurd (.inl rfl) no
     ·exact absurd (.inr rfl) no
     ·exact⟨e,.inr hk0⟩
    ·exact⟨e,.inl hk0⟩
   have e3:Vis ju.scope y:=e3;rcases e3 with e3|e3|e3
   ·exact key _ e3 (.inl rfl)
   ·exact key _ e3 (.inr (.inl rfl))
   ·exact key _ e3 (.inr (.inr rfl))
  obtain⟨m,hn,hl⟩:=I.loc;have hvis:Vis X.env.scope y:=(ok.free _ (PySem.mem_of_lookup xl.1) rfl).elim (λk=>.inr (.inl k)) (λk=>.inr (.inr k));obtain⟨w,r,q⟩:=hl i y av e1 e2 hvis;refine⟨w,r,.inr ⟨xl.2,?_⟩⟩;obtain⟨c,h1,h2⟩:=look xl.1;rcases q with⟨k,_⟩|⟨_,c',e',z⟩
  ·have k:X.env.scope.names.lookup y=some .local:=k;rcases ok.free _ (PySem.mem_of_lookup xl.1) rfl with k'|k'<;>rw[show X.env.scope.names.lookup y=_ from k']at k<;>cases k
  ·rw[h2]at e';cases e';exact⟨c,h1,z.keeps kp⟩
 ·have e:ju.cells.lookup y=some c:=e;rcases mem e with⟨h1,_⟩|⟨_,z⟩
  ·obtain⟨w,z⟩:=I.cell y c h1;exact⟨w,z.keeps kp⟩
  ·exact⟨_,z⟩
 ·show H ju.locals=none
  rw[hL];exact I.hok.fresh (aw _)
 ·have e:ju.cells.lookup y=some c:=e;rcases mem e with⟨h1,_⟩|⟨h1,_⟩
  ·exact I.iO y c h1
  ·exact I.hok.fresh (jo h1)
 ·exact absurd (show p∈([]:Hg)++[]from hp) (by simp)
theorem LL{E:Hf}{D:xv}{xs:List V}{y:V}{v:fv}{Q:Hf}(I:Inv X jr σ H s)(hD:H D=some (.lst xs))(hz:xs.length<Fh)(r:RelV y v)
  (h:∀s',Inv X jr σ (upd H D (.lst (xs++[y]))) s'->Q .none s'):Fi (Fm X.prog X.w) X.A (call (.builtin "list.append") [.ref D,v]) Q E s:=by
 obtain⟨Bl,its,n,ri,e⟩:=I.hok D _ hD;have hl:=ri.length;refine append_at (hsz:=by rw[bj];omega) e λh' sb vt=>?_
 refine h {s with heap:=h'} (I.write (t':=s.toks) (by rw[hD];trivial) (.inl rfl) (λb u hb q=>(sb.2 b hb).trans q) ⟨_,vt⟩ ⟨by rw[aj];exact hz,its++[v],n+1,ri.append (.cons r .nil),?_⟩);rw[vt];simp
noncomputable def PTs(X:Cx)(pj:List Fz)(t:TT):Prop:=
 ∀(jr:Hg)(s:Fe)(σ:St)(H:Hp)(Q:Bool->Hp->Prop),Inv X jr σ H s->t σ H Q ->
  Fi (Fm X.prog X.w) X.A (forIn pj true λc r=>if r=true then do let ok<- isTrue c X.env (eval c X.env);pure (ForInStep.yield ok)else pure (ForInStep.yield r)) (TP X jr σ Q) X.xe s
def IU:TT:=λ_ H Q=>Q true H
theorem yO:PTs X [] IU:=λ_ _ _ H _ I h=>wpAny_tests_nil ⟨H,I,h⟩
theorem EM{c:Fz}{t:TT}(h:PT X c t):PTs X [c] t:=λjr s σ H Q I hw=>wpAny_tests_one (h jr s σ H Q I hw)
end
theorem yG{α:Type}{t:Sem α}{Q Q':α->Fe->Prop}{M:Model}{A:Ft}{E:Hf}{s:Fe}(h:Fi M A t Q (λ_ _=>False) s)(hQ:∀a s,Q a s->Q' a s):Fi M A t Q' E s:=wpAny_mono h hQ λ_ _ z=>False.elim z
theorem pW{prog:Fo}{w:Fw}{A:Ft}{R:Result->Fe->Prop}{s:Fe}{mj mw iter:Fz}{pj:List Fz}{scope:Gj}{pos:Pos}{it acc:fv}{env:Env}(I:Nat->Fe->Prop)
  (ku:∀n s,I n s->Fi (Fm prog w) A (pyNext it) (λr s₁=>match r with
   |none=>R (.ok .next) s₁
   |some v=>Fi (Fm prog w) A (letOwnedTupleGo mw it v) (λ_ s₁'=>Fi (Fm prog w) A (assign mw env v) (λ_ s₂=>
     Fi (Fm prog w) A (forIn pj true λc r=>if r=true then do let ok<- isTrue c env (eval c env);pure (ForInStep.yield ok)else pure (ForInStep.yield r)) (λok s₃=>
      if ok=true then Fi (Fm prog w) A (eval mj env) (λx s₄=>
       Fi (Fm prog w) A (call (.builtin "list.append") [acc,x]) (λ_ s₅=>∃m,m<n/\I m s₅) (notedBy (Fm prog w) A env λe s'=>R (.error e) s') s₄) (notedBy (Fm prog w) A env λe s'=>R (.error e) s') s₃
      else∃m,m<n/\I m s₃) (notedBy (Fm prog w) A env λe s'=>R (.error e) s') s₂) (notedBy (Fm prog w) A env λe s'=>R (.error e) s') s₁') (notedBy (Fm prog w) A env λe s'=>R (.error e) s') s₁) (notedBy (Fm prog w) A env λe s'=>R (.error e) s') s)
  (n:Nat) (h:I n s):
  codeAny (Fm prog w) A (.compLoop (.ListComp mj [⟨mw,iter,pj,0⟩] scope pos) 0 it acc env) R s:=by
 refine codeAny_loop rfl I (λn s hI=>?_) n h;show Fi _ A ((compTurn (.ListComp mj [⟨mw,iter,pj,0⟩] scope pos) 0 it acc env).onRaise (λx=>do noteFrame x env;theTreesLotGoes x)) _ _ s
 refine wpAny_noted ?_;rw[compTurn_list];refine aa (wpAny_standAt (aa (wpAny_mono (ku n s hI) (λr s₁ h₁=>?_) λ_ _ h'=>h')));cases r with
 |none=>exact ag h₁
 |some v=>
  refine aa (wpAny_mono h₁ (λ_ s₁' h₁'=>?_) λ_ _ h'=>h');refine aa (wpAny_mono h₁' (λ_ s₂ h₂=>aa (wpAny_mono h₂ (λok s₃ h₃=>?_) λ_ _ h'=>h')) λ_ _ h'=>h');cases ok with
  |false=>exact ag ⟨rfl,h₃⟩
  |true=>exact aa (aa (wpAny_mono h₃ (λx s₄ h₄=>aa (wpAny_mono h₄ (λ_ s₅ h₅=>ag (ag ⟨rfl,h₅⟩)) λ_ _ h'=>h')) λ_ _ h'=>h'))
section
variable {X:Cx}
noncomputable def tLc(wi:TI)(g:TG)(tt:TT)(te:TE)(vs:List Nat):TE:=λσ H Q=>wi σ H λJ H1=>∀D,H1 D=none->∃W:Nat->Nat->Hp->Prop,(∃m,W 0 m (upd H1 D (.lst [])))/\∀i m H,W i m H ->
 (J.stop i H/\Q (.ref D) H)\/(J.go i H/\∃Nx:Hp->Prop,(∀H',Nx H'->∃m',m'<m/\W (i+1) m' H')/\∀x H',J.yld i H x H'->g x (wipe σ vs) H' λσ2 H2=>wipe σ2 vs=wipe σ vs/\tt σ2 H2 λb H3=>
  if b=true then te σ2 H3 λy H4=>∃acc,H4 D=some (.lst acc)/\acc.length<Fh/\Nx (upd H4 D (.lst (acc++[y])))else Nx H3)
theorem EZ{jr:Hg}{s:Fe}{σ:St}{H:Hp}{Q:VK}{mj tg iter:Fz}{pj:List Fz}{scope:Gj}{own:List (Str×Nat)}{pos ko:Pos}{wi:TI}{g:TG}{tt:TT}{te:TE}{use:Option (fv->Sem Unit)}{Qf:Hf}
  (hc:X.calm=true) (hN:X.N.Nodup) (I:Inv X jr σ H s) (hi:PI X tg iter wi) (ok:qC X.N X.env.scope scope own)
  (hg:∀(s:Fe)(H:Hp)(C:xv)(cl:List (Str×xv))(fp:List xv),PG (X.blk s H scope (Gh scope cl C X.env) fp) tg g) (ht:∀(s:Fe)(H:Hp)(C:xv)(cl:List (Str×xv))(fp:List xv),PTs (X.blk s H scope (Gh scope cl C X.env) fp) pj tt)
  (he:∀(s:Fe)(H:Hp)(C:xv)(cl:List (Str×xv))(fp:List xv),PE (X.blk s H scope (Gh scope cl C X.env) fp) mj te) (hs:∀x,foldedSetIterable iter X.env x=pure x)
  (h:tLc wi g tt te (own.map (·.2)) σ H Q)
  (hRR:∀D C s' m H',Inv X jr σ H' s'->Q (.ref D) H'->s'.heap.Ns C m->oI X jr H' C->compPost (Fm X.prog X.w) X.A X.xe use Qf (.ref D) C (.ok .next) s'):
  Fi (Fm X.prog X.w) X.A (comprehension (.ListComp mj [⟨tg,iter,pj,0⟩] scope pos) scope X.env ko (newList []) false (eval iter X.env) use) Qf X.xe s:=by
 have lj:∀y∈scope.names,y.2=.free->∃c,X.env.cells.lookup y.1=some c:=λy hy e=>by
  rcases ok.free y hy e with k|k
  ·exact I.ok.has _ (.inl k)
  ·exact I.ok.has _ (.inr k)
 refine wpAny_comprehension_free (use:=use) rfl hs (oB lj) ok.kind (λy hy e=>by rw[ok.uniq y hy,e])
  (thn (hi jr s σ H _ I h) λxv s1 hx=>thn hx λitv s2 h2=>?_)
 obtain⟨it,fp,tn,J,H2,e,I2,T,zj,f2,q⟩:=h2;subst e;refine wpAny_newObj_type (rT ?_) (by show 0<=Fh;decide);generalize hD:s2.heap.objs.size=D;have hDn:H2 D=none:=I2.hok.fresh (iq hD);obtain⟨W,⟨m0,w0⟩,ku⟩:=q D hDn;generalize hs3:({s2 with heap:=s2.heap.push {cls:=.type "list",data:=.seq ([]:List fv).toArray}}:Fe)=s3;have I3:Inv X jr σ (upd H2 D (.lst [])) s3:=by rw[<- hs3];refine I2.laid (t':=s2.toks) (λb o e=>ak _ e) (iq hD) ⟨cn _,[],0,.nil,?_⟩;rw[<- hD];exact az _ rfl
 have h3:s3.heap=s2.heap.push {cls:=.type "list",data:=.seq ([]:List fv).toArray}:=by rw[<- hs3]
 have sz:∀b∈fp,b<s2.heap.objs.size:=λb hb=>by obtain⟨o,e,_⟩:=T.obj _ _ zj b hb;exact br e
 have f3:∀b∈fp,oI X jr (upd H2 D (.lst [])) b/\b<s3.heap.objs.size:=λb hb=>by have ka:=sz b hb;refine⟨⟨?_,(f2 b hb).2⟩,by rw[h3,fo];exact jq ka⟩;rw[aB (by rw[<- hD];exact cj ka)];exact(f2 b hb).1
 have Bf:tn 0 s3.heap:=T.keep _ _ _ zj λb _ o e=>by rw[h3];exact ak _ e
 have I4:=sL I3 ok hN f3;have pg:=hg s3 (upd H2 D (.lst [])) s3.heap.objs.size (Gb (s3.heap.objs.size+1) scope.names (bH X.env.cells scope.names [])) fp;have pt:=ht s3 (upd H2 D (.lst [])) s3.heap.objs.size (Gb (s3.heap.objs.size+1) scope.names (bH X.env.cells scope.names [])) fp;have pe:=he s3 (upd H2 D (.lst [])) s3.heap.objs.size (Gb (s3.heap.objs.size+1) scope.names (bH X.env.cells scope.names [])) fp;show codeAny _ _ (.compStart (.ListComp mj [⟨tg,iter,pj,0⟩] scope pos) 0 (.ref it) (.ref D) (Gh scope (Gb (s3.heap.objs.size+1) scope.names (bH X.env.cells scope.names [])) s3.heap.objs.size X.env)) (compPost (Fm X.prog X.w) X.A X.xe use Qf (.ref D) s3.heap.objs.size) {s3 with heap:=pushCells (s3.heap.push {cls:=.type "dict",data:=.dict #[]}) scope.names}
 have Cs:∀b∈fp,(upd H2 D (.lst [])) b=none:=λb hb=>(f3 b hb).1.1
 generalize hce:Gh scope (Gb (s3.heap.objs.size+1) scope.names (bH X.env.cells scope.names [])) s3.heap.objs.size X.env=ce at I4 pg pt pe ⊢;have cL:ce.locals=s3.heap.objs.size:=by subst hce;rfl
 generalize hH3:upd H2 D (.lst [])=H3 at I3 I4 pg pt pe w0 Cs f3;generalize hs4:({s3 with heap:=pushCells (s3.heap.push {cls:=.type "dict",data:=.dict #[]}) scope.names}:Fe)=s4 at I4 ⊢;have Ce:tn 0 s4.heap:=T.keep _ _ _ Bf λb _ o e=>by rw[<- hs4];exact pushCells_keeps _ _ _ _ (ak _ e)
 have ny:∀{σ':St}{H':Hp}{s':Fe},Inv (X.blk s3 H3 scope ce fp) [] σ' H' s'->(∀b∈fp,H' b=none)->∀b∈fp,oI (X.blk s3 H3 scope ce fp) [] H' b:=λ{σ' H' s'} I' hn b hb=>
  ⟨hn b hb,(I'.ok.exf b hb).1,I'.ok.DY b hb,.inl hb,λx c e=>(I'.ok.exf b hb).2 x c e,λp hp=>absurd (show p∈([]:Hg)++[]from hp) (by simp)⟩
 have loop:codeAny (Fm X.prog X.w) X.A (.compLoop (.ListComp mj [⟨tg,iter,pj,0⟩] scope pos) 0 (.ref it) (.ref D) ce) (compPost (Fm X.prog X.w) X.A X.xe use Qf (.ref D) s3.heap.objs.size) s4:=by
  refine pW (λn s'=>∃i H',Inv (X.blk s3 H3 scope ce fp) [] (wipe σ (own.map (·.2))) H' s'/\tn i s'.heap/\(∀b∈fp,H' b=none)/\W i n H') ?_ m0 ⟨0,H3,I4,Ce,Cs,w0⟩;rintro n s5 ⟨i,H5,I5,wq,n5,w5⟩;rcases ku i n H5 w5 with⟨stop,qq⟩|⟨go,Nx,hNx,step⟩
  ·have td:=T.done (X.blk s3 H3 scope ce fp) rfl rfl rfl hc i [] s5 _ H5 (λ_ _=>False) I5 (ny I5 n5) wq stop;refine yG td λr s6 ⟨hr,I6⟩=>?_
   subst hr;have I7:Inv X jr σ H5 s6:=I3.FN (ch:=fp) I6.os I6.base I6.hok I6.bare λb hb=>⟨(f3 b hb).1.2.2.2.1,(f3 b hb).1.2.1,(f3 b hb).1.2.2.2.2.1,(f3 b hb).1.2.2.2.2.2⟩
   have nC:H5 s3.heap.objs.size=none:=by have z:H5 ce.locals=none:=I6.free;rw[cL]at z;exact z
   obtain⟨m,hn,_⟩:=I6.loc;have hn:s6.heap.Ns ce.locals m:=hn;rw[cL]at hn;exact hRR D s3.heap.objs.size s6 m H5 I7 qq hn (I3.DU (aw _) nC)
  ·have ti:=T.item (X.blk s3 H3 scope ce fp) rfl rfl rfl hc i [] s5 _ H5 (λ_ _=>False) I5 (ny I5 n5) wq go;refine yG ti λr s6 ⟨u,hr,h6⟩=>?_
   subst hr;refine yG h6 λ_ s7 ⟨x,H7,I7,r7,y7,zi,n7⟩=>?_
   have I7':=I7.pinned (ny I7 n7) (T.obj _ _ zi);refine yG (pg _ s7 _ H7 x u _ I7' r7 (step x H7 y7)) λ_ s8 ⟨σ8,H8,I8,Cz,q8⟩=>?_
   refine yG (pt _ s8 σ8 H8 _ I8 q8) λb s9 ⟨H9,I9,q9⟩=>?_
   have fin:∀{s':Fe}{H':Hp},Inv (X.blk s3 H3 scope ce fp) ([]++qM fp s7.heap) σ8 H' s'->Nx H'->∃m,m<n/\∃i H',Inv (X.blk s3 H3 scope ce fp) [] (wipe σ (own.map (·.2))) H' s'/\tn i s'.heap/\(∀b∈fp,H' b=none)/\W i m H':=λ{s' H'} I' nx=>by
    obtain⟨m',hm,w'⟩:=hNx H' nx;have um:∀b∈fp,∀o,s7.heap.get? b=some o->s'.heap.get? b=some o/\H' b=none:=λb hb o e=>
     let z:=I'.pin (b,o) (bg _ (bg _ (jZ hb e)))
     ⟨z.1,z.2.1⟩
    have hl:(wipe σ (own.map (·.2))).length=σ8.length:=by rw[<- Cz,iL]
    refine⟨m',hm,i+1,H',(I'.kZ (jr:=[])).weak hl (λj v e=>?_),T.keep _ _ _ zi λb hb o e=>(um b hb o e).1,λb hb=>?_,w'⟩
    ·rw[<- Cz]at e;exact(mH e).1
    ·obtain⟨o,e,_⟩:=T.obj _ _ zi b hb;exact(um b hb o e).2
   cases b with
   |false=>simp only[dc,if_false]at q9 ⊢;exact fin I9 q9
   |true=>
    simp only[if_true]at q9 ⊢;refine yG (pe _ s9 σ8 H9 _ I9 q9) λz s10 ⟨yv,H10,I10,r10,acc,Ay,Ab,nx⟩=>?_
    exact LL (X:=X.blk s3 H3 scope ce fp) I10 Ay Ab r10 λs11 I11=>fin I11 nx
 exact codeAny_compStart_list loop (T.self X.A 0 _ _ _ Ce loop)
theorem JK{mj tg iter:Fz}{pj:List Fz}{scope:Gj}{own:List (Str×Nat)}{pos:Pos}{wi:TI}{g:TG}{tt:TT}{te:TE}(hc:X.calm=true)(hN:X.N.Nodup)(hi:PI X tg iter wi)(ok:qC X.N X.env.scope scope own)
  (hg:∀(s:Fe)(H:Hp)(C:xv)(cl:List (Str×xv))(fp:List xv),PG (X.blk s H scope (Gh scope cl C X.env) fp) tg g) (ht:∀(s:Fe)(H:Hp)(C:xv)(cl:List (Str×xv))(fp:List xv),PTs (X.blk s H scope (Gh scope cl C X.env) fp) pj tt)
  (he:∀(s:Fe)(H:Hp)(C:xv)(cl:List (Str×xv))(fp:List xv),PE (X.blk s H scope (Gh scope cl C X.env) fp) mj te) (hs:∀x,foldedSetIterable iter X.env x=pure x:=by intro _;rfl):
  PE X (.ListComp mj [⟨tg,iter,pj,0⟩] scope pos) (tLc wi g tt te (own.map (·.2))):=by
 intro jr s σ H Q I h;rw[eval_ListComp];refine EZ hc hN I hi ok hg ht he hs h λD C s' m H' I' q hn f=>⟨m,hn,λyb sb=>?_⟩
 obtain⟨f0,f1,f2,f3,f4,f5⟩:=f;exact⟨.ref D,H',I'.turned (t':=s'.toks) (λb o hb e=>(sb.2 b hb).trans e) f0 f1 f3 f4 f5,rfl,q⟩
theorem A8{i:Nat}{y:Str}{py:Pos}{mj tg iter:Fz}{pj:List Fz}{scope:Gj}{own:List (Str×Nat)}{pos uj:Pos}{wi:TI}{g:TG}{tt:TT}{te:TE}(hc:X.calm=true)(hN:X.N.Nodup)(hy:X.N[i]? =some y)(uz:X.env.scope.names.lookup y=some .local)
  (hsw:swapsWith (.ListComp mj [⟨tg,iter,pj,0⟩] scope pos) (some (.Name y py)) uj.line X.env=pure true) (hi:PI X tg iter wi) (ok:qC X.N X.env.scope scope own)
  (hg:∀(s:Fe)(H:Hp)(C:xv)(cl:List (Str×xv))(fp:List xv),PG (X.blk s H scope (Gh scope cl C X.env) fp) tg g) (ht:∀(s:Fe)(H:Hp)(C:xv)(cl:List (Str×xv))(fp:List xv),PTs (X.blk s H scope (Gh scope cl C X.env) fp) pj tt)
  (he:∀(s:Fe)(H:Hp)(C:xv)(cl:List (Str×xv))(fp:List xv),PE (X.blk s H scope (Gh scope cl C X.env) fp) mj te) (hs:∀x,foldedSetIterable iter X.env x=pure x:=by intro _;rfl):
  PS X (.Assign [.Name y py] (.ListComp mj [⟨tg,iter,pj,0⟩] scope pos) uj) (CC (tLc wi g tt te (own.map (·.2))) (jJ i)):=by
 intro jr s σ H D I h;rw[exec_Assign_Name_used _ _ _ _ hsw];refine aa (wpAny_standAt (aa ?_));show Fi _ X.A (do let _<- comprehension (.ListComp mj [⟨tg,iter,pj,0⟩] scope pos) scope X.env (firstIterPos [⟨tg,iter,pj,0⟩] pos) (newList []) false (eval iter X.env) (some (assign (.Name y py) X.env))) _ _ s
 have h:tLc wi g tt te (own.map (·.2)) σ H (λx H1=>jJ i x σ H1 D.nx):=h;refine aa (thn (EZ (Qf:=λ_ s'=>SP X jr D .next s') hc hN I hi ok hg ht he hs h λL C s' m H' I' q hn f=>?_) λ_ s' hq=>ag (ag hq));show Fi _ _ (assign (.Name y py) X.env (.ref L)) _ _ _
 refine wpAny_assign_Name (qH (v:=V.ref L) I' hN hy (.inl uz) rfl (λs2 I2 ⟨a,sb,ha⟩=>?_) (.inr uz));obtain⟨f0,f1,f2,f3,f4,f5⟩:=f;have haC:C≠a:=by
  rcases ha with z|z
  ·rw[z];exact f1
  ·exact λe=>f4 y a z e.symm
 refine⟨m,hn.sameBut sb haC,λh3 sb3=>?_⟩;exact⟨_,H',I2.turned (t':=s2.toks) (λb o hb e=>(sb3.2 b hb).trans e) f0 f1 f3 f4 f5,q⟩
theorem sV{mj:Fz}{gs:List Comprehension}{scope:Gj}{pos py:Pos}{y:Str}{l:Nat}{env:Env}(hk:env.scope.kind=.function)(hy:env.scope.names.lookup y=some .local)(hl:(py.line==pos.line)=true)
  (ha:(scope.names.any λ(n,k)=>n==y&& (k== .local||k== .cell))=false):swapsWith (.ListComp mj gs scope pos) (some (.Name y py)) l env=pure true:=by
 have ky:env.kindOf y=some .local:=hy;have hb:env.blockKind=.function:=by unfold Env.blockKind;rw[hk];rfl
 unfold swapsWith;simp only[hb,ky,ha,Fz.pos,hl];rfl
end
theorem pD{K:Fg}{a:xv}{xs:List V}{g:TG}{tt:TT}{te:TE}{vs:List Nat}{σ:St}{H1:Hp}{D:xv}{Qd:Hp->Prop}(Pv:Nat->Hp->Prop)(h0:Pv 0 (upd H1 D (.lst [])))(hl:∀i H,i<=xs.length->Pv i H->SqL K H a xs)
  (hs:∀i x H,xs[i]? =some x->Pv i H->g x (wipe σ vs) H λσ2 H2=>wipe σ2 vs=wipe σ vs/\tt σ2 H2 λb H3=>
   if b=true then te σ2 H3 λy H4=>∃acc,H4 D=some (.lst acc)/\acc.length<Fh/\Pv (i+1) (upd H4 D (.lst (acc++[y])))else Pv (i+1) H3) (hd:∀H,Pv xs.length H->Qd H):
  ∃W:Nat->Nat->Hp->Prop,(∃m,W 0 m (upd H1 D (.lst [])))/\∀i m H,W i m H ->
   ((Itl K a).stop i H/\Qd H)\/((Itl K a).go i H/\∃Nx:Hp->Prop,(∀H',Nx H'->∃m',m'<m/\W (i+1) m' H')/\∀x H',(Itl K a).yld i H x H'->g x (wipe σ vs) H' λσ2 H2=>wipe σ2 vs=wipe σ vs/\tt σ2 H2 λb H3=>
    if b=true then te σ2 H3 λy H4=>∃acc,H4 D=some (.lst acc)/\acc.length<Fh/\Nx (upd H4 D (.lst (acc++[y])))else Nx H3):=by
 refine⟨λi m H=>m=xs.length - i/\i<=xs.length/\Pv i H,⟨xs.length,by simp,cn _,h0⟩,?_⟩;rintro i m H ⟨rfl,hi,p⟩;have q:=hl i H hi p;by_cases ka:i<xs.length
 ·refine .inr ⟨⟨xs,xs[i],q,by simp[ka]⟩,Pv (i+1),λH' p'=>⟨xs.length - (i+1),Hc,rfl,ka,p'⟩,λx H' y=>?_⟩;obtain⟨e,y⟩:=y;subst e;exact hs i x _ (y xs q) p
 ·have e:i=xs.length:=Hc
  subst e;exact .inl ⟨⟨xs,q,aw _⟩,hd H p⟩
theorem PJ{K:Fg}{a:xv}{xs:List V}{g:TG}{tt:TT}{te:TE}{vs:List Nat}{σ:St}{H1:Hp}{D:xv}{Qd:Hp->Prop}(Pv:Nat->Hp->Prop)(h0:Pv 0 (upd H1 D (.lst [])))(hl:∀i H,i<=xs.length->Pv i H->SqT K H a xs)
  (hs:∀i x H,xs[i]? =some x->Pv i H->g x (wipe σ vs) H λσ2 H2=>wipe σ2 vs=wipe σ vs/\tt σ2 H2 λb H3=>
   if b=true then te σ2 H3 λy H4=>∃acc,H4 D=some (.lst acc)/\acc.length<Fh/\Pv (i+1) (upd H4 D (.lst (acc++[y])))else Pv (i+1) H3) (hd:∀H,Pv xs.length H->Qd H):
  ∃W:Nat->Nat->Hp->Prop,(∃m,W 0 m (upd H1 D (.lst [])))/\∀i m H,W i m H ->
   ((Itt K a).stop i H/\Qd H)\/((Itt K a).go i H/\∃Nx:Hp->Prop,(∀H',Nx H'->∃m',m'<m/\W (i+1) m' H')/\∀x H',(Itt K a).yld i H x H'->g x (wipe σ vs) H' λσ2 H2=>wipe σ2 vs=wipe σ vs/\tt σ2 H2 λb H3=>
    if b=true then te σ2 H3 λy H4=>∃acc,H4 D=some (.lst acc)/\acc.length<Fh/\Nx (upd H4 D (.lst (acc++[y])))else Nx H3):=by
 refine⟨λi m H=>m=xs.length - i/\i<=xs.length/\Pv i H,⟨xs.length,by simp,cn _,h0⟩,?_⟩;rintro i m H ⟨rfl,hi,p⟩;have q:=hl i H hi p;by_cases ka:i<xs.length
 ·refine .inr ⟨⟨xs,xs[i],q,by simp[ka]⟩,Pv (i+1),λH' p'=>⟨xs.length - (i+1),Hc,rfl,ka,p'⟩,λx H' y=>?_⟩;obtain⟨e,y⟩:=y;subst e;exact hs i x _ (y xs q) p
 ·have e:i=xs.length:=Hc
  subst e;exact .inl ⟨⟨xs,q,aw _⟩,hd H p⟩
noncomputable def W6(N:List Str)(sc scope:Gj)(own:List (Str×Nat)):Bool:=
 (match scope.kind with| .function=>true|_=>false)&& (scope.names.all λy=>decide (scope.names.lookup y.1=some y.2))&& (own.all λp=>decide (N[p.2]? =some p.1))&&
  (scope.names.all λy=>match y.2 with
   | .free=>(match sc.names.lookup y.1 with|some .cell=>true|some .free=>true|_=>false)
   | .local=>decide (y.1∈own.map (·.1))||decide (y.1∉N)
   | .cell=>decide (y.1∈own.map (·.1))||decide (y.1∉N)
   |_=>true)
theorem gH{N:List Str}{sc scope:Gj}{own:List (Str×Nat)}(h:W6 N sc scope own=true):qC N sc scope own:=by
 unfold W6 at h;simp only[bw,ia,decide_eq_true_eq]at h;obtain⟨⟨⟨h1,h2⟩,h3⟩,h4⟩:=h;refine⟨?_,h2,h3,λy hy e=>?_,λy hy e=>?_⟩
 ·split at h1
  ·assumption
  ·cases h1
 ·have q:=h4 y hy;simp only[e]at q;split at q<;>first|exact .inl (by assumption)|exact .inr (by assumption)|cases q
 ·have q:=h4 y hy;rcases e with e|e<;>(simp only[e,gx,decide_eq_true_eq]at q;exact q)
section
variable {κ:Type} [DecidableEq κ]
noncomputable def tJ(kvs:List (κ×V))(k:κ):Option V:=(kvs.find? λkv=>decide (kv.1=k)).map (·.2)
noncomputable def putK(kvs:List (κ×V))(k:κ)(v:V):List (κ×V):=
 if(kvs.any λkv=>decide (kv.1=k))=true then kvs.map (λkv=>if kv.1=k then(kv.1,v)else kv)else kvs++[(k,v)]
theorem oM{p:κ×V}{r:List (κ×V)}{k:κ}(e:p.1=k):tJ (p::r) k=some p.2:=by simp[tJ,iu,e]
theorem oN{p:κ×V}{r:List (κ×V)}{k:κ}(e:¬p.1=k):tJ (p::r) k=tJ r k:=by simp[tJ,iu,e]
theorem zR(k:κ):∀kvs:List (κ×V),(kvs.any λkv=>decide (kv.1=k))=(tJ kvs k).isSome
 |[]=>rfl
 |p::r=>by
  rw[any_cons];by_cases e:p.1=k
  ·simp only[oM e,decide_eq_true e,Bool.true_or,Option.isSome_some]
  ·rw[oN e,decide_eq_false e,Bool.false_or];exact zR k r
theorem lQ(kvs:List (κ×V))(k:κ)(v:V):(putK kvs k v).length<=kvs.length+1:=by
 unfold putK;split
 ·rw[ai];omega
 ·rw[aj,bo,fh];omega
theorem oH.jH{o:Option V}{u:Option fv}(r:oH o u):o.isSome=u.isSome:=by
 cases o with
 |none=>cases u with
  |none=>rfl
  |some _=>exact(show False from r).elim
 |some _=>cases u with
  |none=>exact(show False from r).elim
  |some _=>rfl
theorem oH.getD{o:Option V}{u:Option fv}{d:V}{d':fv}(r:oH o u)(rd:RelV d d'):RelV (o.getD d) (u.getD d'):=by
 cases o with
 |none=>cases u with
  |none=>exact rd
  |some _=>exact(show False from r).elim
 |some _=>cases u with
  |none=>exact(show False from r).elim
  |some _=>exact r
theorem KV.val{kvs:List (κ×V)}{vs:List (κ×fv)}(r:KV kvs vs)(k:κ):oH (tJ kvs k) (valueAt vs k):=by
 unfold KV at r;induction r with
 |nil=>exact True.intro
 | @cons p q ps qs h t ih=>
  obtain⟨h1,h2⟩:=h;by_cases e:p.1=k
  ·have e':q.1=k:=h1.symm.trans e;have b:valueAt (q::qs) k=some q.2:=by simp[valueAt,iu,e']
   rw[oM e,b];exact h2
  ·have e':¬q.1=k:=λz=>e (h1.trans z)
   have b:valueAt (q::qs) k=valueAt qs k:=by simp[valueAt,iu,e']
   rw[oN e,b];exact ih
theorem KV.any{kvs:List (κ×V)}{vs:List (κ×fv)}(r:KV kvs vs)(k:κ):(kvs.any λkv=>decide (kv.1=k))=vs.any λkv=>decide (kv.1=k):=by
 unfold KV at r;induction r with
 |nil=>rfl
 |cons h t ih=>rw[any_cons,any_cons,ih,h.1]
theorem KV.OX{kvs:List (κ×V)}{vs:List (κ×fv)}(r:KV kvs vs)(k:κ){y:V}{u:fv}(ry:RelV y u):
  KV (kvs.map λkv=>if kv.1=k then(kv.1,y)else kv) (vs.map λkv=>if kv.1=k then(kv.1,u)else kv):=by
 unfold KV at r ⊢;induction r with
 |nil=>exact .nil
 | @cons p q ps qs h t ih=>
  rw[bh,bh];refine .cons ?_ ih;obtain⟨h1,h2⟩:=h;by_cases e:p.1=k
  ·rw[ah e,ah (h1.symm.trans e)];exact⟨h1,ry⟩
  ·rw[af e,af (λz=>e (h1.trans z))];exact⟨h1,h2⟩
theorem KV.put{kvs:List (κ×V)}{vs:List (κ×fv)}(r:KV kvs vs)(k:κ){y:V}{u:fv}(ry:RelV y u):KV (putK kvs k y) (stored vs k u):=by
 unfold putK stored;rw[r.any k];by_cases e:(vs.any λkv=>decide (kv.1=k))=true
 ·rw[ah e,ah e];exact r.OX k ry
 ·rw[af e,af e];exact Paired.snoc r ⟨rfl,ry⟩
theorem KV.length{kvs:List (κ×V)}{vs:List (κ×fv)}(r:KV kvs vs):kvs.length=vs.length:=Paired.length r
end
theorem uS{P:Fo}{w:Fw}{k:Key}{u:fv}(r:RelV (kV k) u):(bX P w).is k u=true:=by
 cases k with
 |inl i=>obtain⟨t,e⟩:=(show∃t,u=fv.int i t from r);subst e;exact AQ P w i t
 |inr x=>obtain⟨t,e⟩:=(show∃t,u=fv.str x t from r);subst e;exact AO P w x t
theorem xG{P:Fo}{w:Fw}:∀{ks:List Key}{us:List fv},Vals (ks.map kV) us->ItemsAre (bX P w) ks us
 |[],_,r=>by rw[je]at r;cases r;exact .nil
 |k::ks,_,r=>by
  rw[bh]at r;cases r with
  |cons h t=>exact .cons (uS h) (xG t)
noncomputable abbrev KT(H:Hp):List (List Key×V)->List (List Key×xv×fv)->Prop:=Paired λp q=>p.1=q.1/\H q.2.1=some (.tup (p.1.map kV))/\RelV p.2 q.2.2
theorem KT.val{H:Hp}{kvs:List (List Key×V)}{xs:List (List Key×xv×fv)}(r:KT H kvs xs)(k:List Key):oH (tJ kvs k) ((atKey xs k).map (·.2)):=by
 induction r with
 |nil=>exact True.intro
 | @cons p q ps qs h t ih=>
  obtain⟨h1,_,h2⟩:=h;by_cases e:p.1=k
  ·have e':q.1=k:=h1.symm.trans e;have b:atKey (q::qs) k=some q.2:=by simp[atKey,iu,e']
   rw[oM e,b];exact h2
  ·have e':¬q.1=k:=λz=>e (h1.trans z)
   have b:atKey (q::qs) k=atKey qs k:=by simp[atKey,iu,e']
   rw[oN e,b];exact ih
theorem KT.OX{H:Hp}{kvs:List (List Key×V)}{xs:List (List Key×xv×fv)}(r:KT H kvs xs)(k:List Key){y:V}{u:fv}(ry:RelV y u):
  KT H (kvs.map λkv=>if kv.1=k then(kv.1,y)else kv) (xs.map (putAt k u)):=by
 induction r with
 |nil=>exact .nil
 | @cons p q ps qs h t ih=>
  rw[bh,bh];refine .cons ?_ ih;obtain⟨h1,h2,h3⟩:=h;unfold putAt;by_cases e:p.1=k
  ·rw[ah e,ah (h1.symm.trans e)];exact⟨h1,h2,ry⟩
  ·rw[af e,af (λz=>e (h1.trans z))];exact⟨h1,h2,h3⟩
theorem KT.put{H:Hp}{kvs:List (List Key×V)}{xs:List (List Key×xv×fv)}(r:KT H kvs xs)(k:List Key){b:xv}{y:V}{u:fv}(hb:H b=some (.tup (k.map kV)))(ry:RelV y u):
  KT H (putK kvs k y) (storedH xs k b u):=by
 have e:(kvs.any λkv=>decide (kv.1=k))=(atKey xs k).isSome:=by rw[zR,(r.val k).jH,Option.isSome_map]
 unfold putK storedH;rw[e];by_cases q:(atKey xs k).isSome=true
 ·rw[ah q,ah q];exact r.OX k ry
 ·rw[af q,af q];exact Paired.snoc r ⟨rfl,hb,ry⟩
theorem KT.keeps{H H':Hp}{kvs:List (List Key×V)}{xs:List (List Key×xv×fv)}(r:KT H kvs xs)(ht:∀b ys,H b=some (.tup ys)->H' b=some (.tup ys)):KT H' kvs xs:=
 Paired.MX r λ_ _ z=>⟨z.1,ht _ _ z.2.1,z.2.2⟩
section
variable {P:Fo}{w:Fw}{H:Hp}{h:Fp}{a:xv}
theorem JB{u:HO}(ok:HOk P w H h)(e:Rd H a u):cS P w H h a u:=e.ok ok
theorem sH{kvs:List (Key×V)}(ok:HOk P w H h)(e:Rd H a (.dK kvs)):kvs.length<=Fh/\(a==Fy)=false/\∃vs,KV kvs vs/\h.DictOf (bX P w) a vs:=
 show cS P w H h a (.dK kvs)from JB ok e
theorem W4{kvs:List (Key×V)}(ok:HOk P w H h)(e:H a=some (.dK kvs)):kvs.length<=Fh/\(a==Fy)=false/\∃vs,KV kvs vs/\h.DictOf (bX P w) a vs:=sH ok (.inl e)
theorem lS{ks:List Key}(ok:HOk P w H h)(e:H a=some (.tup (ks.map kV))):(tupleKind (bX P w)).is h ks a:=by obtain⟨_,its,r,o,h1,h2,n,h3⟩:=(show cS P w H h a (.tup (ks.map kV))from ok a _ e);exact⟨o,its.toArray,n,h1,h2,h3,by simpa using xG r⟩
theorem pS{kvs:List (List Key×V)}(ok:HOk P w H h)(e:Rd H a (.dT kvs)):kvs.length<=Fh/\(a==Fy)=false/\
  ∃xs,KT H kvs xs/\h.DictOfH (tupleKind (bX P w)) a xs:=by
 obtain⟨z,y,xs,r,o,es,ep,h1,h2,h3,h4,h5⟩:=(show cS P w H h a (.dT kvs)from JB ok e);refine⟨z,y,xs,r,o,es,ep,h1,h2,h3,h4,λx hx=>?_,h5⟩;have all:∀{l:List (List Key×V)}{m:List (List Key×xv×fv)},KT H l m->∀x∈m,(tupleKind (bX P w)).is h x.1 x.2.1:=by
  intro l m q;induction q with
  |nil=>intro x hx;exact nomatch hx
  | @cons p q ps qs hq t ih=>
   intro x hx;rcases aq.mp hx with e|hx
   ·subst e;exact lS ok (by rw[<- hq.1];exact hq.2.1)
   ·exact ih x hx
 exact all r x hx
theorem W3{kvs:List (List Key×V)}(ok:HOk P w H h)(e:H a=some (.dT kvs)):kvs.length<=Fh/\(a==Fy)=false/\
  ∃xs,KT H kvs xs/\h.DictOfH (tupleKind (bX P w)) a xs:=pS ok (.inl e)
end
noncomputable def mG(H:Hp)(a:xv)(y:V)(r:Option V):Prop:=
 (∃kvs k,Rd H a (.dK kvs)/\y=kV k/\r=tJ kvs k)\/∃kvs k b,Rd H a (.dT kvs)/\y=.ref b/\H b=some (.tup (k.map kV))/\r=tJ kvs k
noncomputable def O6(H:Hp)(a:xv)(y v:V)(H':Hp):Prop:=
 (∃kvs k,H a=some (.dK kvs)/\y=kV k/\kvs.length<Fh/\H'=upd H a (.dK (putK kvs k v)))\/
 ∃kvs k b,H a=some (.dT kvs)/\y=.ref b/\H b=some (.tup (k.map kV))/\kvs.length<Fh/\H'=upd H a (.dT (putK kvs k v))
section
variable {X:Cx}{jr:Hg}{σ:St}{H:Hp}{s:Fe}{a:xv}{y v:V}{u r:fv}{o:Option V}{A:Ft}{E:Hf}
theorem Inv.big(I:Inv X jr σ H s):Fy<s.heap.objs.size:=by have h:Fl<s.heap.objs.size:=(I.mod.glob.keeps I.bk).lt;exact Nat.lt_trans Hd h
theorem HV{Q:Hf}(hu:A.units+1<cLine)(I:Inv X jr σ H s)(g:mG H a y (some v))(ry:RelV y u)(h:∀w' s',Inv X jr σ H s'->RelV v w'->Q w' s'):
  Fi (Fm X.prog X.w) A (getItem (.ref a) u) Q E s:=by
 rcases g with⟨kvs,k,e,ey,l⟩|⟨kvs,k,b,e,ey,eb,l⟩
 ·subst ey;obtain⟨z,hd,vs,rel,dd⟩:=sH I.hok e;obtain⟨w',hw,qz⟩:=oH.some_of (v:=v) (o:=valueAt vs k) (by rw[l];exact rel.val k);exact wpAny_getItem_of (uS ry) dd.mapOf hw (h w' _ (I.tok _) qz)
 ·subst ey;cases (show u=fv.ref b from ry);obtain⟨z,hd,xs,rel,dd⟩:=pS I.hok e;obtain⟨w',hw,qz⟩:=oH.some_of (v:=v) (o:=(atKey xs k).map (·.2)) (by rw[l];exact rel.val k);obtain⟨p,hp,hp2⟩:=Option.map_eq_some_iff.mp hw;refine wpAny_getItem_heap (tupleKind_room_in1 hu) (lS I.hok eb) dd hp ?_;rw[hp2];exact h w' _ (I.tok _) qz
theorem a0P{Q:Hf}(hu:A.units+1<cLine)(I:Inv X jr σ H s)(g:mG H a y o)(ry:RelV y u)(h:∀s',Inv X jr σ H s'->Q (.bool o.isSome) s'):
  Fi (Fm X.prog X.w) A (compareOp .In u (.ref a)) Q E s:=by
 rcases g with⟨kvs,k,e,ey,l⟩|⟨kvs,k,b,e,ey,eb,l⟩
 ·subst ey;obtain⟨z,hd,vs,rel,dd⟩:=sH I.hok e;refine wpAny_in_of (uS ry) hd dd.mapOf ?_;rw[<- (rel.val k).jH,<- l];exact h _ (I.tok _)
 ·subst ey;cases (show u=fv.ref b from ry);obtain⟨z,hd,xs,rel,dd⟩:=pS I.hok e;refine wpAny_in_heap (tupleKind_room_in1 hu) (lS I.hok eb) hd dd ?_;have q:=(rel.val k).jH;rw[Option.isSome_map]at q;rw[<- q,<- l];exact h _ (I.tok _)
theorem NT{Q:Hf}(hu:A.units+1<cLine)(I:Inv X jr σ H s)(g:mG H a y o)(ry:RelV y u)(h:∀s',Inv X jr σ H s'->Q (.bool (!o.isSome)) s'):
  Fi (Fm X.prog X.w) A (compareOp .NotIn u (.ref a)) Q E s:=by
 rcases g with⟨kvs,k,e,ey,l⟩|⟨kvs,k,b,e,ey,eb,l⟩
 ·subst ey;obtain⟨z,hd,vs,rel,dd⟩:=sH I.hok e;refine wpAny_notIn_of (uS ry) hd dd.mapOf ?_;rw[<- (rel.val k).jH,<- l];exact h _ (I.tok _)
 ·subst ey;cases (show u=fv.ref b from ry);obtain⟨z,hd,xs,rel,dd⟩:=pS I.hok e;refine wpAny_notIn_heap (tupleKind_room_in1 hu) (lS I.hok eb) hd dd ?_;have q:=(rel.val k).jH;rw[Option.isSome_map]at q;rw[<- q,<- l];exact h _ (I.tok _)
theorem zH{h':Fp}{t':Nat}{ob:HO}(I:Inv X jr σ H s)(mu:Mut (H a))(hs:Fp.SameBut a s.heap h')(he:∃q,h'.get? a=some q)(new:cS X.prog X.w (upd H a ob) h' a ob):
  Inv X jr σ (upd H a ob) {s with heap:=h',toks:=t'}:=
 I.write (x:=a) (e:=a) mu (.inl rfl) (λb q hb z=>(hs.2 b hb).trans z) he new
theorem Q9{P:Fo}{w:Fw}{H':Hp}{h':Fp}{kvs:List (Key×V)}{vs:List (Key×fv)}(z:kvs.length<=Fh)(hd:(a==Fy)=false)(rel:KV kvs vs)(dd:h'.DictOf (bX P w) a vs):
  cS P w H' h' a (.dK kvs):=⟨z,hd,vs,rel,dd⟩
theorem HU{H':Hp}{Q:Unit->Fe->Prop}(hu:A.units+1<cLine)(I:Inv X jr σ H s)(g:O6 H a y v H')(ry:RelV y u)(rv:RelV v r)(h:∀s',Inv X jr σ H' s'->Q () s'):
  Fi (Fm X.prog X.w) A (setItem (.ref a) u r) Q E s:=by
 rcases g with⟨kvs,k,e,ey,l,eH⟩|⟨kvs,k,b,e,ey,eb,l,eH⟩
 ·subst ey eH;obtain⟨z,hd,vs,rel,dd⟩:=W4 I.hok e;have hz:vs.length<=Fh:=by rw[<- rel.length];exact z
  have hl:(putK kvs k v).length<=Fh:=by have:=lQ kvs k v;omega
  refine wpAny_setItem_pairs (hsz:=hz) (uS ry) dd λh' wm hs=>h _ ?_
  have he:∃q,h'.get? a=some q:=let⟨q,_,_,hq,_⟩:=wm;⟨q,hq⟩
  exact zH I (by rw[e];exact True.intro) hs he (Q9 hl hd (rel.put k rv) wm)
 ·subst ey eH;cases (show u=fv.ref b from ry);obtain⟨z,hd,xs,rel,dd⟩:=W3 I.hok e;have hz:xs.length<=Fh:=by rw[<- Paired.length rel];exact z
  have hl:(putK kvs k v).length<=Fh:=by have:=lQ kvs k v;omega
  refine wpAny_setItem_heap (hsz:=hz) (tupleKind_room_in1 hu) (lS I.hok eb) dd λh' wm hs=>h _ ?_
  obtain⟨q,es,ep,hq,h2,h3,h4,_,h5⟩:=wm;refine zH I (by rw[e];exact True.intro) hs ⟨q,hq⟩ ⟨hl,hd,_,(rel.put k eb rv).keeps λc ys ec=>?_,q,es,ep,hq,h2,h3,h4,h5⟩;rw[aB (fK ec e (λz=>nomatch z))];exact ec
end
noncomputable def WB(i:Fz):Prop:=∀ov iv,subscripted i false ov iv=operate [ov,iv] (getItem ov iv)
theorem M4{prog:Fo}{w:Fw}{A:Ft}{E:Hf}{s:Fe}{env:Env}{jz slice:Fz}{pos:Pos}{T id:String}{Q:Hf}
  (hl:typeLookup (.type T) "__getitem__" =pure (some (.builtin id))) (hs:WB slice)
  (h:Fi (Fm prog w) A (eval jz env) (λo s₁=>Fi (Fm prog w) A (eval slice env) (λi s₂=>s₂.TypeIs o T/\Fi (Fm prog w) A (getItem o i) Q E s₂) E s₁) E s):
  Fi (Fm prog w) A (eval (.Subscript jz slice pos) env) Q E s:=by
 refine Subscript_ (wpAny_mono h (λo s₁ h₁=>wpAny_mono h₁ (λi s₂ h₂=>?_) λ_ _ x=>x) λ_ _ x=>x);obtain⟨hT,h₂⟩:=h₂;unfold subscriptTail;refine aa ?_;rw[getitemInPython_of_ne hT.not_modules];refine aa (wpAny_specialOf hT hl ?_);have fin:Fi (Fm prog w) A (subscripted slice false o i) (λr s₃=>Fi (Fm prog w) A (letTemporaryGo jz o r>>=λ_=>pure r) Q E s₃) E s₂:=by rw[hs o i];exact wpAny_operating (wpAny_mono h₂ (λr s₃ h₃=>aa (wpAny_letTemporaryGo (ag h₃))) λ_ _ x=>x)
 first
  |exact ag (aa fin)
  |exact aa (ag (aa fin))
  |exact aa fin
theorem BN{X:Cx}{jr:Hg}{σ:St}{H:Hp}{s:Fe}{a:xv}{y:V}{o:Option V}(I:Inv X jr σ H s)(g:mG H a y o):s.TypeIs (.ref a) "dict" :=by
 rcases g with⟨kvs,k,e,_,_⟩|⟨kvs,k,b,e,_,_,_⟩
 ·obtain⟨_,_,vs,_,dd⟩:=sH I.hok e;exact dd.typeIs
 ·obtain⟨_,_,xs,_,dd⟩:=pS I.hok e;exact dd.typeIs
noncomputable def QZ(td ty:TE):TE:=λσ H Q=>td σ H λx H1=>ty σ H1 λy H2=>∃a v,x=.ref a/\mG H2 a y (some v)/\Q v H2
noncomputable def WS(ty td:TE):TE:=λσ H Q=>ty σ H λy H1=>td σ H1 λx H2=>∃a o,x=.ref a/\mG H2 a y o/\Q (.bl o.isSome) H2
noncomputable def M3(ty td:TE):TE:=λσ H Q=>ty σ H λy H1=>td σ H1 λx H2=>∃a o,x=.ref a/\mG H2 a y o/\Q (.bl (!o.isSome)) H2
noncomputable def R6(td ty tv:TE):TS:=λD σ H=>tv σ H λv H1=>td σ H1 λx H2=>ty σ H2 λy H3=>∃a H4,x=.ref a/\O6 H3 a y v H4/\D.nx σ H4
section
variable {X:Cx}{o i e jz:Fz}{pos ko nv:Pos}{td ty tv:TE}
theorem eG(hu:X.A.units+1<cLine)(ho:PE X o td)(hi:PE X i ty)(hs:WB i):PE X (.Subscript o i pos) (QZ td ty):=by intro jr s σ H Q I h;refine M4 PySem.F.slot_dict_getitem.lookup hs (thn (ho jr s σ H _ I h) λu s1 ⟨x,H1,I1,rx,q1⟩=>thn (hi jr s1 σ H1 _ I1 q1) λiv s2 ⟨y,H2,I2,ry,a,v,ex,g,q2⟩=>?_);subst ex;obtain rfl:u=fv.ref a:=rx;exact⟨BN I2 g,HV hu I2 g ry λw' s3 I3 qz=>⟨v,H2,I3,qz,q2⟩⟩
theorem yS(hu:X.A.units+1<cLine)(hi:PE X i ty)(ho:PE X o td):PC X .In i o (WS ty td):=by
 intro jr s σ H Q I h;refine thn (hi jr s σ H _ I h) λiv s1 ⟨y,H1,I1,ry,q1⟩=>thn (ho jr s1 σ H1 _ I1 q1) λu s2 ⟨x,H2,I2,rx,a,ov,ex,g,q2⟩=>?_
 subst ex;obtain rfl:u=fv.ref a:=rx;exact a0P hu I2 g ry λs3 I3=>⟨.bl ov.isSome,H2,I3,rfl,q2⟩
theorem d4(hu:X.A.units+1<cLine)(hi:PE X i ty)(ho:PE X o td):PC X .NotIn i o (M3 ty td):=by
 intro jr s σ H Q I h;refine thn (hi jr s σ H _ I h) λiv s1 ⟨y,H1,I1,ry,q1⟩=>thn (ho jr s1 σ H1 _ I1 q1) λu s2 ⟨x,H2,I2,rx,a,ov,ex,g,q2⟩=>?_
 subst ex;obtain rfl:u=fv.ref a:=rx;exact NT hu I2 g ry λs3 I3=>⟨.bl (!ov.isSome),H2,I3,rfl,q2⟩
theorem gV(hu:X.A.units+1<cLine)(ho:PE X o td)(hi:PE X i ty)(hv:PE X jz tv)(hs:swapsWith jz (some (.Subscript o i ko)) pos.line X.env=pure false):
  PS X (.Assign [.Subscript o i ko] jz pos) (R6 td ty tv):=by
 intro jr s σ H D I h;refine wpAny_Assign_Subscript (thn (hv jr s σ H _ I h) λr s1 ⟨v,H1,I1,rv,q1⟩=>thn (ho jr s1 σ H1 _ I1 q1) λu s2 ⟨x,H2,I2,rx,q2⟩=>thn (hi jr s2 σ H2 _ I2 q2) λiv s3 ⟨y,H3,I3,ry,a,H4,ex,g,q3⟩=>?_) hs;subst ex;obtain rfl:u=fv.ref a:=rx;exact HU hu I3 g ry rv λs4 I4=>⟨σ,H4,I4,q3⟩
end
theorem L9{P:Fo}{w:Fw}{H:Hp}(h:Fp)(hb:Fy<h.objs.size):cS P w H (h.push {cls:=.type "dict",data:=.dict #[]}) h.objs.size (.dT []):=
 ⟨cn _,beq_eq_false_iff_ne.mpr (Ne.symm (cj hb)),[],.nil,_,#[],0,az _ rfl,⟨rfl,rfl,rfl⟩,rfl,rfl,nodup_nil⟩
def OQ:TE:=λ_ H Q=>∀p,H p=none->Q (.ref p) (upd H p (.dT []))
section
variable {X:Cx}{pos:Pos}
theorem fH:PE X (.Dict [] [] pos) OQ:=λjr s σ H Q I h=>
 wpAny_Dict_empty ⟨.ref s.heap.objs.size,_,I.laid (a:=s.heap.objs.size) (o:=.dT []) (t':=s.toks) (λ_ _ q=>ak _ q) (aw _) (L9 s.heap I.big),rfl,h _ (I.hok.fresh (aw _))⟩
end
structure M1(X:Cx)(o:Fz)(m:Str)(kz:Pos)(e:Fz)(jy:Pos):Prop where
 base:attributeBase o m X.env (eval o X.env)=eval o X.env
 few:((backTo jy (Fq [e] X.env)).all (λx=>!x.1)&& (backToKw jy (keywordEach [] X.env)).all (λx=>x.1.isSome)
  && decide (([e]:List Fz).length+([]:List Keyword).length+(if([]:List Keyword).isEmpty then 0 else 1)<30))=true
 line:(kz.endLine==jy.line)=true
 trees:backTo jy (Fq [e] X.env)=[(false,eval e X.env)]
structure M2(X:Cx)(o:Fz)(m:Str)(kz:Pos)(e f:Fz)(jy:Pos):Prop where
 base:attributeBase o m X.env (eval o X.env)=eval o X.env
 few:((backTo jy (Fq [e,f] X.env)).all (λx=>!x.1)&& (backToKw jy (keywordEach [] X.env)).all (λx=>x.1.isSome)
  && decide (([e,f]:List Fz).length+([]:List Keyword).length+(if([]:List Keyword).isEmpty then 0 else 1)<30))=true
 line:(kz.endLine==jy.line)=true
 trees:backTo jy (Fq [e,f] X.env)=[(false,eval e X.env),(false,eval f X.env)]
def IsD(H:Hp)(a:xv):Prop:=(∃kvs,Rd H a (.dK kvs))\/∃kvs,Rd H a (.dT kvs)
theorem KH{X:Cx}{jr:Hg}{σ:St}{H:Hp}{s:Fe}{a:xv}(I:Inv X jr σ H s)(d:IsD H a):
  s.TypeIs (.ref a) "dict" /\(∀b,fv.ref a=.ref b->∃ob,s.heap.get? b=some ob/\ob.dict=none)/\(a==Fy)=false:=by
 rcases d with⟨kvs,e⟩|⟨kvs,e⟩
 ·obtain⟨_,hd,vs,_,dd⟩:=sH I.hok e;refine⟨dd.typeIs,λb q=>?_,hd⟩;cases q;obtain⟨ob,_,_,h1,h2,_⟩:=dd;exact⟨ob,h1,h2.2.1⟩
 ·obtain⟨_,hd,xs,_,dd⟩:=pS I.hok e;refine⟨dd.typeIs,λb q=>?_,hd⟩;cases q;obtain⟨ob,_,_,h1,h2,_⟩:=dd;exact⟨ob,h1,h2.2.1⟩
section
variable {X:Cx}{jr:Hg}{σ:St}{H:Hp}{s:Fe}{a:xv}{y d:V}{u r:fv}{o:Option V}{A:Ft}{E:Hf}
theorem QC{Q:Hf}(hu:A.units+1<cLine)(I:Inv X jr σ H s)(g:mG H a y o)(ry:RelV y u)(h:∀w' s',Inv X jr σ H s'->RelV (o.getD .non) w'->Q w' s'):
  Fi (Fm X.prog X.w) A (call (.builtin "dict.get") [.ref a,u]) Q E s:=by
 rcases g with⟨kvs,k,e,ey,l⟩|⟨kvs,k,b,e,ey,eb,l⟩
 ·subst ey;obtain⟨z,hd,vs,rel,dd⟩:=sH I.hok e;refine call_meetsIn PySem.F.slot_dict_get dd.typeIs PySem.F.entry_dict_get (PySem.F.args_dict_get_2 _ _) (meets_dict_get (bX X.prog X.w) a (uS ry) hd) ⟨_,dd.mapOf,h _ _ (I.tok _) ?_⟩;rw[l];exact(rel.val k).getD rfl
 ·subst ey;cases (show u=fv.ref b from ry);obtain⟨z,hd,xs,rel,dd⟩:=pS I.hok e;refine call_meetsIn PySem.F.slot_dict_get dd.typeIs PySem.F.entry_dict_get (PySem.F.args_dict_get_2 _ _) (meetsH_dict_get (tupleKind (bX X.prog X.w)) a b hd) ⟨tupleKind_room_in1 hu,k,xs,lS I.hok eb,dd,h _ _ (I.tok _) ?_⟩;rw[l];exact(rel.val k).getD rfl
theorem QB{Q:Hf}(hu:A.units+1<cLine)(I:Inv X jr σ H s)(g:mG H a y o)(ry:RelV y u)(rd:RelV d r)(h:∀w' s',Inv X jr σ H s'->RelV (o.getD d) w'->Q w' s'):
  Fi (Fm X.prog X.w) A (call (.builtin "dict.get") [.ref a,u,r]) Q E s:=by
 rcases g with⟨kvs,k,e,ey,l⟩|⟨kvs,k,b,e,ey,eb,l⟩
 ·subst ey;obtain⟨z,hd,vs,rel,dd⟩:=sH I.hok e;refine call_meetsIn PySem.F.slot_dict_get dd.typeIs PySem.F.entry_dict_get (PySem.F.args_dict_get_3 _ _ _) (meets_dict_get_default (bX X.prog X.w) a (uS ry) hd r) ⟨_,dd.mapOf,h _ _ (I.tok _) ?_⟩;rw[l];exact(rel.val k).getD rd
 ·subst ey;cases (show u=fv.ref b from ry);obtain⟨z,hd,xs,rel,dd⟩:=pS I.hok e;refine call_meetsIn PySem.F.slot_dict_get dd.typeIs PySem.F.entry_dict_get (PySem.F.args_dict_get_3 _ _ _) (meetsH_dict_get_default (tupleKind (bX X.prog X.w)) a b hd r) ⟨tupleKind_room_in1 hu,k,xs,lS I.hok eb,dd,h _ _ (I.tok _) ?_⟩;rw[l];exact(rel.val k).getD rd
end
noncomputable def OS(td ty:TE):TE:=λσ H Q=>td σ H λx H1=>∃a,x=.ref a/\IsD H1 a/\ty σ H1 λy H2=>∃o,mG H2 a y o/\Q (o.getD .non) H2
noncomputable def OR(td ty tx:TE):TE:=λσ H Q=>td σ H λx H1=>∃a,x=.ref a/\IsD H1 a/\ty σ H1 λy H2=>tx σ H2 λz H3=>∃o,mG H3 a y o/\Q (o.getD z) H3
section
variable {X:Cx}{o e f:Fz}{kz jy:Pos}{td ty tx:TE}
theorem JM(hu:X.A.units+1<cLine)(ho:PE X o td)(he:PE X e ty)(m:M1 X o "get" kz e jy):PE X (.Call (.Attribute o "get" kz) [e] [] jy) (OS td ty):=by intro jr s σ H Q I h;refine wpAny_Call_method m.base m.few m.line PySem.F.plainAttrs_dict PySem.F.slot_dict_get PySem.F.type_dict_get (thn (ho jr s σ H _ I h) λu s1 ⟨x,H1,I1,rx,a,ex,d,q1⟩=>?_);subst ex;obtain rfl:u=fv.ref a:=rx;obtain⟨t1,t2,_⟩:=KH I1 d;refine⟨t1,t2,?_⟩;rw[m.trees];refine Calls.callWith_builtin rfl (Calls.evalArgs_plain (Calls.spliced_cons (thn (he jr s1 σ H1 _ I1 q1) λiv s2 ⟨y,H2,I2,ry,ov,g,q2⟩=>Calls.spliced_nil ?_)));exact QC hu I2 g ry λw' s3 I3 qz=>⟨_,H2,I3,qz,q2⟩
theorem JL(hu:X.A.units+1<cLine)(ho:PE X o td)(he:PE X e ty)(hf:PE X f tx)(m:M2 X o "get" kz e f jy):PE X (.Call (.Attribute o "get" kz) [e,f] [] jy) (OR td ty tx):=by
 intro jr s σ H Q I h;refine wpAny_Call_method m.base m.few m.line PySem.F.plainAttrs_dict PySem.F.slot_dict_get PySem.F.type_dict_get (thn (ho jr s σ H _ I h) λu s1 ⟨x,H1,I1,rx,a,ex,d,q1⟩=>?_);subst ex;obtain rfl:u=fv.ref a:=rx;obtain⟨t1,t2,_⟩:=KH I1 d;refine⟨t1,t2,?_⟩;rw[m.trees];refine Calls.callWith_builtin rfl (Calls.evalArgs_plain (Calls.spliced_cons (thn (he jr s1 σ H1 _ I1 q1) λiv s2 ⟨y,H2,I2,ry,q2⟩=>
  Calls.spliced_cons (thn (hf jr s2 σ H2 _ I2 q2) λfv s3 ⟨z,H3,I3,rz,ov,g,q3⟩=>Calls.spliced_nil ?_))))
 exact QB hu I3 g ry rz λw' s4 I4 qz=>⟨_,H3,I4,qz,q3⟩
end
theorem uN:typeLookup (.type "list") "keys" =pure none:=am_miss_of_fast (by first|decide+kernel|rfl)
theorem zS:entryFor table "dict.update.loop" =some Builtin.«dict.update.loop» :=entryFor_of_tree (by kernel_rfl)
theorem l8:plainId "dict.update.loop" =true:=by decide+kernel
section
variable {prog:Fo}{w:Fw}{A:Ft}{E:Hf}
theorem GN{s:Fe}{a:xv}{o:Obj}{xs:Array fv}{k:Nat}{Q:Option fv->Fe->Prop}(hx:s.heap.get? a=some o)(hc:o.cls=.type "list")(kx:o.data=.seq xs k)(hd:o.dict=none)(hA:A.handled=none)
  (h:∀h' tk,(∀b ob,s.heap.get? b=some ob->h'.get? b=some ob)->Q none {s with heap:=h',toks:=tk}):Fi (Fm prog w) A (getAttr? (.ref a) "keys") Q E s:=by
 obtain⟨c,dct,dat,sl⟩:=o;simp only at hc kx hd;subst hc kx hd;obtain⟨hp,g,d,tk,os⟩:=s;have hT:∀tk',(⟨hp,g,d,tk',os⟩:Fe).TypeIs (.ref a) "list" :=λ_=>⟨_,hx,rfl⟩
 have Dw:=uN;have Du:(["__module__","__name__","__qualname__","__doc__","__annotations__"]:List Str).contains "keys" =false:=by decide+kernel
 have hsz:("keys" : Str).length+100<=Fh:=by first|size_fits|decide+kernel
 have f1:=sub_AttributeError;have f3:=PySem.F.slot_list_getattribute.lookup;have f4:=PySem.F.slot_list_getattribute.bind (.ref a);have f5:=am_list_getattr_none;unfold getAttr? getAttrBy? getAttrBy
 repeat (any_goals (first|assumption|exact hT _|((with_reducible show Fi _ _ (call (fv.builtin "list.__getattribute__") _ _) _ _ _);refine call_meets PySem.F.slot_list_getattribute (hT _) am_entry_list_getattribute (PySem.F.args_list_getattribute_2 _ _) (meets_getattribute_miss_list a xs k sl "keys" _ Dw Du hsz) ⟨hx,hA,λh' tk' e vp=>?_⟩)|wp_step))
 obtain⟨t',u',he⟩:=vp.there;show Fi _ _ (getattributeRaised _ _ _ _ _ _ _) _ _ _
 unfold getattributeRaised
 repeat (any_goals (first|assumption|wp_step))
 all_goals first|exact h _ _ vp.keeps|(dsimp only;repeat (any_goals (first|assumption|exact h _ _ vp.keeps|wp_step)))
end
section
variable {X:Cx}
theorem jU:∀{ps:List xv}{us:List fv},Vals (ps.map V.ref) us->us=ps.map fv.ref
 |[],us,r=>by rw[je]at r;cases r;rfl
 |p::ps,us,r=>by
  rw[bh]at r;cases r with
  |cons h t=>cases h;rw[bh,<- jU t]
end
section
variable {X:Cx}{jr:Hg}{σ:St}{H:Hp}{s:Fe}{h':Fp}
theorem Inv.wC{t':Nat}{ch:List xv}{T:xv}{ob:HO}(I:Inv X jr σ H s)(k:∀b o,b∉ch->s.heap.get? b=some o->h'.get? b=some o)(hf:∀b∈ch,oI X jr H b)(hT:s.heap.objs.size<=T)
  (new:cS X.prog X.w (upd H T ob) h' T ob):Inv X jr σ (upd H T ob) {s with heap:=h',toks:=t'}:=by
 have hn:H T=none:=I.hok.fresh hT;have Cr:∀b u,H b=some u->b∉ch:=λb u e z=>by have q:=(hf b z).1;rw[q]at e;cases e
 refine I.step (g':=s.gens) (d':=s.drawn) (ch:=ch) (λb hb=>⟨(hf b hb).2.2.2.1,(hf b hb).2.1,(hf b hb).2.2.2.2.1,(hf b hb).2.2.2.2.2⟩) (λb o _ _ hc e _=>k b o hc e) (λb o _ _ hc e _=>⟨o.slots,k b o hc e⟩)
  (λb o _ e n=>?_) (λb o hc e=>⟨o,k b o hc e⟩) (λb xs e=>?_) (λb o u e=>?_) (λb ps e=>⟨#[],?_⟩) (λm hm=>?_) (λb u e=>?_) I.bare
 ·rw[aB (cj (bz (br e) hT))];exact n
 ·rw[aB (aI e hn)];exact e
 ·rw[aB (aI e hn)];exact e
 ·rw[aB (aI e hn),e];simp
 ·obtain⟨o,es,ep,ho,r⟩:=hm;exact⟨o,es,ep,k _ o (λz=>(hf _ z).2.1 rfl) ho,r⟩
 ·by_cases hb:b=T
  ·subst hb;rw[a8]at e;cases e;exact new
  ·rw[aB hb]at e;refine(I.hok b u e).oP (λc v hc q=>k c v ?_ q) (λc q=>by rw[aB (aI q hn)];exact q) λc xs q=>by rw[aB (aI q hn)];exact q
   rcases hc with z|z
   ·rw[z];exact Cr b u e
   ·exact Cr c _ z
theorem Inv.lock{d:xv}{u:HO}(I:Inv X jr σ H s)(h:H d=some u)(mu:Mut (some u)):∃od,Inv X jr σ (upd H d (.frz od u)) s:=by
 have x:=I.hok d u h;have ex:∃od,s.heap.get? d=some od:=by
  cases u with
  |lst xs=>obtain⟨_,_,_,_,e⟩:=x;exact⟨_,e⟩
  |dK kvs=>obtain⟨_,_,_,_,o,_,_,e,_⟩:=x;exact⟨o,e⟩
  |dT kvs=>obtain⟨_,_,_,_,o,_,_,e,_⟩:=x;exact⟨o,e⟩
  |set S n=>obtain⟨o,_,_,_,e,_⟩:=x;exact⟨o,e⟩
  |ins C dx fs=>obtain⟨_,_,_,e,_⟩:=x;exact⟨_,e⟩
  |ext φ=>obtain⟨_,⟨_,e⟩,_⟩:=x;exact⟨_,e⟩
  |_=>exact False.elim mu
 obtain⟨od,e⟩:=ex;have new:cS X.prog X.w (upd H d (.frz od u)) s.heap d (.frz od u):=by
  refine⟨e,x.oP (λb v _ q=>q) (λb q=>?_) λb xs q=>?_⟩
  ·rw[aB (λz=>by rw[z,h]at q;cases q;exact mu)];exact q
  ·rw[aB (λz=>by rw[z,h]at q;cases q;exact mu)];exact q
 exact⟨od,I.write (x:=d) (e:=d) (t':=s.toks) (h':=s.heap) (by rw[h];exact mu) (.inl rfl) (λb v _ q=>q) ⟨od,e⟩ new⟩
theorem Inv.x9{d:xv}{u:HO}(I:Inv X jr σ H s)(h:H d=some u)(mu:Mut (some u)):∀o' u',X.H_0 d≠some (.frz o' u'):=λo' u' e=>by have q:=I.base.pM d o' u' e;rw[h]at q;cases q;exact mu
theorem Inv.unlock{d:xv}{od:Obj}{u:HO}(I:Inv X jr σ H s)(h:H d=some (.frz od u))(hn:∀o' u',X.H_0 d≠some (.frz o' u')):Inv X jr σ (upd H d u) s:=by
 have Bk:∀b o,H b=some o->(∀o' u',o≠ .frz o' u')->b≠d:=λb o e jw z=>by rw[z,h]at e;cases e;exact jw _ _ rfl
 have neN:∀b,H b=none->b≠d:=λb e z=>by rw[z,h]at e;cases e
 refine⟨I.ok,I.os,I.bare,⟨I.base.keep,I.base.slot,λb o e n hx=>?_,I.base.there,λb xs e=>?_,λb o x e=>?_,λb ps e=>?_⟩,I.loc,I.cell,?_,λx c e=>?_,λp hp=>?_,λb o e=>?_,I.len⟩
 ·rw[aB (neN b (I.base.free b o e n hx))];exact I.base.free b o e n hx
 ·have q:=I.base.l9 b xs e;rw[aB (Bk b _ q (λ_ _ z=>nomatch z))];exact q
 ·have q:=I.base.pM b o x e;rw[aB (λz=>by rw[z]at e;exact hn _ _ e)];exact q
 ·obtain⟨m,q⟩:=I.base.tN b ps e;exact⟨m,by rw[aB (Bk b _ q (λ_ _ z=>nomatch z))];exact q⟩
 ·rw[aB (neN _ I.free)];exact I.free
 ·rw[aB (neN c (I.iO x c e))];exact I.iO x c e
 ·obtain⟨e,n,r⟩:=I.pin p hp;exact⟨e,by rw[aB (neN _ n)];exact n,r⟩
 ·by_cases hb:b=d
  ·rw[hb,a8]at e;cases e;rw[hb];obtain⟨_,x⟩:=I.hok d _ h;exact x.oP (λc v _ q=>q) (λc q=>by rw[aB (Bk c _ q (λ_ _ z=>nomatch z))];exact q) λc xs q=>by rw[aB (Bk c _ q (λ_ _ z=>nomatch z))];exact q
  ·rw[aB hb]at e;exact(I.hok b o e).oP (λc v _ q=>q) (λc q=>by rw[aB (Bk c _ q (λ_ _ z=>nomatch z))];exact q) λc xs q=>by rw[aB (Bk c _ q (λ_ _ z=>nomatch z))];exact q
end
noncomputable def QX(t:TS):TS:=λD σ H=>∃d u,H d=some u/\Mut (some u)/\∀od,t ⟨λσ' H'=>H' d=some (.frz od u)/\D.nx σ' (upd H' d u),λv H'=>H' d=some (.frz od u)/\D.rt v (upd H' d u),λσ' H'=>H' d=some (.frz od u)/\D.bk σ' (upd H' d u),λσ' H'=>H' d=some (.frz od u)/\D.ct σ' (upd H' d u)⟩ σ (upd H d (.frz od u))
noncomputable def OP(t:TE):TE:=λσ H Q=>∃d u,H d=some u/\Mut (some u)/\∀od,t σ (upd H d (.frz od u)) λv H'=>H' d=some (.frz od u)/\Q v (upd H' d u)
section
variable {X:Cx}
theorem jV{st:Ga}{t:TS}(h:PS X st t):PS X st (QX t):=by
 intro jr s σ H D I hw;obtain⟨d,u,hd,mu,hw⟩:=hw;obtain⟨od,I1⟩:=I.lock hd mu;refine thn (h jr s σ _ _ I1 (hw od)) λf s1 q=>?_
 cases f with
 |next=>obtain⟨σ',H',I2,e,q⟩:=q;exact⟨σ',_,I2.unlock e (I.x9 hd mu),q⟩
 |brk=>obtain⟨σ',H',I2,e,q⟩:=q;exact⟨σ',_,I2.unlock e (I.x9 hd mu),q⟩
 |cont=>obtain⟨σ',H',I2,e,q⟩:=q;exact⟨σ',_,I2.unlock e (I.x9 hd mu),q⟩
 |ret v=>obtain⟨x,σ',H',I2,r,e,q⟩:=q;exact⟨x,σ',_,I2.unlock e (I.x9 hd mu),r,q⟩
theorem MK{e:Fz}{t:TE}(h:PE X e t):PE X e (OP t):=by
 intro jr s σ H Q I hw;obtain⟨d,u,hd,mu,hw⟩:=hw;obtain⟨od,I1⟩:=I.lock hd mu;refine thn (h jr s σ _ _ I1 (hw od)) λv s1 ⟨x,H1,I2,r,e2,q⟩=>?_
 exact⟨x,_,I2.unlock e2 (I.x9 hd mu),r,q⟩
theorem yQ{tg:Fz}{jr:Hg}{σ:St}{H:Hp}{s:Fe}{R:It->Hp->Prop}{J:It}{tn:Nat->Fp->Prop}{tk:Nat}(I:Inv X jr σ H s)(o:Obj)
  (T:Turn X.prog X.w X.K tg J [s.heap.objs.size] s.heap.objs.size tn) (st:tn 0 (s.heap.push o)) (q:R J H):PIE X jr σ tg R (.ref s.heap.objs.size) {s with heap:=s.heap.push o,toks:=tk}:=by
 refine⟨s.heap.objs.size,[s.heap.objs.size],tn,J,H,rfl,I.kept λb ob e=>ak _ e,T,st,λb hb=>?_,q⟩;have e:b=s.heap.objs.size:=by simpa using hb
 subst e;exact I.DU (aw _) (I.hok.fresh (aw _))
end
section
variable {prog:Fo}{w:Fw}{A:Ft}{E:Hf}{s:Fe}
theorem mU{d:xv}{o:Obj}{es:Array Gd}{ep:Nat}{Q:Hf}(hd:(d==Fy)=false)(ho:s.heap.get? d=some o)(hc:o.ExactDict)(kx:o.data=.dict es ep)
  (hQ:Q (.ref s.heap.objs.size) {s with heap:=s.heap.push {cls:=.type "dict_keyiterator",data:=.fields #[.ref d,.int 0 0,.int es.size 0,.int ep 0]}}):
  Fi (Fm prog w) A (pyIter (.ref d)) Q E s:=by
 have hT:s.TypeIs (.ref d) "dict" :=⟨o,ho,hc.1⟩;refine wpAny_pyIter_slot hT F.slot_dict_iter (wpAny_call_entry F.slot_dict_iter hT F.entry_dict_iter ?_ (F.args_dict_iter_1 _));unfold Builtin.«dict.__iter__»;refine aa ?_;unfold Builtin.Dict.dictSlotNone;refine aa (wpAny_notOrdered_dict hT ?_);show Fi _ _ (pure (fv.ref d)) _ _ s
 refine ag ?_;show Fi _ _ (Builtin.Dict.showsAll d>>= _) _ _ s
 unfold Builtin.Dict.showsAll;rw[af (by rw[hd];exact bp)];refine aa (ag ?_);refine aa (wpAny_dictEntries ho kx ?_);refine aa (wpAny_dictEpoch ho kx ?_);refine aa (wpAny_newObj_type (ag ⟨_,rfl,"dict_keyiterator",_,⟨_,az _ rfl,rfl⟩,F.slot_dict_keyiterator_next.lookup,?_⟩));simpa[rawInt]using hQ
theorem iY{it d:xv}{i n ep:Nat}{od:Obj}{es:Array Gd}{en:Gd}{Q:Option fv->Fe->Prop}(km:s.heap.IsKeyIter it d i n ep)(qc:s.heap.get? d=some od)(yw:od.data=.dict es ep)
  (hsz:es.size=n) (hx:es[i]? =some en) (hQ:∀h',h'.IsKeyIter it d (i+1) n ep->Fp.SameBut it s.heap h'->Q (some en.key) {s with heap:=h'}):Fi (Fm prog w) A (pyNext (.ref it)) Q E s:=by
 obtain⟨o,ho,hc,hd⟩:=id km;unfold pyNext;refine aa (wpAny_attempt (wpAny_callSpecial?_slot (name:=Str.ofString "__next__") km.typeIs F.slot_dict_keyiterator_next
  (wpAny_call_entry F.slot_dict_keyiterator_next km.typeIs F.entry_dict_keyiterator_next ?_ (F.args_dict_keyiterator_next_1 _))))
 refine aa (ag ?_);refine aa ?_;refine aa ?_;first|refine aa (wpAny_typeNameOfWhole_keyiter km.typeIs (ag ?_))|refine aa (wpAny_typeNameOf_keyiter km.typeIs (ag ?_))
 refine aa (wpAny_fieldsOf ho hd ?_);have Al:Builtin.Dict_items.ownsTuple "dict_keyiterator" =false:=Hd
 simp only[Al,dc,if_false];show Fi _ _ (if(fv.ref d==fv.none)=true then _ else _) _ _ s
 rw[af (show¬((fv.ref d==fv.none)=true)from bp)];refine aa (ag ?_);refine aa (wpAny_dictEntries qc yw ?_);rw[af (by rw[hsz];simp)];refine aa (ag ?_);refine aa (wpAny_dictEpoch qc yw ?_);rw[af (by simp)];refine ag ?_;obtain⟨hlt',qd⟩:=gj.mp hx;simp only[show¬((i:Int)<0)from by omega,if_false,dz,fx hlt'];refine aa ?_;first|refine aa (wpAny_typeNameOfWhole_keyiter km.typeIs (ag ?_))|refine aa (wpAny_typeNameOf_keyiter km.typeIs (ag ?_))
 refine aa (wpAny_isOneOf_keyiter km.typeIs ?_);show Fi _ _ (setField (.ref it) 1 (rawInt ((i:Int)+1))>>= _) _ _ s
 refine aa (wpAny_setField ho hd (by simp) ?_);have xk:(s.heap.update it (Obj.mapFields (·.setIfInBounds 1 (rawInt ((i:Int)+1))))).IsKeyIter it d (i+1) n ep:=
  ⟨_,Fp.get?_update_self _ ho (Obj.isFreed_of_fields (Obj.data_mapFields hd _)),(Obj.cls_mapFields ..).trans hc,by rw[Obj.data_mapFields hd];simp[rawInt]⟩
 refine aa (wpAny_holding ?_);refine aa (wpAny_isOneOf_keyiter (s:={s with heap:=s.heap.update it (Obj.mapFields (·.setIfInBounds 1 (rawInt ((i:Int)+1))))}) xk.typeIs ?_);show Fi _ _ (pure es[i].key) _ _ _
 rw[qd];exact ag (ag ⟨_,rfl,ag (hQ _ xk (Fp.SameBut.update ..))⟩)
theorem gX{it d:xv}{i n ep:Nat}{od:Obj}{es:Array Gd}{Q:Option fv->Fe->Prop}(hh:A.handled=none)(km:s.heap.IsKeyIter it d i n ep)(qc:s.heap.get? d=some od)(yw:od.data=.dict es ep)
  (hsz:es.size=n) (As:n<=i) (hQ:∀h',Fp.ExtBut it s.heap h'->Q none {s with heap:=h'}):Fi (Fm prog w) A (pyNext (.ref it)) Q E s:=by
 obtain⟨o,ho,hc,hd⟩:=id km;unfold pyNext;refine aa (wpAny_attempt (wpAny_callSpecial?_slot (name:=Str.ofString "__next__") km.typeIs F.slot_dict_keyiterator_next
  (wpAny_call_entry F.slot_dict_keyiterator_next km.typeIs F.entry_dict_keyiterator_next ?_ (F.args_dict_keyiterator_next_1 _))))
 refine aa (ag ?_);refine aa ?_;refine aa ?_;first|refine aa (wpAny_typeNameOfWhole_keyiter km.typeIs (ag ?_))|refine aa (wpAny_typeNameOf_keyiter km.typeIs (ag ?_))
 refine aa (wpAny_fieldsOf ho hd ?_);have Al:Builtin.Dict_items.ownsTuple "dict_keyiterator" =false:=Hd
 simp only[Al,dc,if_false];show Fi _ _ (if(fv.ref d==fv.none)=true then _ else _) _ _ s
 rw[af (show¬((fv.ref d==fv.none)=true)from bp)];refine aa (ag ?_);refine aa (wpAny_dictEntries qc yw ?_);rw[af (by rw[hsz];simp)];refine aa (ag ?_);refine aa (wpAny_dictEpoch qc yw ?_);rw[af (by simp)];refine ag ?_;have hge':es.size<=i:=by rw[hsz];exact As
 simp only[show¬((i:Int)<0)from by omega,if_false,dz,getElem?_eq_none hge'];refine aa ?_;first|refine aa (wpAny_typeNameOfWhole_keyiter km.typeIs (ag ?_))|refine aa (wpAny_typeNameOf_keyiter km.typeIs (ag ?_))
 show Fi _ _ (setField (.ref it) 0 .none>>= _) _ _ s
 refine aa (wpAny_setField ho hd (by simp) ?_);show Fi _ _ (newExc (.type "StopIteration") []>>= _) _ _ _
 refine aa ?_;simp only[newExc,newTuple];refine aa (wpAny_newObj_type ?_ (by size_fits));refine aa (m:=firstArgMember _ _) (wpAny_of_eq (a:=fv.none) (by first|rfl|(simp only[firstArgMember];rfl)) ?_);refine wpAny_newObj_type ?_ (by size_fits);simp only[raiseNew];refine aa (wpAny_handled ?_);rw[show A.in1.handled=none from hh];refine aa (ag (wpAny_throw ?_));refine aa (wpAny_isInstance (T:= "StopIteration") (b:=true) ⟨_,az _ rfl,rfl⟩ isSubtype_stop ?_);exact ag (hQ _ (((Fp.SameBut.update ..).extBut.push _).push _))
end
theorem PL{κ:Type}{kvs:List (κ×V)}{vs:List (κ×fv)}(h:KV kvs vs):∀{i:Nat}{k:κ}{v:V},kvs[i]? =some (k,v)->∃u,vs[i]? =some (k,u)/\RelV v u:=by
 unfold KV at h;induction h with
 |nil=>intro i k v e;simp at e
 | @cons a b l₁ l₂ r t ih=>
  intro i k v e;cases i with
  |zero=>simp only[List.getElem?_cons_zero,Option.some.injEq]at e;subst e;refine⟨b.2,?_,r.2⟩;simp only[List.getElem?_cons_zero];exact congrArg some (Prod.ext r.1.symm rfl)
  |succ j=>simp only[gy]at e ⊢;exact ih e
theorem CP{α β:Type}{G:α->β->Prop}{l₁:List α}{l₂:List β}(h:Paired G l₁ l₂):∀{i:Nat}{a:α},l₁[i]? =some a->∃b,l₂[i]? =some b/\G a b:=by
 induction h with
 |nil=>intro i a e;simp at e
 | @cons a b l₁ l₂ r t ih=>
  intro i a' e;cases i with
  |zero=>simp only[List.getElem?_cons_zero,Option.some.injEq]at e;subst e;exact⟨b,rfl,r⟩
  |succ j=>simp only[gy]at e ⊢;exact ih e
theorem JA{k:Key}{u:fv}(h:rX k u=true):RelV (kV k) u:=by
 rcases cF h with⟨i,t,rfl,rfl⟩|⟨x,t,rfl,rfl⟩
 ·exact⟨t,rfl⟩
 ·exact⟨t,rfl⟩
section
variable {X:Cx}{jr:Hg}{σ:St}{H:Hp}{s:Fe}{d:xv}{o:Obj}
theorem Inv.Q3{kvs:List (Key×V)}(I:Inv X jr σ H s)(h:H d=some (.frz o (.dK kvs))):
  (d==Fy)=false/\s.heap.get? d=some o/\o.ExactDict/\∃(es:Array Gd)(ep:Nat)(vs:List (Key×fv)),o.data=.dict es ep/\es.size=kvs.length/\KV kvs vs/\s.heap.DictAt (bX X.prog X.w) d vs ep:=by
 obtain⟨hd,z,hs,vs,kv,o',es,ep,ho,hx,mi,r⟩:=I.hok d _ h;rw[hd]at ho;cases ho;refine⟨hs,hd,hx,es,ep,vs,mi,?_,kv,o,es,hd,hx,mi,r⟩;have l1:=r.2.1.length;have l2:kvs.length=vs.length:=Paired.length kv;rw[dm]at l1;omega
theorem Inv.Q1{kvs:List (List Key×V)}(I:Inv X jr σ H s)(h:H d=some (.frz o (.dT kvs))):
  (d==Fy)=false/\s.heap.get? d=some o/\o.ExactDict/\∃(es:Array Gd)(ep:Nat),o.data=.dict es ep/\es.size=kvs.length/\
   ∀(i:Nat)(k:List Key)(v:V),kvs[i]? =some (k,v)->∃(en:Gd)(q:xv),es[i]? =some en/\en.key=.ref q/\H q=some (.tup (k.map kV)):=by
 obtain⟨hd,z,hs,xs,pr,o',es,ep,ho,hx,mi,he,_⟩:=I.hok d _ h;rw[hd]at ho;cases ho;refine⟨hs,hd,hx,es,ep,mi,?_,λi k v e=>?_⟩
 ·have l1:es.size=xs.length:=size_of_entries he;have l2:kvs.length=xs.length:=Paired.length pr;omega
 ·obtain⟨b,hb,e1,e2,_⟩:=CP pr e;have q:=entry_at he i;rw[hb]at q;exact⟨_,b.2.1,q,rfl,e2⟩
end
noncomputable def Itk(d:xv)(o:Obj)(kvs:List (Key×V)):It:=
 ⟨λi H=>H d=some (.frz o (.dK kvs))/\i<kvs.length,λi H x H'=>H'=H/\∃k v,kvs[i]? =some (k,v)/\x=kV k,λi H=>H d=some (.frz o (.dK kvs))/\kvs.length<=i⟩
noncomputable def C0(d:xv)(o:Obj)(kvs:List (List Key×V)):It:=
 ⟨λi H=>H d=some (.frz o (.dT kvs))/\i<kvs.length,λi H x H'=>H'=H/\∃(k:List Key)(v:V)(q:xv),kvs[i]? =some (k,v)/\x=.ref q/\H q=some (.tup (k.map kV)),λi H=>H d=some (.frz o (.dT kvs))/\kvs.length<=i⟩
theorem kH{o:Obj}{es ub:Array Gd}{ep uc:Nat}(h:o.data=.dict es ep)(h':o.data=.dict ub uc):ub=es/\uc=ep:=by rw[h]at h';cases h';exact⟨rfl,rfl⟩
section
variable {P:Fo}{w:Fw}{K:Fg}{tg:Fz}{d:xv}{o:Obj}{es:Array Gd}{ep:Nat}
theorem FZ{kvs:List (Key×V)}(it:xv)(qc:o.data=.dict es ep):Turn P w K tg (Itk d o kvs) [it] it (λi h=>h.IsKeyIter it d i kvs.length ep) where
 mem:=by simp
 obj:=λi h st b hb=>by
  have e:b=it:=by simpa using hb
  subst e;obtain⟨oi,e,c,dd⟩:=st;exact⟨oi,e,λv z=>by rw[dd]at z;cases z⟩
 keep:=λi h h' st k=>st.at λoi e=>k it (by simp) oi e
 item:=by
  intro X hP hw hK hc i jr s σ H E I hf st hg;subst hP hw hK;obtain⟨hd,hi⟩:=hg;obtain⟨f0,f1,f2,f3,f4,f5⟩:=hf it (by simp);obtain⟨hs,qx,hx,ub,uc,vs,mi,hsz,kv,hm⟩:=I.Q3 hd;obtain⟨rfl,rfl⟩:=kH qc mi;obtain⟨⟨k,v⟩,vy⟩:∃p,kvs[i]? =some p:=⟨kvs[i],cc hi⟩
  obtain⟨u,hu,ru⟩:=PL kv vy;have hl:kvs.length=vs.length:=Paired.length kv;rw[hl]at st;refine wpAny_pyNext_dict_item st hm hu λkey h' ng ow sb=>?_
  have I1:Inv X jr σ H {s with heap:=h'}:=I.turned (t':=s.toks) (λb ob hb e=>(sb.2 b hb).trans e) f0 f1 f3 f4 f5;obtain⟨oi,e,c,dd⟩:=id ow;refine⟨key,rfl,xJ (s:={s with heap:=h'}) e c dd Hd ⟨kV k,H,I1,JA (show rX k key=true from ng),⟨rfl,k,v,vy,rfl⟩,?_,λb hb=>(hf b hb).1⟩⟩;show h'.IsKeyIter it d (i+1) kvs.length _
  rw[hl];exact ow
 done:=by intro X hP hw hK hc i jr s σ H E I hf st hg;subst hP hw hK;obtain⟨hd,hi⟩:=hg;obtain⟨f0,f1,f2,f3,f4,f5⟩:=hf it (by simp);obtain⟨hs,qx,hx,ub,uc,vs,mi,hsz,kv,hm⟩:=I.Q3 hd;obtain⟨rfl,rfl⟩:=kH qc mi;exact gX (I.ok.hd hc) st qx mi hsz hi λh' eb=>⟨rfl,I.turned (t':=s.toks) (λb ob hb e=>eb b ob hb e) f0 f1 f3 f4 f5⟩
 self:=λA i s Q E st h=>wpAny_pyIter_keyiter st h
theorem C8{kvs:List (List Key×V)}(it:xv)(qc:o.data=.dict es ep):Turn P w K tg (C0 d o kvs) [it] it (λi h=>h.IsKeyIter it d i kvs.length ep) where
 mem:=by simp
 obj:=λi h st b hb=>by
  have e:b=it:=by simpa using hb
  subst e;obtain⟨oi,e,c,dd⟩:=st;exact⟨oi,e,λv z=>by rw[dd]at z;cases z⟩
 keep:=λi h h' st k=>st.at λoi e=>k it (by simp) oi e
 item:=by
  intro X hP hw hK hc i jr s σ H E I hf st hg;subst hP hw hK;obtain⟨hd,hi⟩:=hg;obtain⟨f0,f1,f2,f3,f4,f5⟩:=hf it (by simp);obtain⟨hs,qx,hx,ub,uc,mi,hsz,wj⟩:=I.Q1 hd;obtain⟨rfl,rfl⟩:=kH qc mi;obtain⟨⟨k,v⟩,vy⟩:∃p,kvs[i]? =some p:=⟨kvs[i],cc hi⟩
  obtain⟨en,q,qd,ng,hq⟩:=wj i k v vy;refine iY st qx mi hsz qd λh' ow sb=>?_
  have I1:Inv X jr σ H {s with heap:=h'}:=I.turned (t':=s.toks) (λb ob hb e=>(sb.2 b hb).trans e) f0 f1 f3 f4 f5;obtain⟨oi,e,c,dd⟩:=id ow;exact⟨en.key,rfl,xJ (s:={s with heap:=h'}) e c dd Hd ⟨.ref q,H,I1,ng,⟨rfl,k,v,q,vy,rfl,hq⟩,ow,λb hb=>(hf b hb).1⟩⟩
 done:=by intro X hP hw hK hc i jr s σ H E I hf st hg;subst hP hw hK;obtain⟨hd,hi⟩:=hg;obtain⟨f0,f1,f2,f3,f4,f5⟩:=hf it (by simp);obtain⟨hs,qx,hx,ub,uc,mi,hsz,wj⟩:=I.Q1 hd;obtain⟨rfl,rfl⟩:=kH qc mi;exact gX (I.ok.hd hc) st qx mi hsz hi λh' eb=>⟨rfl,I.turned (t':=s.toks) (λb ob hb e=>eb b ob hb e) f0 f1 f3 f4 f5⟩
 self:=λA i s Q E st h=>by
  refine wpAny_pyIter_slot st.typeIs F.slot_dict_keyiterator_iter (wpAny_call_entry F.slot_dict_keyiterator_iter st.typeIs F.entry_dict_keyiterator_iter ?_ (F.args_dict_keyiterator_iter_1 _));show Fi _ _ (ret (.ref it)) _ _ s
  exact ag ⟨_,rfl,"dict_keyiterator",_,st.typeIs,F.slot_dict_keyiterator_next.lookup,h⟩
end
noncomputable def VU(td:TE):TI:=λσ H R=>td σ H λx H1=>∃d o,x=.ref d/\((∃kvs,H1 d=some (.frz o (.dK kvs))/\R (Itk d o kvs) H1)\/∃kvs,H1 d=some (.frz o (.dT kvs))/\R (C0 d o kvs) H1)
section
variable {X:Cx}{tg e:Fz}{td:TE}{kz jy:Pos}
theorem mL(he:PE X e td):PI X tg e (VU td):=by
 intro jr s σ H R I h;refine thn (he jr s σ H _ I h) λu s1 ⟨x,H1,I1,rx,d,o,ex,q⟩=>?_
 subst ex;obtain rfl:u=fv.ref d:=rx;rcases q with⟨kvs,hd,q⟩|⟨kvs,hd,q⟩
 ·obtain⟨hs,qx,hx,es,ep,vs,mi,hsz,kv,hm⟩:=I1.Q3 hd;refine mU hs qx hx mi (yQ (tk:=s1.toks) I1 _ (FZ _ mi) ⟨_,az _ rfl,rfl,?_⟩ q);rw[hsz]<;>rfl
 ·obtain⟨hs,qx,hx,es,ep,mi,hsz,wj⟩:=I1.Q1 hd;refine mU hs qx hx mi (yQ (tk:=s1.toks) I1 _ (C8 _ mi) ⟨_,az _ rfl,rfl,?_⟩ q);rw[hsz]<;>rfl
end
noncomputable def Ite(K:Fg)(a:xv):It:=
 ⟨λi H=>∃(xs:List V)(x:V),SqL K H a xs/\xs[i]? =some x,λi H v H'=>∃T x,v=.ref T/\H T=none/\H'=upd H T (.tup [.int (i:Nat),x])/\∀xs,SqL K H a xs->xs[i]? =some x,λi H=>∃xs:List V,SqL K H a xs/\xs.length<=i⟩
theorem G0{P:Fo}{w:Fw}{K:Fg}{my:List Fz}{kk:Nat}{nv:Pos}(a e it:xv):
  Turn P w K (.Tuple my kk nv) (Ite K a) [e,it] e (λi h=>(∃old,IsEnum h e it ((i:Nat):Int) old)/\h.IsListIter it a i/\e≠it) where
 mem:=by simp
 obj:=λi h st b hb=>by
  obtain⟨⟨old,he⟩,⟨o,ho,hc,hd⟩,_⟩:=st;have e':b=e\/b=it:=by simpa using hb
  rcases e' with z|z
  ·rw[z];exact⟨_,he,λv q=>nomatch q⟩
  ·rw[z];exact⟨o,ho,λv q=>by rw[hd]at q;cases q⟩
 keep:=λi h h' st k=>let⟨⟨old,he⟩,hi,jw⟩:=st;⟨⟨old,k e (by simp) _ he⟩,hi.at λo q=>k it (by simp) o q,jw⟩
 item:=by
  intro X hP hw hK hc i jr s σ H E I hf st hg;subst hP hw hK;obtain⟨⟨old,he⟩,km,jw⟩:=st;obtain⟨xs,x,hq,hx⟩:=hg;obtain⟨its,rv,p,hz⟩:=I.list hq;obtain⟨u,hu,ru⟩:=rv.get hx;have hel:e<s.heap.objs.size:=br he;have sj:it<s.heap.objs.size:=by obtain⟨_,q,_⟩:=km;exact br q
  refine wpAny_pyNext_enum_item he km p.isList (x:=u) (by simpa using hu) jw λh' ho xk hT hsz hk=>?_
  refine⟨_,rfl,wpAny_letOwnedTupleGo_enum (s:={s with heap:=h',toks:=s.toks+1}) ho λyb he' sb=>?_⟩;have yz:yb.get? s.heap.objs.size=some {cls:=.type "tuple",data:=.seq #[.int i s.toks,u]}:=(sb.2 _ (jj hel)).trans hT;have new:cS X.prog X.w (upd H s.heap.objs.size (.tup [.int (i:Nat),x])) yb s.heap.objs.size (.tup [.int (i:Nat),x]):=
   ⟨by show 2<=Fh;decide,[.int i s.toks,u],.cons ⟨_,rfl⟩ (.cons ru .nil),⟨_,yz,rfl,_,rfl⟩⟩
  have I1:Inv X jr σ (upd H s.heap.objs.size (.tup [.int (i:Nat),x])) {s with heap:=yb,toks:=s.toks+1}:=
   I.wC (ch:=[e,it]) (λb ob hb q=>(sb.2 b (λz=>hb (by simp[z]))).trans (hk b ob (λz=>hb (by simp[z])) (λz=>hb (by simp[z])) q)) hf (aw _) new
  refine⟨.ref s.heap.objs.size,_,I1,rfl,⟨_,x,rfl,I.hok.fresh (aw _),rfl,λys hy=>by rw[I.AS hy hq];exact hx⟩,⟨⟨u,?_⟩,xk.at λo q=>(sb.2 it (Ne.symm jw)).trans q,jw⟩,λb hb=>?_⟩
  ·have e1:((i+1:Nat):Int)=(i:Int)+1:=Hc
   rw[e1];exact he'
  ·have rn:b<s.heap.objs.size:=by
    have e':b=e\/b=it:=by simpa using hb
    rcases e' with z|z
    ·rw[z];exact hel
    ·rw[z];exact sj
   rw[aB (cj rn)];exact(hf b hb).1
 done:=by intro X hP hw hK hc i jr s σ H E I hf st hg;subst hP hw hK;obtain⟨⟨old,he⟩,km,jw⟩:=st;obtain⟨xs,hq,hx⟩:=hg;obtain⟨its,rv,p,hz⟩:=I.list hq;obtain⟨f0,f1,f2,f3,f4,f5⟩:=hf it (by simp);have hl:=rv.length;exact wpAny_pyNext_enum_end (I.ok.hd hc) he km p.isList (by simp;omega) λh' eb=>⟨rfl,I.turned (t':=s.toks) (λb o hb q=>eb b o hb q) f0 f1 f3 f4 f5⟩
 self:=λA i s Q E st h=>let⟨⟨_,he⟩,_⟩:=st;wpAny_pyIter_enum he h
noncomputable def VW(K:Fg)(ta:TA):TI:=λσ H R=>ta σ H λvs H1=>∃a xs,vs=[.ref a]/\SqL K H1 a xs/\R (Ite K a) H1
theorem ME{X:Cx}{e:Fz}{ta:TA}{p pos nv:Pos}{my:List Fz}{kk:Nat}(hg:Gl X "enumerate")(hm:X.mg "enumerate" =none)(ha:PA X [e] ta)(hs:Fq [e] X.env=[(false,eval e X.env)]:=by rfl):
  PI X (.Tuple my kk nv) (.Call (.Name "enumerate" p) [e] [] pos) (VW X.K ta):=by
 intro jr s σ H R I h;refine Call_ (qS I hg hm boot_enumerate (PyProof.Rows.callWith_type1 (thn (ha pos jr s σ H _ I h) λus s1 ⟨vs,H1,I1,r1,q1⟩=>?_) hs rfl));obtain⟨a,xs,ex,hq,q⟩:=q1;subst ex;cases r1 with
 |cons r rr=>
  cases rr;cases r;obtain⟨its,rv,p',hz⟩:=I1.list hq;refine call_enumerate_list p'.isList λh' he km hsz hk=>wpAny_pyIter_enum he ?_
  have I2:Inv X jr σ H1 {s1 with heap:=h'}:=I1.kept (t':=s1.toks) hk;refine⟨s1.heap.objs.size+1,[s1.heap.objs.size+1,s1.heap.objs.size],_,_,H1,rfl,I2,G0 a (s1.heap.objs.size+1) s1.heap.objs.size,⟨⟨.none,he⟩,km,Nat.succ_ne_self _⟩,λb hb=>?_,q⟩;have e':b=s1.heap.objs.size+1\/b=s1.heap.objs.size:=by simpa using hb
  have qo:s1.heap.objs.size<=b:=by
   rcases e' with z|z
   ·rw[z];exact Nat.le_add_right _ _
   ·rw[z];exact aw _
  exact I1.DU qo (I1.hok.fresh qo)
theorem qE:∀{vs:List fv}{ns:List Int},IntsAre vs ns->Vals (ns.map V.int) vs
 |_,_,.nil=>.nil
 |_,_,.cons n t h=>.cons ⟨t,rfl⟩ (qE h)
abbrev KOf{K:Fg}{h:Fp}(_:K.In h):Fg:=K
noncomputable def inClass(s:Ga)(j:Nat):Ga:=match s with
 | .ClassDef _ _ _ body _ _ _ _ _ _ _=>body.getD j (.Pass ⟨0,0,0,0⟩)
 |_=>.Pass ⟨0,0,0,0⟩
noncomputable def iQ(s:Ga):Arguments:=match s with
 | .FunctionDef _ a _ _ _ _ _ _ _ _=>a
 |_=>{posonlyargs:=[],args:=[],vararg:=none,kwonlyargs:=[],kw_defaults:=[],kwarg:=none,defaults:=[]}
noncomputable def fO(s:Ga):List Ga:=match s with
 | .FunctionDef _ _ b _ _ _ _ _ _ _=>b
 |_=>[]
noncomputable def aH(s:Ga):Gj:=match s with
 | .FunctionDef _ _ _ _ _ _ sc _ _ _=>sc
 |_=>{kind:=.function,names:=[],isGenerator:=false,isCoroutine:=false}
abbrev CX0:CXT:=λ_ _ _ _ _ _=>False
abbrev E0:XK:=λ_ _ _=>False
theorem O9{X:Cx}:Passes CX0 X E0:=λ_ _ _ _ _ _ _ h=>h.elim
structure Fun(K:Fg)(x qual:Str)(st:Ga)(f:xv)(fd:Gi):Prop where
 ex:∃(oc:fv)(od:Option xv)(kV mf pm:fv)(an:Option xv)(jx ct:fv)(nh:Array (Option fv)),
  fd=W.fnOf x qual (iQ st) (fO st) (aH st) .none kV mf pm an jx ct/\K.lookup f=some ⟨oc,od,.func fd,nh⟩/\W.codeIn K jx qual=true
 kp:W.keepIn K (.ref f)=true
section
variable {P:Fo}{w:Fw}{K:Fg}{mg:Str->Option fv}{base:Fp}
theorem Fun.ok{x qual:Str}{st:Ga}{f:xv}{fd:Gi}{N ps:List Str}{k:Nat}{sp:Sp}(F:Fun K x qual st f fd)(S:aN N ps (aH st))(len:∀vs H Q E,sp vs H Q E->vs.length=ps.length)
  (lr:∀(jx:fv)(A:Ft)(outer:List Env)(s:Fe)(H:Hp)(vs:List V)(Q:VK)(E:XK),cR k (A.deeper (envOfC qual (aH st) s.heap.objs.size f jx))->sp vs H Q E ->
   ∃t,PSs (vW CX0 P w K mg base N qual (aH st) f jx A outer s H E).nox (fO st) t/\t {nx:=λ_ H'=>Q .non H',rt:=Q} (start N vs) H):bJ P w K mg base CX0 (k+1) f fd ps sp:=by
 obtain⟨oc,od,kV,mf,pm,an,jx,ct,nh,rfl,lk,ot⟩:=F.ex;refine VZ lk ot S len λA outer s H vs Q E hr va=>?_
 obtain⟨t,h,q⟩:=lr jx A outer s H vs Q E hr va;exact⟨t,h.nox,q⟩
theorem Fun.binds{x qual:Str}{st:Ga}{f:xv}{fd:Gi}{ps:List Str}(F:Fun K x qual st f fd)
  (h:∀(kV mf pm:fv)(an:Option xv)(jx ct:fv)(us:List fv),us.length=ps.length->bindArgs (W.fnOf x qual (iQ st) (fO st) (aH st) .none kV mf pm an jx ct) ⟨us,[]⟩=pure (ps.zip us)):Binds K fd ps []:=by
 obtain⟨oc,od,kV,mf,pm,an,jx,ct,nh,rfl,lk,ot⟩:=F.ex;exact .all (h kV mf pm an jx ct)
theorem DS{x qual:Str}{st:Ga}{f:xv}{oc:fv}{od an:Option xv}{nh:Array (Option fv)}{kV mf pm jx ct:fv}(l:K.lookup f=some ⟨oc,od,.func (W.fnOf x qual (iQ st) (fO st) (aH st) .none kV mf pm an jx ct),nh⟩)
  (c:W.codeIn K jx qual=true) (k:W.keepIn K (.ref f)=true):Fun K x qual st f (W.fnOf x qual (iQ st) (fO st) (aH st) .none kV mf pm an jx ct):=⟨⟨oc,od,kV,mf,pm,an,jx,ct,nh,rfl,l,c⟩,k⟩
end
theorem bG{A:Ft}{k:Nat}(hr:cR k A):A.units+1<cLine:=ir (Nat.add_le_add_left (by decide:1<=64) _) hr.units
section
variable {X:Cx}
theorem pv(i:Nat){x:Str}{pos:Pos}(hN:X.N[i]? =some x:=by rfl)(hv:Vis X.env.scope x:=by first|exact Or.inl rfl|exact Or.inr (Or.inl rfl)|exact Or.inr (Or.inr rfl))(hd:(x==("__debug__" : Str))=false:=by decide)
  (ot:(x==("__classdict__" : Str))=false:=by decide):PE X (.Name x pos) (OM i):=JH hN hv hd ot
end
theorem DJ{A B:Prop}(h:B):if false=true then A else B:=by rw[af bp];exact h
theorem DI{A B:Prop}(h:A):if true=true then A else B:=by rw[ah rfl];exact h
theorem cK{c A B:Prop}[Decidable c](h1:c->A)(h2:¬c->B):if c then A else B:=by
 by_cases h:c
 ·rw[ah h];exact h1 h
 ·rw[af h];exact h2 h
def a9(H H':Hp):Prop:=∀b o,H b=some o->H' b=some o
theorem a9.refl(H:Hp):a9 H H:=λ_ _ h=>h
theorem a9.trans{H H1 H2:Hp}(a:a9 H H1)(b:a9 H1 H2):a9 H H2:=λc o h=>b c o (a c o h)
theorem a9.free{H H':Hp}(e:a9 H H'){l:xv}(h:H' l=Option.none):H l=Option.none:=by
 cases q:H l with
 |none=>rfl
 |some o=>rw[e l o q]at h;cases h
theorem a9.seq{K:Fg}{H H':Hp}{a:xv}{xs:List V}(e:a9 H H')(h:SqL K H a xs):SqL K H' a xs:=by
 rcases h with(h|⟨o,h⟩)|h
 ·exact .inl (.inl (e _ _ h))
 ·exact .inl (.inr ⟨o,e _ _ h⟩)
 ·exact .inr h
theorem at_of{xs:List V}{z:Int}{j:Nat}{v:V}(e:z=(j:Int))(h:xs[j]? =some v):atI xs z=some v:=by rw[e];exact O0 h
theorem a9.made{H H1:Hp}{x dx C:xv}(nx:H x=Option.none)(nd:H dx=Option.none)(k:∀b o,(upd (upd H dx (.own x)) x (.ins C dx [])) b=some o->b≠x->H1 b=some o):a9 H H1:=λb o e=>
 k b o (by rw[aB (aI e nx),aB (aI e nd)];exact e) (aI e nx)
end L2
namespace RM
open Roof
abbrev Pl:=Int×Int
noncomputable def parts(m:Int):List Int->List (List Int)
 |[]=>[[]]
 |v::r=>if v=m then[]::parts m r else
  match parts m r with
  |[]=>[[v]]
  |p::ps=>(v::p)::ps
def m4(v:Int):Option Int:=if v<48\/57<v then none else some (v - 48)
def iN(n v:Int):Option Int:=(m4 v).map λd=>n*10+d
noncomputable def dD(row:List Int):Option Int:=
 if row.length=0\/2<row.length then none
 else if 1<row.length/\row.head?=some 48 then none
 else(row.foldlM iN 0).bind λn=>if 64<n then none else some n
noncomputable def dG(row:List Int):Option Pl:=((parts 44 row).mapM dD).bind λns=>match ns with
 |[a,b]=>some (a,b)
 |_=>none
noncomputable def j6(row:List Int):Option (List Pl):=((parts 32 row).mapM dG).bind λcs=>if cs.length<4 then none else some cs
noncomputable def eM(t:List Int):Option (List (List Pl)):=
 if(parts 10 t).getLast?≠some []\/(parts 10 t).dropLast=[]then none else(parts 10 t).dropLast.mapM j6
theorem AB(m:Int):∀t,parts m t≠[]
 |[]=>by simp[parts]
 |v::r=>by
  unfold parts;split
  ·simp
  ·split<;>simp
theorem parts_free{m:Int}:∀{a:List Int},m∉a->parts m a=[a]
 |[],_=>rfl
 |v::r,h=>by
  have h1:¬v=m:=λe=>h (by simp[e])
  have h2:m∉r:=λe=>h (by simp[e])
  unfold parts;rw[af h1,parts_free h2]
theorem wZ{m:Int}:∀{a b:List Int},m∉a->parts m (a++m::b)=a::parts m b
 |[],b,_=>by
  show parts m (m::b)=_
  rw[parts,ah rfl]
 |v::r,b,h=>by
  have h1:¬v=m:=λe=>h (by simp[e])
  have h2:m∉r:=λe=>h (by simp[e])
  show parts m (v::(r++m::b))=_
  rw[parts,af h1,wZ h2]
noncomputable def glue(m:Int):List (List Int)->List Int
 |[]=>[]
 |[p]=>p
 |p::q::ps=>p++m::glue m (q::ps)
theorem HG{m v:Int}{p:List Int}{ps:List (List Int)}:glue m ((v::p)::ps)=v::glue m (p::ps):=by cases ps<;>simp[glue]
theorem kD(m:Int):∀t,glue m (parts m t)=t
 |[]=>rfl
 |v::r=>by
  have ih:=kD m r;have hn:=AB m r;unfold parts;split
  ·rename_i e;cases q:parts m r with
   |nil=>exact absurd q hn
   |cons p ps=>
    rw[q]at ih;show glue m ([]::p::ps)=_
    simp only[glue,nil_append];rw[ih,e]
  ·cases q:parts m r with
   |nil=>exact absurd q hn
   |cons p ps=>
    rw[q]at ih;show glue m ((v::p)::ps)=_
    rw[HG,ih]
theorem fU{m:Int}:∀{ps:List (List Int)},ps≠[]->(∀p∈ps,m∉p)->parts m (glue m ps)=ps
 |[],h,_=>absurd rfl h
 |[p],_,h=>by
  show parts m p=[p]
  exact parts_free (h p (by simp))
 |p::q::ps,_,h=>by
  show parts m (p++m::glue m (q::ps))=_
  rw[wZ (h p (by simp)),fU (by simp) λx hx=>h x (by simp only[aq]at hx ⊢;exact .inr hx)]
noncomputable def pNum(n:Nat):List Int:=if n<10 then[48+(n:Int)]else[48+((n/10:Nat):Int),48+((n%10:Nat):Int)]
def cB(p:Fu):List Int:=glue 44 [pNum p.1,pNum p.2]
def gL(w:Walk):List Int:=glue 32 (w.map cB)
def cZ(ws:List Walk):List Int:=ws.flatMap λw=>gL w++[10]
def iP(p:Fu):Pl:=((p.1:Int),(p.2:Int))
def iW(w:Walk):List Pl:=w.map iP
def iWs(ws:List Walk):List (List Pl):=ws.map iW
def okP(p:Fu):Prop:=p.1<=64/\p.2<=64
def okW(w:Walk):Prop:=4<=w.length/\∀p∈w,okP p
def CW(ws:List Walk):Prop:=ws≠[]/\∀w∈ws,okW w
theorem oY{n:Nat}(h:n<=64){x:Int}(hx:x∈pNum n):48<=x/\x<=57:=by
 unfold pNum at hx;split at hx
 ·simp at hx;omega
 ·simp at hx;omega
theorem lI{p:Fu}(h:okP p){x:Int}(hx:x∈cB p):(48<=x/\x<=57)\/x=44:=by
 unfold cB glue glue at hx;simp only[ax,aq]at hx;rcases hx with hx|rfl|hx
 ·exact .inl (oY h.1 hx)
 ·exact .inr rfl
 ·exact .inl (oY h.2 hx)
theorem BE{m:Int}:∀{ps:List (List Int)}{x:Int},x∈glue m ps->x=m\/∃p∈ps,x∈p
 |[],x,h=>by simp[glue]at h
 |[p],x,h=>.inr ⟨p,by simp,h⟩
 |p::q::ps,x,h=>by
  simp only[glue,ax,aq]at h;rcases h with h|rfl|h
  ·exact .inr ⟨p,by simp,h⟩
  ·exact .inl rfl
  ·rcases BE h with h|⟨y,hy,hx⟩
   ·exact .inl h
   ·exact .inr ⟨y,by simp only[aq]at hy ⊢;exact .inr hy,hx⟩
theorem oX{w:Walk}(h:∀p∈w,okP p){x:Int}(hx:x∈gL w):(48<=x/\x<=57)\/x=44\/x=32:=by
 rcases BE hx with h1|⟨q,hq,hx⟩
 ·exact .inr (.inr h1)
 ·obtain⟨p,hp,rfl⟩:=au.mp hq;rcases lI (h p hp) hx with h1|h1
  ·exact .inl h1
  ·exact .inr (.inl h1)
theorem p9{n:Nat}(h:n<=64):dD (pNum n)=some (n:Int):=by
 have key:∀k:Fin 65,dD (pNum k.val)=some (k.val:Int):=by decide+kernel
 exact key ⟨n,Hc⟩
theorem p8{row:List Int}{z:Int}(h:dD row=some z):∃n:Nat,n<=64/\z=n/\row=pNum n:=by
 unfold dD at h;split at h
 ·cases h
 ·rename_i h1;split at h
  ·cases h
  ·rename_i h2;match row,h1,h2,h with
   |[],h1,_,_=>simp at h1
   |[a],h1,h2,h=>
    simp only[List.foldlM,iN,m4]at h;split at h
    ·simp at h
    ·rename_i ha;simp at h;obtain⟨h3,h4⟩:=h;refine⟨(a - 48).toNat,Hc,Hc,?_⟩;unfold pNum;rw[ah Hc];congr 1;omega
   |[a,b],h1,h2,h=>
    simp only[List.foldlM,iN,m4]at h;have h48:¬a=48:=by intro e;exact h2 ⟨by simp,by simp[e]⟩
    split at h
    ·simp at h
    ·rename_i ha;split at h
     ·simp at h
     ·rename_i hb;simp at h;obtain⟨h3,h4⟩:=h;refine⟨((a - 48)*10+(b - 48)).toNat,Hc,Hc,?_⟩;unfold pNum;rw[af Hc];congr 1
      ·omega
      ·congr 1;omega
   |_::_::_::_,h1,_,_=>simp at h1
inductive n8 {α β:Type} (R:α->β->Prop):List α->List β->Prop where
 |nil:n8 R [] []
 |cons {a:α}{b:β}{l:List α}{r:List β}:R a b->n8 R l r->n8 R (a::l) (b::r)
theorem n8.inv2{α β:Type}{R:α->β->Prop}{l:List α}{a b:β}(h:n8 R l [a,b]):∃x y,l=[x,y]/\R x a/\R y b:=by
 cases h with
 |cons h1 h=>
  cases h with
  |cons h2 h=>cases h;exact⟨_,_,rfl,h1,h2⟩
theorem mapM_some{α β:Type}{f:α->Option β}:∀{l:List α}{r:List β},l.mapM f=some r->n8 (λa b=>f a=some b) l r
 |[],r,h=>by simp at h;subst h;exact .nil
 |a::l,r,h=>by
  rw[List.mapM_cons]at h;cases e1:f a with
  |none=>rw[e1]at h;simp at h
  |some b=>
   rw[e1]at h;cases e2:l.mapM f with
   |none=>rw[e2]at h;simp at h
   |some bs=>rw[e2]at h;simp at h;subst h;exact .cons e1 (mapM_some e2)
theorem mR{α β:Type}{f:α->Option β}:∀{l:List α}{r:List β},n8 (λa b=>f a=some b) l r->l.mapM f=some r
 |_,_,.nil=>rfl
 |_,_,.cons h t=>by rw[List.mapM_cons,h,mR t];rfl
theorem zI{row:List Int}{z:Pl}(h:dG row=some z):∃p:Fu,okP p/\z=iP p/\row=cB p:=by
 unfold dG at h;cases e:(parts 44 row).mapM dD with
 |none=>rw[e]at h;simp at h
 |some ns=>
  rw[e]at h;simp only[Option.bind_some]at h;have f:=mapM_some e;have g:=kD 44 row;match ns,f,h with
  |[],_,h=>simp at h
  |[_],_,h=>simp at h
  |_::_::_::_,_,h=>simp at h
  |[a,b],f,h=>simp at h;subst h;obtain⟨x,y,ex,f1,f2⟩:=f.inv2;obtain⟨n1,l1,r1,e1⟩:=p8 f1;obtain⟨n2,l2,r2,e2⟩:=p8 f2;refine⟨(n1,n2),⟨l1,l2⟩,by rw[r1,r2];rfl,?_⟩;rw[<- g,ex,e1,e2];rfl
theorem gP{p:Fu}(h:okP p):dG (cB p)=some (iP p):=by
 unfold dG cB;rw[fU (by simp) λq hq=>?_]
 ·rw[mR (r:=[(p.1:Int),(p.2:Int)]) (.cons (p9 h.1) (.cons (p9 h.2) .nil))];rfl
 ·simp at hq;rcases hq with rfl|rfl
  ·intro e;have:=oY h.1 e;omega
  ·intro e;have:=oY h.2 e;omega
theorem C4{row:List Int}{z:List Pl}(h:j6 row=some z):∃w:Walk,okW w/\z=iW w/\row=gL w:=by
 unfold j6 at h;cases e:(parts 32 row).mapM dG with
 |none=>rw[e]at h;simp at h
 |some cs=>
  rw[e]at h;simp only[Option.bind_some]at h;split at h
  ·cases h
  ·rename_i hl;have h:cs=z:=by simpa using h
   subst h;have f:=mapM_some e;have g:=kD 32 row;have key:∀{l:List (List Int)}{r:List Pl},n8 (λa b=>dG a=some b) l r->∃w:Walk,(∀p∈w,okP p)/\r=iW w/\l=w.map cB:=by
    intro l r f;induction f with
    |nil=>exact⟨[],by simp,rfl,rfl⟩
    |cons h1 _ ih=>
     obtain⟨w,a1,a2,a3⟩:=ih;obtain⟨p,b1,b2,b3⟩:=zI h1;refine⟨p::w,?_,?_,?_⟩
     ·intro q hq;rcases aq.mp hq with rfl|hq
      ·exact b1
      ·exact a1 q hq
     ·rw[a2,b2];rfl
     ·rw[a3,b3];rfl
   obtain⟨w,a1,a2,a3⟩:=key f;refine⟨w,⟨?_,a1⟩,a2,?_⟩
   ·rw[a2,iW,ai]at hl;omega
   ·rw[<- g,a3];rfl
theorem C5{w:Walk}(h:okW w):j6 (gL w)=some (iW w):=by
 unfold j6 gL;have jw:w.map cB≠[]:=by intro e;have h1:=h.1;rw[List.map_eq_nil_iff.mp e]at h1;simp at h1
 rw[fU jw λq hq=>?_]
 ·have f:n8 (λa b=>dG a=some b) (w.map cB) (iW w):=by
   have h2:=h.2;clear h jw;induction w with
   |nil=>exact .nil
   |cons p w ih=>exact .cons (gP (h2 p (by simp))) (ih λq hq=>h2 q (by simp[hq]))
  rw[mR f];have:¬(iW w).length<4:=by have:=h.1;rw[iW,ai];omega
  simp[this]
 ·obtain⟨p,hp,rfl⟩:=au.mp hq;intro e;rcases lI (h.2 p hp) e with h1|h1
  ·omega
  ·omega
theorem mV{m:Int}:∀{ps:List (List Int)},glue m (ps++[[]])=ps.flatMap λp=>p++[m]
 |[]=>rfl
 |[p]=>by simp[glue]
 |p::q::ps=>by
  have ih:=mV (m:=m) (ps:=q::ps);show p++m::glue m (q::ps++[[]])=_
  rw[ih];simp
theorem rG{t:List Int}{z:List (List Pl)}(h:eM t=some z):∃ws:List Walk,CW ws/\z=iWs ws/\t=cZ ws:=by
 unfold eM at h;split at h
 ·cases h
 ·rename_i hc;have hc1:(parts 10 t).getLast?=some []:=by apply Classical.byContradiction;intro e;exact hc (.inl e)
  have so:(parts 10 t).dropLast≠[]:=λe=>hc (.inr e)
  have f:=mapM_some h;have key:∀{l:List (List Int)}{r:List (List Pl)},n8 (λa b=>j6 a=some b) l r->∃w:List Walk,(∀p∈w,okW p)/\r=iWs w/\l=w.map gL:=by
   intro l r f;induction f with
   |nil=>exact⟨[],by simp,rfl,rfl⟩
   |cons h1 _ ih=>
    obtain⟨w,a1,a2,a3⟩:=ih;obtain⟨p,b1,b2,b3⟩:=C4 h1;refine⟨p::w,?_,?_,?_⟩
    ·intro q hq;rcases aq.mp hq with rfl|hq
     ·exact b1
     ·exact a1 q hq
    ·rw[a2,b2];rfl
    ·rw[a3,b3];rfl
  obtain⟨ws,a1,a2,a3⟩:=key f;refine⟨ws,⟨?_,a1⟩,a2,?_⟩
  ·intro e;rw[e]at a3;exact so a3
  ·have e:parts 10 t=(parts 10 t).dropLast++[[]]:=by obtain⟨ys,hys⟩:=List.getLast?_eq_some_iff.mp hc1;rw[hys];simp
   rw[<- kD 10 t,e,a3,mV,cZ,flatMap_map]
theorem vL{ws:List Walk}(h:CW ws):eM (cZ ws)=some (iWs ws):=by
 have e:parts 10 (cZ ws)=ws.map gL++[[]]:=by
  have:cZ ws=glue 10 (ws.map gL++[[]]):=by rw[mV,cZ,flatMap_map]
  rw[this];refine fU (by simp) λq hq=>?_
  rcases ax.mp hq with hq|hq
  ·obtain⟨w,hw,rfl⟩:=au.mp hq;intro e;rcases oX (h.2 w hw).2 e with h1|h1|h1
   ·omega
   ·omega
   ·omega
  ·simp at hq;subst hq;simp
 unfold eM;rw[e];have h1:¬((ws.map gL++[[]]).getLast?≠some []\/(ws.map gL++[[]]).dropLast=[]):=by simp;exact h.1
 rw[af h1];have e2:(ws.map gL++[[]]).dropLast=ws.map gL:=by simp
 rw[e2];refine mR ?_;have h2:=h.2;clear h e h1 e2;induction ws with
 |nil=>exact .nil
 |cons w ws ih=>exact .cons (C5 (h2 w (by simp))) (ih λq hq=>h2 q (by simp[hq]))
noncomputable def IA(n:Nat):Bytes:=if n<10 then[UInt8.ofNat (48+n)]else[UInt8.ofNat (48+n/10),UInt8.ofNat (48+n%10)]
theorem jC{n:Nat}(h:n<=64):number n=IA n:=by
 have key:∀k:Fin 65,number k.val=IA k.val:=by decide+kernel
 exact key ⟨n,Hb⟩
theorem rS{v d:Nat}(h1:v≠0)(h2:10*v+d<=64)(h3:d<=9):number (10*v+d)=number v++[UInt8.ofNat (48+d)]:=by
 rw[jC h2,jC Hb];unfold IA;rw[af Hb,ah Hb];have e1:(10*v+d)/10=v:=Hb
 have e2:(10*v+d)%10=d:=Hb
 rw[e1,e2];rfl
theorem uG{d:Nat}(h:d<=9):number d=[UInt8.ofNat (48+d)]:=by rw[jC Hb,IA,ah Hb]
theorem E2{c:UInt8}{d:Nat}(h:digit c=some d):d<=9/\c=UInt8.ofNat (48+d):=by
 unfold digit at h;split at h
 ·rename_i hc;have h:c.toNat - 48=d:=by simpa using h
  refine⟨Hb,?_⟩;have e:48+d=c.toNat:=Hb
  rw[e];simp
 ·cases h
theorem lZ{d:Nat}(h:d<=9):digit (UInt8.ofNat (48+d))=some d:=by
 have key:∀k:Fin 10,digit (UInt8.ofNat (48+k.val))=some k.val:=by decide+kernel
 exact key ⟨d,Hb⟩
def gW(w:Walk):Bytes:=w.flatMap λp=>cornerText p++[32]
noncomputable def e7(r:Reading):Bytes:=if r.part=0 then[]else if r.part=1 then number r.val else if r.part=2 then number r.east++[44]else number r.east++(44::number r.val)
noncomputable def eD(r:Reading):Bytes:=walksText r.done.reverse++(gW r.now.reverse++e7 r)
structure OkR(r:Reading):Prop where
 done:∀w∈r.done,okW w
 now:∀p∈r.now,okP p
 val:r.val<=64
 east:r.east<=64
 part:r.part<=3
theorem rH:∀{w:Walk}{p:Fu},walkText (w++[p])=gW w++(cornerText p++[10])
 |[],p=>by simp[walkText,gW]
 |[q],p=>by simp[walkText,gW]
 |q::q2::w,p=>by
  have ih:=rH (w:=q2::w) (p:=p);show cornerText q++(32::walkText (q2::w++[p]))=_
  rw[ih];simp[gW]
theorem JZ{r s:Reading}{c:UInt8}(h:r.more c=some s)(o:OkR r):OkR s/\eD s=eD r++[c]:=by
 obtain⟨o1,o2,o3,o4,o5⟩:=o;unfold Reading.more at h;cases e:digit c with
 |some d=>
  rw[e]at h;obtain⟨hd,hc⟩:=E2 e;dsimp only at h;by_cases hp:r.part=0\/r.part=2
  ·rw[ah hp]at h;have h:=Option.some.inj h;subst h;refine⟨⟨o1,o2,by dsimp only;lia,o4,by dsimp only;lia⟩,?_⟩;rcases hp with hp|hp
   ·simp[eD,e7,hp,uG hd,hc]
   ·simp[eD,e7,hp,uG hd,hc]
  ·rw[af hp]at h;by_cases hv:r.val=0\/SIDE<10*r.val+d
   ·rw[ah hv]at h;cases h
   ·rw[af hv]at h;have h:=Option.some.inj h;subst h;have hv1:r.val≠0:=λq=>hv (.inl q)
    have hv2:10*r.val+d<=64:=by
     have:¬SIDE<10*r.val+d:=λq=>hv (.inr q)
     unfold SIDE at this;lia
    refine⟨⟨o1,o2,by dsimp only;lia,o4,o5⟩,?_⟩;have hp2:r.part=1\/r.part=3:=Hb
    rcases hp2 with hp2|hp2
    ·simp[eD,e7,hp2,rS hv1 hv2 hd,hc]
    ·simp[eD,e7,hp2,rS hv1 hv2 hd,hc]
 |none=>
  rw[e]at h;dsimp only at h;by_cases h1:r.part=1/\c=44
  ·rw[ah h1]at h;have h:=Option.some.inj h;subst h;refine⟨⟨o1,o2,o3,o3,by dsimp only;lia⟩,?_⟩;simp[eD,e7,h1.1,h1.2]
  ·rw[af h1]at h;by_cases h2:r.part=3/\c=32
   ·rw[ah h2]at h;have h:=Option.some.inj h;subst h;refine⟨⟨o1,?_,o3,o4,by dsimp only;lia⟩,?_⟩
    ·intro p hp;rcases aq.mp hp with rfl|hp
     ·exact⟨o4,o3⟩
     ·exact o2 p hp
    ·simp[eD,e7,h2.1,h2.2,gW,cornerText]
   ·rw[af h2]at h;by_cases h3:r.part=3/\c=10/\3<=r.now.length
    ·rw[ah h3]at h;have h:=Option.some.inj h;subst h;refine⟨⟨?_,by simp,o3,o4,by dsimp only;lia⟩,?_⟩
     ·intro w hw;rcases aq.mp hw with rfl|hw
      ·refine⟨by simp;lia,?_⟩;intro p hp;rcases aq.mp (List.mem_reverse.mp hp)with rfl|hp
       ·exact⟨o4,o3⟩
       ·exact o2 p hp
      ·exact o1 w hw
     ·simp only[eD,e7,h3.1,h3.2.1,walksText,List.reverse_cons,iw,gd,List.flatMap_nil,di,rH];simp[gW,cornerText]
    ·rw[af h3]at h;cases h
theorem rN:∀{b:Bytes}{p:Nat}{r:Reading}{ws:List Walk},OkR r->readFrom p r b=.ok ws->CW ws/\eD r++b=walksText ws
 |[],p,r,ws,o,h=>by
  unfold readFrom at h;split at h
  ·rename_i hc;obtain⟨h1,h2,h3⟩:=hc;have h:r.done.reverse=ws:=by simpa using h
   subst h;refine⟨⟨by simpa using h3,λw hw=>o.done w (by simpa using hw)⟩,?_⟩;simp[eD,e7,h1,h2,gW]
  ·cases h
 |c::t,p,r,ws,o,h=>by
  unfold readFrom at h;cases e:r.more c with
  |none=>rw[e]at h;cases h
  |some s=>rw[e]at h;obtain⟨os,es⟩:=JZ e o;have h:readFrom (p+1) s t=.ok ws:=h;obtain⟨h1,h2⟩:=rN os h;refine⟨h1,?_⟩;rw[<- h2,es];simp
theorem oR{b:Bytes}{ws:List Walk}(h:readWalks b=.ok ws):CW ws/\b=walksText ws:=by have o:OkR ⟨[],[],0,0,0⟩:=⟨by simp,by simp,by simp,by simp,by simp⟩;obtain⟨h1,h2⟩:=rN o h;refine⟨h1,?_⟩;rw[<- h2];simp[eD,e7,gW,walksText]
theorem iA{r s:Reading}{c:UInt8}{t:Bytes}{p:Nat}(h:r.more c=some s):readFrom p r (c::t)=readFrom (p+1) s t:=by
 show(match r.more c with|some s=>readFrom (p+1) s t|none=>.error p)=_
 rw[h]
theorem rL{n:Nat}(hn:n<=64){r:Reading}(hp:r.part=0\/r.part=2)(p:Nat)(t:Bytes):∃p',readFrom p r (number n++t)=readFrom p' {r with part:=r.part+1,val:=n} t:=by
 rw[jC hn];unfold IA;by_cases h:n<10
 ·rw[ah h];refine⟨p+1,iA ?_⟩;unfold Reading.more;rw[lZ Hb];dsimp only;rw[ah hp]
 ·rw[af h];refine⟨p+1+1,?_⟩;refine(iA (s:={r with part:=r.part+1,val:=n/10}) ?_).trans (iA ?_)
  ·unfold Reading.more;rw[lZ Hb];dsimp only;rw[ah hp]
  ·unfold Reading.more;rw[lZ Hb];dsimp only;rw[af Hb,af]
   ·have:10*(n/10)+n%10=n:=Hb
    rw[this]
   ·unfold SIDE;lia
theorem rM{q:Fu}(hq:okP q){r:Reading}(hp:r.part=0)(p:Nat)(t:Bytes):∃p',readFrom p r (cornerText q++t)=readFrom p' {r with part:=3,val:=q.2,east:=q.1} t:=by
 unfold cornerText;rw[fk];obtain⟨p1,e1⟩:=rL hq.1 (r:=r) (.inl hp) p (44::number q.2++t);rw[e1];have e2:readFrom p1 {r with part:=r.part+1,val:=q.1} (44::number q.2++t)=readFrom (p1+1) {r with part:=2,val:=q.1,east:=q.1} (number q.2++t):=by refine iA ?_;unfold Reading.more;rw[show digit 44=none from by decide];dsimp only;rw[hp];simp
 rw[e2];obtain⟨p3,e3⟩:=rL hq.2 (r:={r with part:=2,val:=q.1,east:=q.1}) (.inr rfl) (p1+1) t;exact⟨p3,e3⟩
theorem wK:∀{w:Walk}{r:Reading}(p:Nat)(t:Bytes),(∀q∈w,okP q)->w≠[]->r.part=0->4<=r.now.length+w.length ->
  ∃p' v e,readFrom p r (walkText w++t)=readFrom p' ⟨(r.now.reverse++w)::r.done,[],0,v,e⟩ t
 |[],r,p,t,_,h,_,_=>absurd rfl h
 |[q],r,p,t,hq,_,hp,hl=>by
  have e0:walkText [q]++t=cornerText q++(10::t):=by simp[walkText]
  rw[e0];obtain⟨p1,e1⟩:=rM (hq q (by simp)) hp p (10::t);rw[e1];refine⟨p1+1,q.2,q.1,?_⟩;rw[iA (s:=⟨(q::r.now).reverse::r.done,[],0,q.2,q.1⟩)]
  ·simp
  ·unfold Reading.more;rw[show digit 10=none from by decide];dsimp only;rw[af (by simp),af (by simp),ah ⟨rfl,rfl,by simp at hl;lia⟩]
 |q::q2::w,r,p,t,hq,_,hp,hl=>by
  have e0:walkText (q::q2::w)++t=cornerText q++(32::(walkText (q2::w)++t)):=by simp[walkText]
  rw[e0];obtain⟨p1,e1⟩:=rM (hq q (by simp)) hp p (32::(walkText (q2::w)++t));rw[e1];have e2:readFrom p1 {r with part:=3,val:=q.2,east:=q.1} (32::(walkText (q2::w)++t))=readFrom (p1+1) ⟨r.done,q::r.now,0,q.2,q.1⟩ (walkText (q2::w)++t):=by refine iA ?_;unfold Reading.more;rw[show digit 32=none from by decide];dsimp only;rw[af (by simp),ah ⟨rfl,rfl⟩]
  rw[e2];obtain⟨p3,v,e,e3⟩:=wK (w:=q2::w) (r:=⟨r.done,q::r.now,0,q.2,q.1⟩) (p1+1) t (λx hx=>hq x (ao _ hx)) (by simp) rfl (by simp at hl ⊢;lia);refine⟨p3,v,e,?_⟩;rw[e3];simp
theorem u5:∀{ws:List Walk}{r:Reading}(p:Nat),(∀w∈ws,okW w)->r.part=0->r.now=[]->r.done.reverse++ws≠[]->readFrom p r (walksText ws)=.ok (r.done.reverse++ws)
 |[],r,p,_,hp,hn,jw=>by
  show readFrom p r []=_
  unfold readFrom;rw[ah ⟨hp,hn,by simpa using jw⟩];simp
 |w::ws,r,p,hw,hp,hn,_=>by
  have e0:walksText (w::ws)=walkText w++walksText ws:=by simp[walksText]
  rw[e0];have h1:=hw w (by simp);obtain⟨p1,v,e,e1⟩:=wK (w:=w) (r:=r) p (walksText ws) h1.2 (by intro q;have:=h1.1;rw[q]at this;simp at this) hp (by have:=h1.1;lia);rw[e1,u5 p1 (λx hx=>hw x (ao _ hx)) rfl rfl (by simp)];simp[hn]
theorem u6{ws:List Walk}(h:CW ws):readWalks (walksText ws)=.ok ws:=by unfold readWalks;rw[u5 (r:=⟨[],[],0,0,0⟩) 0 h.2 rfl rfl (by simpa using h.1)];simp
def inB(t:List Int):Prop:=∀x∈t,0<=x/\x<=255
theorem gC(a b:List Int):Fj (a++b)=Fj a++Fj b:=by simp[Fj,RoofBNeutral.nats]
theorem dR(a:Int)(b:List Int):Fj (a::b)=UInt8.ofNat a.toNat::Fj b:=by simp[Fj,RoofBNeutral.nats]
theorem tM:∀{a b:List Int},inB a->inB b->Fj a=Fj b->a=b
 |[],[],_,_,_=>rfl
 |[],y::b,_,_,h=>by rw[dR]at h;simp[Fj,RoofBNeutral.nats]at h
 |x::a,[],_,_,h=>by rw[dR]at h;simp[Fj,RoofBNeutral.nats]at h
 |x::a,y::b,ha,hb,h=>by
  rw[dR,dR]at h;injection h with h1 h2
  have hx:=ha x (by simp);have hy:=hb y (by simp);have e:x.toNat=y.toNat:=by have:=congrArg UInt8.toNat h1;rw[UInt8.toNat_ofNat_of_lt' (by show x.toNat<256;lia),UInt8.toNat_ofNat_of_lt' (by show y.toNat<256;lia)]at this;exact this
  have e2:x=y:=Hb
  rw[e2,tM (λz hz=>ha z (by simp[hz])) (λz hz=>hb z (by simp[hz])) h2]
theorem wD{n:Nat}(h:n<=64):Fj (pNum n)=number n:=by
 rw[jC h];unfold pNum IA;split
 ·rw[dR];have:(48+(n:Int)).toNat=48+n:=Hb
  rw[this];rfl
 ·rw[dR,dR];have e1:(48+((n/10:Nat):Int)).toNat=48+n/10:=Hb
  have e2:(48+((n%10:Nat):Int)).toNat=48+n%10:=Hb
  rw[e1,e2];rfl
theorem oO{p:Fu}(h:okP p):Fj (cB p)=cornerText p:=by unfold cB glue glue cornerText;rw[gC,dR,wD h.1,wD h.2];rfl
theorem qG:∀{w:Walk},(∀p∈w,okP p)->Fj (gL w++[10])=walkText w
 |[],_=>rfl
 |[p],h=>by
  show Fj (cB p++[10])=_
  rw[gC,oO (h p (by simp))];rfl
 |p::q::w,h=>by
  have ih:=qG (w:=q::w) λx hx=>h x (ao _ hx)
  show Fj ((cB p++32::gL (q::w))++[10])=cornerText p++(32::walkText (q::w))
  rw[fk,gC,oO (h p (by simp)),cons_append,dR,ih];rfl
theorem lA:∀{ws:List Walk},(∀w∈ws,okW w)->Fj (cZ ws)=walksText ws
 |[],_=>rfl
 |w::ws,h=>by
  have e:cZ (w::ws)=(gL w++[10])++cZ ws:=by simp[cZ]
  rw[e,gC,qG (h w (by simp)).2,lA λx hx=>h x (ao _ hx)];simp[walksText]
theorem CT{ws:List Walk}(h:∀w∈ws,okW w):inB (cZ ws):=by
 intro x hx;obtain⟨w,hw,hx⟩:=cv.mp hx;rcases ax.mp hx with hx|hx
 ·rcases oX (h w hw).2 hx with h1|h1|h1<;>lia
 ·simp at hx;lia
theorem reads{t:List Int}(ht:inB t){ws:List Walk}(h:readWalks (Fj t)=.ok ws):eM t=some (iWs ws)/\CW ws:=by obtain⟨o,e⟩:=oR h;rw[<- lA o.2]at e;have:=tM ht (CT o.2) e;rw[this];exact⟨vL o,o⟩
theorem GA{t:List Int}{p:Nat}(h:readWalks (Fj t)=.error p):eM t=none:=by
 cases e:eM t with
 |none=>rfl
 |some z=>obtain⟨ws,o,_,e2⟩:=rG e;rw[e2,lA o.2,u6 o]at h;cases h
noncomputable def inI(l:Fn)(x y:Int):Bool:=decide (0<=x)&& (decide (0<=y)&& l.contains (x.toNat,y.toNat))
theorem cC(l:Fn)(x y:Nat):inI l x y=l.contains (x,y):=by simp[inI]
theorem B7(l:Fn){x y:Int}(h:x<0):inI l x y=false:=by
 have:decide (0<=x)=false:=by simp;lia
 simp[inI,this]
theorem B6(l:Fn){x y:Int}(h:y<0):inI l x y=false:=by
 have:decide (0<=y)=false:=by simp;lia
 simp[inI,this]
theorem bQ{l:Fn}{x y:Int}(h:inI l x y=true):0<=x/\0<=y/\(x.toNat,y.toNat)∈l:=by simp[inI]at h;exact h
def ne(l:Fn)(X Y:Int):Bool:=inI l X Y
def nw(l:Fn)(X Y:Int):Bool:=inI l (X - 1) Y
def sw(l:Fn)(X Y:Int):Bool:=inI l (X - 1) (Y - 1)
def se(l:Fn)(X Y:Int):Bool:=inI l X (Y - 1)
theorem KD{l:Fn}{a b:Nat}:isIn l (if 0<a then some (a - 1,b)else none)=inI l ((a:Int) - 1) b:=by
 by_cases h:0<a
 ·have e:(a:Int) - 1=((a - 1:Nat):Int):=Hb
  rw[ah h,e,cC];rfl
 ·rw[af h,B7 l Hb];rfl
theorem KG{l:Fn}{a b:Nat}:isIn l (if 0<b then some (a,b - 1)else none)=inI l a ((b:Int) - 1):=by
 by_cases h:0<b
 ·have e:(b:Int) - 1=((b - 1:Nat):Int):=Hb
  rw[ah h,e,cC];rfl
 ·rw[af h,B6 l Hb];rfl
theorem F3{l:Fn}{a b:Nat}:isIn l (if 0<a/\0<b then some (a - 1,b - 1)else none)=inI l ((a:Int) - 1) ((b:Int) - 1):=by
 by_cases h:0<a/\0<b
 ·have e1:(a:Int) - 1=((a - 1:Nat):Int):=Hb
  have e2:(b:Int) - 1=((b - 1:Nat):Int):=Hb
  rw[ah h,e1,e2,cC];rfl
 ·rw[af h];by_cases ha:0<a
  ·rw[B6 l Hb];rfl
  ·rw[B7 l Hb];rfl
noncomputable def aZ(l:Fn)(X Y:Int)(d:Nat):Bool:=
 if d=0 then ne l X Y&& !se l X Y else if d=1 then nw l X Y&& !ne l X Y else if d=2 then sw l X Y&& !nw l X Y else se l X Y&& !sw l X Y
theorem f9(l:Fn)(p:Fu)(d:Nat):wallFoot l p d=aZ l p.1 p.2 d:=by
 unfold wallFoot leftOf rightOf aZ;by_cases h0:d=0
 ·subst h0;simp only[ah];rw[KG];show(isIn l (some p)&& _)=_
  have:isIn l (some p)=ne l p.1 p.2:=by rw[ne,cC];rfl
  rw[this];rfl
 ·by_cases h1:d=1
  ·subst h1;simp only[ah,af h0];rw[KD];have:isIn l (some p)=ne l p.1 p.2:=by rw[ne,cC];rfl
   rw[this];rfl
  ·by_cases h2:d=2
   ·subst h2;simp only[ah,af h0,af h1];rw[KD,F3];rfl
   ·simp only[af h0,af h1,af h2];rw[KG,F3];rfl
theorem hZ{l:Fn}(h:Ge l=false)(X Y:Int):¬(sw l X Y=true/\ne l X Y=true/\se l X Y=false/\nw l X Y=false)/\¬(nw l X Y=true/\se l X Y=true/\ne l X Y=false/\sw l X Y=false):=by
 have key:∀c∈l,¬((l.contains (c.1+1,c.2+1)&& !(l.contains (c.1+1,c.2)||l.contains (c.1,c.2+1)))||(decide (0<c.1)&& (l.contains (c.1 - 1,c.2+1)&& !(l.contains (c.1 - 1,c.2)||l.contains (c.1,c.2+1)))))=true:=by intro c hc q;have:Ge l=true:=fe.mpr ⟨c,hc,q⟩;rw[h]at this;cases this
 refine⟨λ⟨h1,h2,h3,h4⟩=>?_,λ⟨h1,h2,h3,h4⟩=>?_⟩
 ·obtain⟨x0,y0,m⟩:=bQ h1;have e1:X=((X - 1).toNat+1:Nat):=Hb
  have e2:Y=((Y - 1).toNat+1:Nat):=Hb
  refine key _ m ?_;have a1:l.contains ((X - 1).toNat+1,(Y - 1).toNat+1)=true:=by rw[<- cC,<- e1,<- e2];exact h2
  have a2:l.contains ((X - 1).toNat+1,(Y - 1).toNat)=false:=by rw[<- cC,<- e1,show(((Y - 1).toNat:Nat):Int)=Y - 1 by lia];exact h3
  have a3:l.contains ((X - 1).toNat,(Y - 1).toNat+1)=false:=by rw[<- cC,<- e2,show(((X - 1).toNat:Nat):Int)=X - 1 by lia];exact h4
  simp only[a1,a2,a3];rfl
 ·obtain⟨x0,y0,m⟩:=bQ h2;obtain⟨x1,y1,_⟩:=bQ h1;have e1:X=(X.toNat:Int):=Hb
  have e2:Y=((Y - 1).toNat+1:Nat):=Hb
  refine key _ m ?_;have a1:l.contains (X.toNat - 1,(Y - 1).toNat+1)=true:=by rw[<- cC,<- e2,show((X.toNat - 1:Nat):Int)=X - 1 by lia];exact h1
  have a2:l.contains (X.toNat - 1,(Y - 1).toNat)=false:=by rw[<- cC,show((X.toNat - 1:Nat):Int)=X - 1 by lia,show(((Y - 1).toNat:Nat):Int)=Y - 1 by lia];exact h4
  have a3:l.contains (X.toNat,(Y - 1).toNat+1)=false:=by rw[<- cC,<- e2,<- e1];exact h3
  have a4:decide (0<X.toNat)=true:=by simp;lia
  simp only[a1,a2,a3,a4];simp
noncomputable def stI(X Y:Int)(d:Nat):Int×Int:=if d=0 then(X+1,Y)else if d=1 then(X,Y+1)else if d=2 then(X - 1,Y)else(X,Y - 1)
theorem FV{l:Fn}(h:Ge l=false){X Y:Int}{d e:Nat}(hd:d<4)(he:e<4)(h1:aZ l X Y d=true)(h2:aZ l X Y e=true):d=e:=by
 obtain⟨u1,u2⟩:=hZ h X Y;have cd:d=0\/d=1\/d=2\/d=3:=Hb
 have ce:e=0\/e=1\/e=2\/e=3:=Hb
 generalize a1:ne l X Y=A at*;generalize a2:nw l X Y=B at*;generalize a3:sw l X Y=C at*;generalize a4:se l X Y=D at*;rcases cd with rfl|rfl|rfl|rfl<;>rcases ce with rfl|rfl|rfl|rfl<;>simp[aZ,a1,a2,a3,a4]at h1 h2 u1 u2 ⊢ <;>simp_all
theorem IH{l:Fn}{X Y:Int}{d:Nat}(hd:d<4)(h1:aZ l X Y d=true):∃e,e<4/\aZ l (stI X Y d).1 (stI X Y d).2 e=true:=by
 have cd:d=0\/d=1\/d=2\/d=3:=Hb
 rcases cd with rfl|rfl|rfl|rfl
 ·simp[aZ]at h1;have b1:nw l (X+1) Y=true:=by rw[nw,show X+1 - 1=X by lia];exact h1.1
  have b2:sw l (X+1) Y=false:=by rw[sw,show X+1 - 1=X by lia];exact h1.2
  show∃e,e<4/\aZ l (X+1) Y e=true
  cases c1:se l (X+1) Y with
  |true=>exact⟨3,Hb,by simp[aZ,c1,b2]⟩
  |false=>
   cases c2:ne l (X+1) Y with
   |true=>exact⟨0,Hb,by simp[aZ,c1,c2]⟩
   |false=>exact⟨1,Hb,by simp[aZ,c2,b1]⟩
 ·simp[aZ]at h1;have b1:sw l X (Y+1)=true:=by rw[sw,show Y+1 - 1=Y by lia];exact h1.1
  have b2:se l X (Y+1)=false:=by rw[se,show Y+1 - 1=Y by lia];exact h1.2
  show∃e,e<4/\aZ l X (Y+1) e=true
  cases c1:ne l X (Y+1)with
  |true=>exact⟨0,Hb,by simp[aZ,c1,b2]⟩
  |false=>
   cases c2:nw l X (Y+1)with
   |true=>exact⟨1,Hb,by simp[aZ,c1,c2]⟩
   |false=>exact⟨2,Hb,by simp[aZ,c2,b1]⟩
 ·simp[aZ]at h1;have b1:se l (X - 1) Y=true:=h1.1;have b2:ne l (X - 1) Y=false:=h1.2;show∃e,e<4/\aZ l (X - 1) Y e=true
  cases c1:nw l (X - 1) Y with
  |true=>exact⟨1,Hb,by simp[aZ,c1,b2]⟩
  |false=>
   cases c2:sw l (X - 1) Y with
   |true=>exact⟨2,Hb,by simp[aZ,c1,c2]⟩
   |false=>exact⟨3,Hb,by simp[aZ,c2,b1]⟩
 ·simp[aZ]at h1;have b1:ne l X (Y - 1)=true:=h1.1;have b2:nw l X (Y - 1)=false:=h1.2;show∃e,e<4/\aZ l X (Y - 1) e=true
  cases c1:sw l X (Y - 1)with
  |true=>exact⟨2,Hb,by simp[aZ,c1,b2]⟩
  |false=>
   cases c2:se l X (Y - 1)with
   |true=>exact⟨3,Hb,by simp[aZ,c1,c2]⟩
   |false=>exact⟨0,Hb,by simp[aZ,c2,b1]⟩
noncomputable def w9(l:Fn)(X Y:Int)(d:Nat):Bool:=
 if d=0 then nw l X Y&& !sw l X Y else if d=1 then sw l X Y&& !se l X Y else if d=2 then se l X Y&& !ne l X Y else ne l X Y&& !nw l X Y
theorem zQ{l:Fn}{X Y:Int}{d:Nat}(hd:d<4):w9 l (stI X Y d).1 (stI X Y d).2 d=aZ l X Y d:=by
 have cd:d=0\/d=1\/d=2\/d=3:=Hb
 rcases cd with rfl|rfl|rfl|rfl
 ·simp only[w9,aZ,stI,ah,nw,sw,ne,se,show X+1 - 1=X by lia]
 ·simp[w9,aZ,stI,nw,sw,ne,se,show Y+1 - 1=Y by lia]
 ·simp[w9,aZ,stI,nw,sw,ne,se]
 ·simp[w9,aZ,stI,nw,sw,ne,se]
theorem IJ{l:Fn}(h:Ge l=false){X Y X' Y':Int}{d e:Nat}(hd:d<4)(he:e<4)(h1:aZ l X Y d=true)(h2:aZ l X' Y' e=true)(hq:stI X Y d=stI X' Y' e):d=e/\X=X'/\Y=Y':=by
 rw[<- zQ hd]at h1;rw[<- zQ he,<- hq]at h2;have hde:d=e:=by
  generalize (stI X Y d).1=U at*;generalize (stI X Y d).2=V at*;obtain⟨u1,u2⟩:=hZ h U V;have cd:d=0\/d=1\/d=2\/d=3:=Hb
  have ce:e=0\/e=1\/e=2\/e=3:=Hb
  generalize a1:ne l U V=A at*;generalize a2:nw l U V=B at*;generalize a3:sw l U V=C at*;generalize a4:se l U V=D at*;rcases cd with rfl|rfl|rfl|rfl<;>rcases ce with rfl|rfl|rfl|rfl<;>simp[w9,a1,a2,a3,a4]at h1 h2 u1 u2 ⊢ <;>simp_all
 subst hde;refine⟨rfl,?_⟩;have cd:d=0\/d=1\/d=2\/d=3:=Hb
 rcases cd with rfl|rfl|rfl|rfl<;>simp[stI]at hq<;>lia
theorem oJ{l:Fn}{X Y:Int}{d:Nat}(hd:d<4)(h:aZ l X Y d=true):(d=2->1<=X)/\(d=3->1<=Y):=by
 refine⟨λe=>?_,λe=>?_⟩
 ·subst e;simp[aZ,sw]at h;have:=bQ h.1;lia
 ·subst e;simp[aZ,se]at h;have:=bQ h.1;lia
theorem qI{l:Fn}{p:Fu}{d:Nat}(hd:d<4)(h:wallFoot l p d=true):(((Fx p d).1:Int),((Fx p d).2:Int))=stI p.1 p.2 d:=by
 rw[f9]at h;obtain⟨g1,g2⟩:=oJ hd h;have cd:d=0\/d=1\/d=2\/d=3:=Hb
 rcases cd with rfl|rfl|rfl|rfl
 ·simp[Fx,stI]
 ·simp[Fx,stI]
 ·have:=g1 rfl;simp[Fx,stI];lia
 ·have:=g2 rfl;simp[Fx,stI];lia
theorem bD{l:Fn}{p:Fu}{d:Nat}(h:outOf l p=some d):d<4/\wallFoot l p d=true:=by unfold outOf at h;have h1:=List.find?_some h;have h2:=jl h;simp at h2;exact⟨Hb,h1⟩
theorem AG{l:Fn}(hp:Ge l=false){p:Fu}{d:Nat}(hd:d<4)(h:wallFoot l p d=true):outOf l p=some d:=by
 cases e:outOf l p with
 |none=>unfold outOf at e;rw[List.find?_eq_none]at e;exact absurd h (e d (by simp;lia))
 |some x=>obtain⟨hx,h2⟩:=bD e;rw[f9]at h h2;rw[FV hp hd hx h h2]
theorem JQ{l:Fn}(hp:Ge l=false){p:Fu}{d:Nat}(h:outOf l p=some d):∃e,outOf l (Fx p d)=some e:=by obtain⟨hd,h1⟩:=bD h;have e1:=qI hd h1;rw[f9]at h1;obtain⟨e,he,h2⟩:=IH hd h1;rw[<- e1]at h2;exact⟨e,AG hp he (by rw[f9];exact h2)⟩
theorem AH{l:Fn}(hp:Ge l=false){p q:Fu}{d e:Nat}(h1:outOf l p=some d)(h2:outOf l q=some e)(hq:Fx p d=Fx q e):p=q:=by obtain⟨hd,w1⟩:=bD h1;obtain⟨he,w2⟩:=bD h2;have e1:=qI hd w1;have e2:=qI he w2;rw[f9]at w1 w2;obtain⟨_,a,b⟩:=IJ hp hd he w1 w2 (by rw[<- e1,<- e2,hq]);exact Prod.ext Hb Hb
theorem c7{α:Type}[DecidableEq α]:∀{a b:List α},a.Nodup->(∀x∈a,x∈b)->a.length<=b.length
 |[],_,_,_=>by simp
 |x::a,b,h,hs=>by
  have hx:x∈b:=hs x (by simp);obtain⟨h1,h2⟩:=dh.mp h;have:=c7 (a:=a) (b:=b.erase x) h2 λy hy=>by
   have:y≠x:=λe=>h1 (e▸hy)
   exact(List.mem_erase_of_ne this).mpr (hs y (by simp[hy]))
  rw[List.length_erase_of_mem hx]at this;have:0<b.length:=List.length_pos_of_mem hx;simp;lia
theorem d5{α β:Type}{f:α->β}:∀{l:List α},l.Nodup->(∀x∈l,∀y∈l,f x=f y->x=y)->(l.map f).Nodup
 |[],_,_=>by simp
 |x::l,h,hf=>by obtain⟨h1,h2⟩:=dh.mp h;rw[bh];refine dh.mpr ⟨λhm=>?_,d5 h2 λa ha b hb=>hf a (by simp[ha]) b (by simp[hb])⟩;obtain⟨y,hy,e⟩:=au.mp hm;exact h1 (hf y (by simp[hy]) x (by simp) e▸hy)
inductive Way (l:Fn):Fu->List Foot->Fu->Prop where
 |nil (p:Fu):Way l p [] p
 |cons {p q:Fu}{d:Nat}{r:List Foot}:outOf l p=some d->Way l (Fx p d) r q->Way l p ((p,d)::r) q
theorem Way.append{l:Fn}{p q:Fu}{a:List Foot}(h:Way l p a q):∀{b:List Foot}{r:Fu},Way l q b r->Way l p (a++b) r:=by
 induction h with
 |nil p=>exact λh=>h
 |cons h1 _ ih=>exact λh=>.cons h1 (ih h)
theorem Way.out{l:Fn}{p q:Fu}{a:List Foot}(h:Way l p a q):∀x∈a,outOf l x.1=some x.2:=by
 induction h with
 |nil p=>simp
 |cons h1 _ ih=>
  intro x hx;rcases aq.mp hx with rfl|hx
  ·exact h1
  ·exact ih x hx
theorem Way.prev{l:Fn}{p q:Fu}{a:List Foot}(h:Way l p a q):∀y,(y∈a.map (·.1)\/y=q)->y=p\/∃x∈a,Fx x.1 x.2=y:=by
 induction h with
 |nil p=>intro y hy;simp at hy;exact .inl hy
 | @cons p q d r h1 hw ih=>
  intro y hy;by_cases hp:y=p
  ·exact .inl hp
  ·have ue:y∈r.map (·.1)\/y=q:=by
    rcases hy with hy|hy
    ·rw[bh]at hy;rcases aq.mp hy with e|hy
     ·exact absurd e hp
     ·exact .inl hy
    ·exact .inr hy
   rcases ih y ue with e|⟨x,hx,e⟩
   ·exact .inr ⟨(p,d),by simp,e.symm⟩
   ·exact .inr ⟨x,by simp[hx],e⟩
def lW(x:Foot):Cell×Nat:=((leftOf x.1 x.2).getD (0,0),x.2)
theorem zC{l:Fn}{x:Foot}(h:outOf l x.1=some x.2):lW x∈l.flatMap λc=>[(c,0),(c,1),(c,2),(c,3)]:=by
 obtain⟨hd,w⟩:=bD h;unfold wallFoot at w;simp at w;have w:=w.1;cases e:leftOf x.1 x.2 with
 |none=>rw[e]at w;simp[isIn]at w
 |some c=>rw[e]at w;simp[isIn]at w;refine cv.mpr ⟨c,w,?_⟩;unfold lW;rw[e];simp;lia
theorem zD{l:Fn}{x y:Foot}(h1:outOf l x.1=some x.2)(h2:outOf l y.1=some y.2)(e:lW x=lW y):x=y:=by
 obtain⟨hd1,w1⟩:=bD h1;obtain⟨Bp,w2⟩:=bD h2;obtain⟨⟨a,b⟩,d⟩:=x;obtain⟨⟨a',b'⟩,d'⟩:=y;have ed:d=d':=congrArg (λz=>z.2) e;subst ed;rw[f9]at w1 w2;obtain⟨g1,g2⟩:=oJ hd1 w1;obtain⟨g3,g4⟩:=oJ Bp w2;have ec:(leftOf (a,b) d).getD (0,0)=(leftOf (a',b') d).getD (0,0):=congrArg (λz=>z.1) e;have cd:d=0\/d=1\/d=2\/d=3:=by have:d<4:=hd1;lia
 rcases cd with rfl|rfl|rfl|rfl
 ·simp[leftOf]at ec;simp[ec]
 ·simp[aZ,nw]at w1 w2;have i1:=bQ w1.1;have i2:=bQ w2.1;have p1:0<a:=Hb
  have p2:0<a':=Hb
  simp[leftOf,p1,p2]at ec;simp;lia
 ·simp[aZ,sw]at w1 w2;have i1:=bQ w1.1;have i2:=bQ w2.1;have p1:0<a:=Hb
  have p2:0<a':=Hb
  have p3:0<b:=Hb
  have p4:0<b':=Hb
  simp[leftOf,p1,p2,p3,p4]at ec;simp;lia
 ·simp[aZ,se]at w1 w2;have i1:=bQ w1.1;have i2:=bQ w2.1;have p3:0<b:=Hb
  have p4:0<b':=Hb
  simp[leftOf,p3,p4]at ec;simp;lia
theorem pA{f:List Foot}(h:(f.map (·.1)).Nodup):f.Nodup:=by
 induction f with
 |nil=>simp
 |cons x f ih=>rw[bh]at h;obtain⟨h1,h2⟩:=dh.mp h;exact dh.mpr ⟨λhm=>h1 (au.mpr ⟨x,hm,rfl⟩),ih h2⟩
theorem NI{l:Fn}{f:List Foot}(h:(f.map (·.1)).Nodup)(ho:∀x∈f,outOf l x.1=some x.2):f.length<=4*l.length:=by
 have h1:(f.map lW).Nodup:=d5 (pA h) λx hx y hy e=>zD (ho x hx) (ho y hy) e
 have h2:=c7 h1 (b:=l.flatMap λc=>[(c,0),(c,1),(c,2),(c,3)]) λz hz=>by obtain⟨x,hx,rfl⟩:=au.mp hz;exact zC (ho x hx)
 have h3:∀l:Fn,(l.flatMap λc=>[(c,0),(c,1),(c,2),(c,3)]).length=4*l.length:=by
  intro l;induction l with
  |nil=>rfl
  |cons c l ih=>simp at ih ⊢;lia
 rw[h3]at h2;simpa using h2
structure Round(l:Fn)(p:Fu)(f:List Foot):Prop where
 way:Way l p f p
 ne:f≠[]
 nd:(f.map (·.1)).Nodup
theorem pP{l:Fn}(hp:Ge l=false){p:Fu}:∀(n:Nat)(done:List Foot)(q:Fu)(d:Nat),outOf l q=some d->Way l p done q->((done++[(q,d)]).map (·.1)).Nodup->4*l.length<done.length+n+1 ->
  (done=[]->q=p)->Round l p (done++follow l p n q d)
 |0,done,q,d,hq,hw,hn,hl,h0=>by
  exfalso;have:=NI (l:=l) hn λx hx=>by
   rcases ax.mp hx with hx|hx
   ·exact hw.out x hx
   ·simp at hx;subst hx;exact hq
  simp at this;lia
 |n+1,done,q,d,hq,hw,hn,hl,h0=>by
  have Dc:Way l p (done++[(q,d)]) (Fx q d):=hw.append (.cons hq (.nil _));have eF:follow l p (n+1) q d=(q,d)::(if Fx q d=p then[]else match outOf l (Fx q d)with|some e=>follow l p n (Fx q d) e|none=>[]):=rfl;rw[eF];by_cases hs:Fx q d=p
  ·rw[ah hs];rw[hs]at Dc;exact⟨Dc,by simp,hn⟩
  ·rw[af hs];obtain⟨e,he⟩:=JQ hp hq;rw[he];have vb:Fx q d∉ (done++[(q,d)]).map (·.1):=by
    intro hm;rcases Dc.prev _ (.inl hm)with e1|⟨x,hx,e1⟩
    ·exact hs e1
    ·
     obtain⟨i,hi,ei⟩:=List.getElem_of_mem hm;have key:∀{a:List Foot}{u v:Fu},Way l u a v->∀y∈a.map (·.1),y≠u->∃x∈a.dropLast,Fx x.1 x.2=y:=by
      intro a u v hw;induction hw with
      |nil u=>intro y hy;simp at hy
      | @cons u v d' r h1 hw ih=>
       intro y hy jw;rw[bh]at hy;rcases aq.mp hy with e|hy
       ·exact absurd e jw
       ·cases r with
        |nil=>simp at hy
        |cons z r=>
         by_cases hz:y=Fx u d'
         ·exact⟨(u,d'),by simp,hz.symm⟩
         ·obtain⟨x,hx,e⟩:=ih y hy hz;exact⟨x,by simp[hx],e⟩
     obtain⟨x,hx,e1⟩:=key Dc _ hm hs;have hxd:x∈done:=by simpa using hx
     have hxo:=hw.out x hxd;have:=AH hp hxo hq e1;rw[cf,da]at hn;exact hn.2.2 x.1 (au.mpr ⟨x,hxd,rfl⟩) q (by simp) this
   have:=pP hp n (done++[(q,d)]) (Fx q d) e he Dc (by
    rw[cf,da];refine⟨hn,by simp,?_⟩;intro a ha b hb;simp at hb;subst hb;intro e2;exact vb (e2▸ha)) (by simp;lia) (by simp)
   simpa using this
theorem HK{l:Fn}(hp:Ge l=false){p:Fu}{d:Nat}(h:outOf l p=some d):Round l p (follow l p (4*l.length+4) p d):=by have:=pP hp (4*l.length+4) [] p d h (.nil p) (by simp) (by simp;lia) (by simp);simpa using this
noncomputable def BZ(l:Fn)(seen:List Fu):Prop:=∀y∈seen,∃x∈seen,∃d,outOf l x=some d/\Fx x d=y
theorem BZ.nil(l:Fn):BZ l []:=λ_ h=>by simp at h
theorem Round.prev{l:Fn}{p:Fu}{f:List Foot}(h:Round l p f):∀y∈f.map (·.1),∃x∈f,Fx x.1 x.2=y:=by
 intro y hy;rcases h.way.prev y (.inl hy)with e|e
 ·subst e;have key:∀{a:List Foot}{u v:Fu},Way l u a v->a≠[]->∃x∈a,Fx x.1 x.2=v:=by
   intro a u v hw;induction hw with
   |nil u=>intro h;exact absurd rfl h
   | @cons u v d' r h1 hw ih=>
    intro _;cases r with
    |nil=>cases hw;exact⟨(u,d'),by simp,rfl⟩
    |cons z r=>obtain⟨x,hx,e⟩:=ih (by simp);exact⟨x,by simp only[aq]at hx ⊢;exact .inr hx,e⟩
  exact key h.way h.ne
 ·exact e
theorem BZ.add{l:Fn}{seen:List Fu}{p:Fu}{f:List Foot}(hs:BZ l seen)(h:Round l p f):BZ l (seen++f.map (·.1)):=by
 intro y hy;rcases ax.mp hy with hy|hy
 ·obtain⟨x,hx,e⟩:=hs y hy;exact⟨x,cg _ hx,e⟩
 ·obtain⟨x,hx,e⟩:=h.prev y hy;exact⟨x.1,bg _ (au.mpr ⟨x,hx,rfl⟩),x.2,h.way.out x hx,e⟩
theorem Way.fresh{l:Fn}(hp:Ge l=false){seen:List Fu}(hs:BZ l seen){p q:Fu}{f:List Foot}(h:Way l p f q):p∉seen->∀y∈f.map (·.1),y∉seen:=by
 induction h with
 |nil p=>intro _ y hy;simp at hy
 | @cons p q d r h1 hw ih=>
  intro hn y hy;rw[bh]at hy;rcases aq.mp hy with e|hy
  ·rw[e];exact hn
  ·refine ih (λhm=>?_) y hy;obtain⟨x,hx,e,he,es⟩:=hs _ hm;have:=AH hp he h1 es;exact hn (this▸hx)
theorem cU{a b:Fu}:before a b=true↔a.2<b.2\/(a.2=b.2/\a.1<b.1):=by simp[before]
theorem vZ{a:Fu}(h:before a a=true):False:=by rw[cU]at h;lia
theorem kK{a b c:Fu}(h1:before a b=true)(h2:before b c=true):before a c=true:=by rw[cU]at*;lia
theorem EA(a b:Fu):a=b\/before a b=true\/before b a=true:=by
 by_cases h:a=b
 ·exact .inl h
 ·right;rw[cU,cU];have:¬(a.1=b.1/\a.2=b.2):=λ⟨x,y⟩=>h (Prod.ext x y)
  lia
def leR(a b:Cell):Bool:=a==b||before a b
theorem yY{a b:Cell}:leR a b=true↔a=b\/before a b=true:=by simp[leR]
theorem GS(a b c:Cell)(h1:leR a b=true)(h2:leR b c=true):leR a c=true:=by
 rw[yY]at*;rcases h1 with rfl|h1
 ·exact h2
 ·rcases h2 with rfl|h2
  ·exact .inr h1
  ·exact .inr (kK h1 h2)
theorem GU(a b:Cell):(leR a b||leR b a)=true:=by
 rcases EA a b with rfl|h|h
 ·simp[leR]
 ·simp[leR,h]
 ·simp[leR,h]
theorem jY:∀{l:Fn}{x:Cell},x∈onceEach l↔x∈l
 |[],x=>by simp[onceEach]
 |[a],x=>by simp[onceEach]
 |a::b::r,x=>by
  have ih:=jY (l:=b::r) (x:=x);unfold onceEach;split
  ·rename_i e;rw[ih,e];simp
  ·rw[aq,ih,aq (a:=x) (b:=a)]
theorem kL:∀{l:Fn},l.Pairwise (λa b=>leR a b=true)->(onceEach l).Pairwise (λa b=>before a b=true)
 |[],_=>by simp[onceEach]
 |[a],_=>by simp[onceEach]
 |a::b::r,h=>by
  obtain⟨h1,h2⟩:=gf.mp h;have ih:=kL h2;unfold onceEach;split
  ·exact ih
  ·rename_i e;refine gf.mpr ⟨λx hx=>?_,ih⟩;have hx:=jY.mp hx;have vh:before a b=true:=by
    rcases yY.mp (h1 b (by simp))with q|q
    ·exact absurd q e
    ·exact q
   rcases aq.mp hx with rfl|hx
   ·exact vh
   ·obtain⟨h3,_⟩:=gf.mp h2;rcases yY.mp (h3 x hx)with rfl|q
    ·exact vh
    ·exact kK vh q
theorem uV{l:Fn}{x:Cell}:x∈inRows l↔x∈l:=by unfold inRows;rw[jY,List.mem_mergeSort]
theorem vS(l:Fn):(inRows l).Pairwise (λa b=>before a b=true):=kL (List.pairwise_mergeSort GS GU l)
theorem gU{l:List Fu}(h:l.Pairwise (λa b=>before a b=true)):l.Nodup:=by refine List.Pairwise.imp (λ{a b} q=>?_) h;intro e;subst e;exact vZ q
noncomputable def fL(p:Fu)(d k:Nat):Fu:=if d=0 then(p.1+k,p.2)else if d=1 then(p.1,p.2+k)else if d=2 then(p.1 - k,p.2)else(p.1,p.2 - k)
def cX(p:Fu)(d k:Nat):List Foot:=(List.range k).map λi=>(fL p d i,d)
theorem nF{p:Fu}{d k:Nat}(hd:d<4)(h2:d=2->k<=p.1)(h3:d=3->k<=p.2):feet p (fL p d k)=cX p d k:=by
 have cd:d=0\/d=1\/d=2\/d=3:=Hb
 rcases cd with rfl|rfl|rfl|rfl
 ·simp only[feet,fL,cX,ah];by_cases hk:k=0
  ·subst hk;simp
  ·rw[ah Hb];rw[show p.1+k - p.1=k by lia]
 ·simp only[feet,fL,cX];by_cases hk:k=0
  ·subst hk;simp
  ·simp only[af (show¬(1:Nat)=0 by lia),ah];rw[af Hb,ah Hb,show p.2+k - p.2=k by lia]
 ·have:=h2 rfl;simp only[feet,fL,cX];simp only[af (show¬(2:Nat)=0 by lia),af (show¬(2:Nat)=1 by lia),ah];rw[af Hb,show p.1 - (p.1 - k)=k by lia]
 ·have:=h3 rfl;simp only[feet,fL,cX];simp only[af (show¬(3:Nat)=0 by lia),af (show¬(3:Nat)=1 by lia),af (show¬(3:Nat)=2 by lia),ah];by_cases hk:k=0
  ·subst hk;simp
  ·rw[af Hb,af Hb,show p.2 - (p.2 - k)=k by lia]
theorem vM{p:Fu}{d k:Nat}:cX p d (k+1)=cX p d k++[(fL p d k,d)]:=by simp[cX,range_succ]
theorem iT{p:Fu}{d k:Nat}(hd:d<4):Fx (fL p d k) d=fL p d (k+1):=by
 have cd:d=0\/d=1\/d=2\/d=3:=Hb
 rcases cd with rfl|rfl|rfl|rfl<;>simp[Fx,fL]<;>lia
noncomputable def C3(cs:Walk)(q:Fu):List Foot:=(cs.zip (cs.drop 1++[q])).flatMap λx=>feet x.1 x.2
theorem FU{p a:Fu}{cs:Walk}{q:Fu}:C3 (p::a::cs) q=feet p a++C3 (a::cs) q:=by simp[C3]
theorem jX{l:Fn}{p:Fu}{d:Nat}(h:outOf l p=some d):(d=2->1<=p.1)/\(d=3->1<=p.2):=by obtain⟨hd,w⟩:=bD h;rw[f9]at w;obtain⟨g1,g2⟩:=oJ hd w;exact⟨λe=>by have:=g1 e;lia,λe=>by have:=g2 e;lia⟩
theorem expand{l:Fn}:∀{r:List Foot}{p p' q:Fu}{d k:Nat},Way l p' r q->d<4->(d=2->k<=p.1)->(d=3->k<=p.2)->p'=fL p d k->C3 (p::turns d r) q=cX p d k++r
 |[],p,p',q,d,k,hw,hd,h2,h3,e=>by
  cases hw;show C3 [p] p'=_
  rw[e];simp[C3,nF hd h2 h3]
 |(x,d2)::r,p,PP,q,d,k,hw,hd,h2,h3,e=>by
  cases hw with
  |cons h1 hw=>
   obtain⟨b2,b3⟩:=jX h1;obtain⟨Bp,_⟩:=bD h1;by_cases yw:d2=d
   ·subst yw;have et:turns d2 ((x,d2)::r)=turns d2 r:=by
     show(if d2=d2 then _ else _)=_
     rw[ah rfl]
    rw[et,expand (r:=r) (p:=p) (p':=Fx x d2) (k:=k+1) hw hd ?_ ?_ (by rw[e,iT hd]),vM,<- e]
    ·simp
    ·intro e2;have:=b2 e2;rw[e]at this;subst e2;simp[fL]at this;lia
    ·intro e3;have:=b3 e3;rw[e]at this;subst e3;simp[fL]at this;lia
   ·have et:turns d ((x,d2)::r)=x::turns d2 r:=by
     show(if d2=d then _ else _)=_
     rw[af yw]
    rw[et,FU,e,nF hd h2 h3,<- e];have:=expand (r:=r) (p:=x) (p':=Fx x d2) (q:=q) (d:=d2) (k:=1) hw Bp (λz=>b2 z) (λz=>b3 z) (by
     have:=iT (p:=x) (d:=d2) (k:=0) Bp;have e0:fL x d2 0=x:=by unfold fL;split<;>(try split)<;>(try split)<;>simp
     rw[e0]at this;exact this)
    rw[this];have es:cX x d2 1=[(x,d2)]:=by
     have e0:fL x d2 0=x:=by unfold fL;split<;>(try split)<;>(try split)<;>simp
     simp[cX,e0]
    rw[es];simp
theorem vX{l:Fn}{p:Fu}{d:Nat}{r:List Foot}{x:Foot}(h:Round l p ((p,d)::r))(hx:((p,d)::r).getLast?=some x)(jw:d≠x.2):
  cornersOf ((p,d)::r)=p::turns d r/\walkFeet (cornersOf ((p,d)::r))=(p,d)::r:=by
 have e1:cornersOf ((p,d)::r)=p::turns d r:=by
  unfold cornersOf;rw[hx];show(if d=x.2 then _ else _)=_
  rw[af jw]
 refine⟨e1,?_⟩;rw[e1];have hw:=h.way;cases hw with
 |cons h1 hw=>
  obtain⟨b2,b3⟩:=jX h1;obtain⟨hd,_⟩:=bD h1;have e0:fL p d 0=p:=by unfold fL;split<;>(try split)<;>(try split)<;>simp
  have:=expand (r:=r) (p:=p) (p':=Fx p d) (q:=p) (d:=d) (k:=1) hw hd b2 b3 (by
   have:=iT (p:=p) (d:=d) (k:=0) hd;rw[e0]at this;exact this)
  have es:cX p d 1=[(p,d)]:=by simp[cX,e0]
  rw[es]at this;simp only[List.singleton_append]at this;rw[<- this];show((p::turns d r).zip ((p::turns d r).drop 1++(p::turns d r).take 1)).flatMap _=_
  simp[C3]
theorem Way.nil_inv{l:Fn}{a b:Fu}(h:Way l a [] b):a=b:=by cases h;rfl
structure fR(l:Fn)(seen wu:List Fu):Prop where
 lD:BZ l seen
 all:∀q d,outOf l q=some d->q∈seen\/q∈wu
 row:wu.Pairwise λa b=>before a b=true
theorem iC{l:Fn}{q:Fu}{d:Nat}(h:outOf l q=some d):q∈pointsOf l:=by
 obtain⟨hd,w⟩:=bD h;unfold pointsOf;rw[uV];rw[f9]at w;obtain⟨a,b⟩:=q;have cd:d=0\/d=1\/d=2\/d=3:=Hb
 rcases cd with rfl|rfl|rfl|rfl
 ·simp[aZ,ne,cC]at w;exact cv.mpr ⟨(a,b),w.1,by simp⟩
 ·simp[aZ,nw]at w;obtain⟨x0,y0,m⟩:=bQ w.1;refine cv.mpr ⟨_,m,?_⟩;simp;lia
 ·simp[aZ,sw]at w;obtain⟨x0,y0,m⟩:=bQ w.1;refine cv.mpr ⟨_,m,?_⟩;simp;lia
 ·simp[aZ,se]at w;obtain⟨x0,y0,m⟩:=bQ w.1;refine cv.mpr ⟨_,m,?_⟩;simp;lia
theorem fR.start(l:Fn):fR l [] (pointsOf l):=⟨BZ.nil l,λq d h=>.inr (iC h),vS _⟩
theorem fR.skip{l:Fn}{seen r:List Fu}{p:Fu}(g:fR l seen (p::r))(h:p∈seen\/outOf l p=none):fR l seen r:=by
 refine⟨g.lD,λq d hq=>?_,(gf.mp g.row).2⟩;rcases g.all q d hq with h1|h1
 ·exact .inl h1
 ·rcases aq.mp h1 with rfl|h1
  ·rcases h with h|h
   ·exact .inl h
   ·rw[h]at hq;cases hq
  ·exact .inr h1
theorem fR.step{l:Fn}(hp:Ge l=false){seen r:List Fu}{p:Fu}{d:Nat}(g:fR l seen (p::r))(hs:p∉seen)(ho:outOf l p=some d){f:List Foot}(hf:f=follow l p (4*l.length+4) p d):
  Round l p f/\(∀y∈f.map (·.1),y∉seen)/\(∃r',f=(p,d)::r'/\cornersOf f=p::turns d r')/\walkFeet (cornersOf f)=f/\fR l (seen++f.map (·.1)) r:=by
 have R:=HK hp ho;rw[<- hf]at R;have fr:=R.way.fresh hp g.lD hs;have uw:∀y∈f.map (·.1),y=p\/before p y=true:=by
  intro y hy;obtain⟨x,hx,rfl⟩:=au.mp hy;rcases g.all x.1 x.2 (R.way.out x hx)with h1|h1
  ·exact absurd h1 (fr _ hy)
  ·rcases aq.mp h1 with h1|h1
   ·exact .inl h1
   ·exact .inr ((gf.mp g.row).1 _ h1)
 obtain⟨r',er⟩:∃r',f=(p,d)::r':=by rw[hf];exact⟨_,rfl⟩
 refine⟨R,fr,?_⟩;rw[er]at R uw fr ⊢;obtain⟨x,hx⟩:∃x,((p,d)::r').getLast?=some x:=by
  cases e:((p,d)::r').getLast? with
  |none=>simp at e
  |some x=>exact⟨x,rfl⟩
 have lh:Fx x.1 x.2=p:=by
  have key:∀{a:List Foot}{u v:Fu}{x:Foot},Way l u a v->a.getLast?=some x->Fx x.1 x.2=v:=by
   intro a u v x hw;induction hw with
   |nil u=>intro h;simp at h
   | @cons u v d' r h1 hw ih=>
    intro h;cases r with
    |nil=>cases hw;simp at h;rw[<- h]
    |cons z r=>exact ih (by simpa using h)
  exact key R.way hx
 have xm:x∈(p,d)::r':=List.mem_of_getLast? hx;have xo:=R.way.out x xm;obtain⟨hxd,_⟩:=bD xo;obtain⟨hd,_⟩:=bD ho;have hx23:x.2=2\/x.2=3:=by
  have cx:x.2=0\/x.2=1\/x.2=2\/x.2=3:=Hb
  have hl:=uw x.1 (au.mpr ⟨x,xm,rfl⟩);rw[cU]at hl;rcases cx with c|c|c|c
  ·exfalso;rw[c]at lh;simp[Fx]at lh;have a1:=congrArg Prod.fst lh;have a2:=congrArg Prod.snd lh;simp at a1 a2;rcases hl with h|h|h
   ·rw[h]at a1;lia
   ·lia
   ·lia
  ·exfalso;rw[c]at lh;simp[Fx]at lh;have a1:=congrArg Prod.fst lh;have a2:=congrArg Prod.snd lh;simp at a1 a2;rcases hl with h|h|h
   ·rw[h]at a2;lia
   ·lia
   ·lia
  ·exact .inl c
  ·exact .inr c
 have hd01:d=0\/d=1:=by
  have hw:=R.way;cases hw with
  |cons h1 hw=>
   have zp:Fx p d=p\/Fx p d∈((p,d)::r').map (·.1):=by
    cases r' with
    |nil=>exact .inl hw.nil_inv
    |cons z r2=>cases hw;right;simp
   have hl:Fx p d=p\/before p (Fx p d)=true:=by
    rcases zp with h|h
    ·exact .inl h
    ·exact uw _ h
   rw[cU]at hl;obtain⟨b2,b3⟩:=jX ho;have cx:d=0\/d=1\/d=2\/d=3:=Hb
   rcases cx with c|c|c|c
   ·exact .inl c
   ·exact .inr c
   ·exfalso;have:=b2 c;subst c;simp[Fx]at hl;rcases hl with h|h
    ·have a1:=congrArg Prod.fst h;simp at a1;lia
    ·lia
   ·exfalso;have:=b3 c;subst c;simp[Fx]at hl;rcases hl with h|h
    ·have a1:=congrArg Prod.snd h;simp at a1;lia
    ·lia
 have jw:d≠x.2:=Hb
 obtain⟨c1,c2⟩:=vX R hx jw;refine⟨⟨r',rfl,c1⟩,c2,g.lD.add R,λq e hq=>?_,(gf.mp g.row).2⟩;rcases g.all q e hq with h1|h1
 ·exact .inl (cg _ h1)
 ·rcases aq.mp h1 with rfl|h1
  ·exact .inl (bg _ (by simp))
  ·exact .inr h1
theorem fC{l:Fn}(hp:Ge l=false):∀{wu seen:List Fu},fR l seen wu ->
  ∃F:List Foot,(Gf l seen wu).flatMap walkFeet=F/\(∀x∈F,outOf l x.1=some x.2)/\(F.map (·.1)).Nodup/\(∀x∈F,x.1∉seen)/\∀w∈Gf l seen wu,∀q∈w,∃d,outOf l q=some d
 |[],seen,g=>⟨[],by simp[Gf],by simp,by simp,by simp,by simp[Gf]⟩
 |p::r,seen,g=>by
  by_cases hs:seen.contains p=true
  ·have e:Gf l seen (p::r)=Gf l seen r:=by
    show(if seen.contains p=true then _ else _)=_
    rw[ah hs]
   rw[e];exact fC hp (g.skip (.inl (by simpa using hs)))
  ·cases ho:outOf l p with
   |none=>
    have e:Gf l seen (p::r)=Gf l seen r:=by
     show(if seen.contains p=true then _ else match outOf l p with|none=>_|some d=>_)=_
     rw[af hs,ho]
    rw[e];exact fC hp (g.skip (.inr ho))
   |some d=>
    have e:Gf l seen (p::r)=cornersOf (follow l p (4*l.length+4) p d)::Gf l (seen++(follow l p (4*l.length+4) p d).map λ(x:Foot)=>x.1) r:=by
     show(if seen.contains p=true then _ else match outOf l p with|none=>_|some d=>_)=_
     rw[af hs,ho]
    obtain⟨R,fr,⟨r',er,ec⟩,ew,g2⟩:=g.step hp (by simpa using hs) ho rfl;obtain⟨F,h1,h2,h3,h4,h5⟩:=fC hp g2;refine⟨follow l p (4*l.length+4) p d++F,?_,?_,?_,?_,?_⟩
    ·rw[e,gd,ew,h1]
    ·intro x hx;rcases ax.mp hx with hx|hx
     ·exact R.way.out x hx
     ·exact h2 x hx
    ·rw[cf,da];refine⟨R.nd,h3,?_⟩;intro a ha b hb e2;obtain⟨x,hx,rfl⟩:=au.mp hb;exact h4 x hx (bg _ (e2▸ha))
    ·intro x hx;rcases ax.mp hx with hx|hx
     ·exact fr _ (au.mpr ⟨x,hx,rfl⟩)
     ·exact λhm=>h4 x hx (cg _ hm)
    ·intro w hw;rw[e]at hw;rcases aq.mp hw with rfl|hw
     ·intro q hq;have key:∀{a:List Foot}{d:Nat}{q:Fu},q∈turns d a->∃x∈a,x.1=q:=by
       intro a;induction a with
       |nil=>intro d q h;simp[turns]at h
       |cons x a ih=>
        intro d q h;unfold turns at h;split at h
        ·obtain⟨y,hy,e⟩:=ih h;exact⟨y,by simp[hy],e⟩
        ·rcases aq.mp h with e|h
         ·exact⟨x,by simp,e.symm⟩
         ·obtain⟨y,hy,e⟩:=ih h;exact⟨y,by simp[hy],e⟩
      have:q∈turns ((follow l p (4*l.length+4) p d).getLast?.elim 0 (·.2)) (follow l p (4*l.length+4) p d):=by
       unfold cornersOf at hq;cases e3:(follow l p (4*l.length+4) p d).getLast? with
       |none=>rw[e3]at hq;simp at hq
       |some z=>rw[e3]at hq;exact hq
      obtain⟨x,hx,e4⟩:=key this;exact⟨x.2,e4▸R.way.out x hx⟩
     ·exact h5 w hw
def uE(ws:List Walk):Prop:=∀w∈ws,∀p∈w,okP p
theorem jT:∀{ws:List Walk},uE ws->Fj (cZ ws)=walksText ws
 |[],_=>rfl
 |w::ws,h=>by
  have e:cZ (w::ws)=(gL w++[10])++cZ ws:=by simp[cZ]
  rw[e,gC,qG (h w (by simp)),jT λx hx=>h x (ao _ hx)];simp[walksText]
theorem rR{ws:List Walk}(h:uE ws):inB (cZ ws):=by
 intro x hx;obtain⟨w,hw,hx⟩:=cv.mp hx;rcases ax.mp hx with hx|hx
 ·rcases oX (h w hw) hx with h1|h1|h1<;>lia
 ·simp at hx;lia
theorem oV{ws:List Walk}(h:uE ws):parts 10 (cZ ws)=ws.map gL++[[]]:=by
 have:cZ ws=glue 10 (ws.map gL++[[]]):=by rw[mV,cZ,flatMap_map]
 rw[this];refine fU (by simp) λq hq=>?_
 rcases ax.mp hq with hq|hq
 ·obtain⟨w,hw,rfl⟩:=au.mp hq;intro e;rcases oX (h w hw) e with h1|h1|h1<;>lia
 ·simp at hq;subst hq;simp
theorem CU{p:Fu}:cB p≠[]:=by unfold cB glue glue pNum;split<;>simp
theorem AF{p q:Fu}(hp:okP p)(hq:okP q)(e:cB p=cB q):p=q:=by have h1:=gP hp;rw[e,gP hq]at h1;have h2:=Option.some.inj h1;have a:=congrArg Prod.fst h2;have b:=congrArg Prod.snd h2;simp[iP]at a b;exact Prod.ext Hb Hb
theorem map_inj{α β:Type}{f:α->β}:∀{a b:List α},(∀x∈a,∀y∈b,f x=f y->x=y)->a.map f=b.map f->a=b
 |[],[],_,_=>rfl
 |[],_::_,_,h=>by simp at h
 |_::_,[],_,h=>by simp at h
 |x::a,y::b,hf,h=>by simp at h;rw[hf x (by simp) y (by simp) h.1,map_inj (λu hu v hv=>hf u (by simp[hu]) v (by simp[hv])) h.2]
theorem JP{w v:Walk}(hw:∀p∈w,okP p)(hv:∀p∈v,okP p)(e:gL w=gL v):w=v:=by
 have key:∀{w:Walk},(∀p∈w,okP p)->w≠[]->parts 32 (gL w)=w.map cB:=by
  intro w hw jw;unfold gL;refine fU (by simpa using jw) λq hq=>?_
  obtain⟨p,hp,rfl⟩:=au.mp hq;intro e;rcases lI (hw p hp) e with h1|h1<;>lia
 have Ds:∀{w:Walk},(∀p∈w,okP p)->gL w=[]->w=[]:=by
  intro w hw e;by_cases h:w=[]
  ·exact h
  ·exfalso;have k:=key hw h;rw[e]at k;have:[([]:List Int)]=w.map cB:=k;cases w with
   |nil=>exact h rfl
   |cons p w=>simp at this;exact CU this.1
 by_cases h1:w=[]
 ·subst h1;exact(Ds hv e.symm).symm
 ·by_cases h2:v=[]
  ·subst h2;exact absurd (Ds hw e) h1
  ·have k1:=key hw h1;rw[e,key hv h2]at k1;exact map_inj (λx hx y hy=>AF (hw x hx) (hv y hy)) k1.symm
theorem vK{a b:List Walk}(ha:uE a)(hb:uE b)(h:walksText a=walksText b):a=b:=by
 rw[<- jT ha,<- jT hb]at h;have h:=tM (rR ha) (rR hb) h;have k:=oV ha;rw[h,oV hb]at k;have k:a.map gL=b.map gL:=by simpa using k.symm
 exact map_inj (λx hx y hy=>JP (ha x hx) (hb y hy)) k
noncomputable def bK(x y:Nat)(f:Foot):Bool:=(f.2==1&& f.1==(x,y))||(f.2==3&& f.1==(x,y+1))
noncomputable def bV(F:Nat->Nat->Bool)(y:Nat):Nat->Bool
 |0=>F 0 y
 |x+1=>xor (bV F y x) (F (x+1) y)
noncomputable def aW(F:Nat->Nat->Bool):Fn:=(List.range SIDE).flatMap λy=>((List.range SIDE).map λx=>((x,y):Cell)).filter λc=>bV F c.2 c.1
theorem tH(F:List Foot)(y:Nat):wallsWest F (0,y)=F.countP (bK 0 y):=by
 unfold wallsWest;refine List.countP_congr λf _=>?_
 obtain⟨⟨a,b⟩,k⟩:=f;show(decide (a<=0)&& ((k==1&& b==y)||(k==3&& b==y+1)))=true↔((k==1&& (a==0&& b==y))||(k==3&& (a==0&& b==y+1)))=true
 rw[show(a==0)=decide (a<=0)from df.mpr (by rw[beq_iff_eq,decide_eq_true_iff];exact Nat.le_zero.symm)];cases decide (a<=0)
 ·simp only[Bool.false_and,Bool.and_false,Bool.or_false]
 ·simp only[Bool.true_and]
theorem xV{α:Type}{p q r:α->Bool}:∀{l:List α},(∀x∈l,r x=(p x||q x))->(∀x∈l,¬(p x=true/\q x=true))->l.countP r=l.countP p+l.countP q
 |[],_,_=>by simp
 |x::l,h1,h2=>by have ih:=xV (l:=l) (λy hy=>h1 y (by simp[hy])) (λy hy=>h2 y (by simp[hy]));have a:=h1 x (by simp);have b:=h2 x (by simp);rw[ib,ib,ib,ih,a];cases hp:p x<;>cases hq:q x<;>simp_all<;>lia
theorem tI(F:List Foot)(x y:Nat):wallsWest F (x+1,y)=wallsWest F (x,y)+F.countP (bK (x+1) y):=by
 unfold wallsWest;refine xV (λf _=>?_) λf _ h=>?_
 ·obtain⟨⟨a,b⟩,k⟩:=f;show(decide (a<=x+1)&& ((k==1&& b==y)||(k==3&& b==y+1)))=((decide (a<=x)&& ((k==1&& b==y)||(k==3&& b==y+1)))||((k==1&& (a==x+1&& b==y))||(k==3&& (a==x+1&& b==y+1))))
  by_cases c:a=x+1
  ·rw[decide_eq_true (iq c),decide_eq_false Hb,show(a==x+1)=true from beq_iff_eq.mpr c];rfl
  ·rw[show decide (a<=x+1)=decide (a<=x)from decide_eq_decide.mpr Hb,show(a==x+1)=false from beq_eq_false_iff_ne.mpr c];simp only[Bool.false_and,Bool.and_false,Bool.or_false]
 ·obtain⟨⟨a,b⟩,k⟩:=f;have h1:(decide (a<=x)&& ((k==1&& b==y)||(k==3&& b==y+1)))=true:=h.1;have h2:((k==1&& (a==x+1&& b==y))||(k==3&& (a==x+1&& b==y+1)))=true:=h.2;have e:a<=x:=bq (Bool.and_eq_true_iff.mp h1).1;rw[show(a==x+1)=false from beq_eq_false_iff_ne.mpr Hb]at h2;simp only[Bool.false_and,Bool.and_false,Bool.or_false]at h2;cases h2
theorem B4{F:List Foot}(h:∀x y,F.countP (bK x y)<=1)(y:Nat):∀x,bV (λx y=>F.any (bK x y)) y x=(wallsWest F (x,y)%2==1):=by
 have one:∀x,F.any (bK x y)=(F.countP (bK x y)==1):=by
  intro x;have:=h x y;cases e:F.any (bK x y)with
  |true=>
   have:0<F.countP (bK x y):=by rw[List.countP_pos_iff];exact fe.mp e
   have:F.countP (bK x y)=1:=Hb
   simp[this]
  |false=>
   have:F.countP (bK x y)=0:=by rw[List.countP_eq_zero];intro a ha q;have:F.any (bK x y)=true:=fe.mpr ⟨a,ha,q⟩;rw[e]at this;cases this
   simp[this]
 intro x;induction x with
 |zero=>
  show F.any (bK 0 y)=_
  rw[tH,one];have:=h 0 y;rw[df];simp;lia
 |succ x ih=>
  show xor (bV _ y x) (F.any (bK (x+1) y))=_
  rw[tI,ih,one];have:=h (x+1) y;rw[df];have hx:∀a b:Nat,b<=1->(((a%2==1)^^ (b==1))=true↔((a+b)%2==1)=true):=by
   intro a b hb;have:b=0\/b=1:=Hb
   rcases this with rfl|rfl
   ·simp
   ·have:a%2=0\/a%2=1:=Hb
    rcases this with q|q
    ·simp[q];lia
    ·simp[q];lia
  exact hx _ _ this
theorem E6(ws:List Walk):cellsIn ws=(List.range SIDE).flatMap λy=>((List.range SIDE).map λx=>((x,y):Cell)).filter λc=>wallsWest (ws.flatMap walkFeet) c%2==1:=by
 unfold cellsIn;dsimp only;congr 1;funext y;have By:∀x,wallsWest (((ws.flatMap walkFeet).filter λ(x:Foot)=>x.2==1||x.2==3).filter λ(x:Foot)=>x.1.2==y||x.1.2==y+1) (x,y)=wallsWest (ws.flatMap walkFeet) (x,y):=by
  intro x;unfold wallsWest;rw[List.countP_filter,List.countP_filter];refine List.countP_congr λf _=>?_
  simp;lia
 split
 ·rename_i e;symm;rw[List.filter_eq_nil_iff];intro c hc;obtain⟨x,_,rfl⟩:=au.mp hc;have w:=By x;rw[List.isEmpty_iff.mp e]at w;rw[<- w];simp[wallsWest]
 ·refine jf λc hc=>?_
  obtain⟨x,_,rfl⟩:=au.mp hc;rw[By x]
theorem xW{ws:List Walk}(h:∀x y,(ws.flatMap walkFeet).countP (bK x y)<=1):cellsIn ws=aW λx y=>(ws.flatMap walkFeet).any (bK x y):=by
 rw[E6,aW];congr 1;funext y;refine jf λc hc=>?_
 obtain⟨x,_,rfl⟩:=au.mp hc;rw[B4 h]
noncomputable def sE(a b:Fu)(x y:Nat):Bool:=a.1==b.1&& (a.1==x&& (decide (min a.2 b.2<=y)&& decide (y<max a.2 b.2)))
theorem KZ(a b:Fu)(x y:Nat):(feet a b).any (bK x y)=sE a b x y:=by
 rw[df,fe];unfold feet;constructor
 ·rintro⟨f,hf,hv⟩;by_cases h1:a.2=b.2
  ·rw[ah h1]at hf;split at hf
   ·obtain⟨i,_,rfl⟩:=au.mp hf;simp[bK]at hv
   ·obtain⟨i,_,rfl⟩:=au.mp hf;simp[bK]at hv
  ·rw[af h1]at hf;by_cases h2:a.1=b.1
   ·rw[ah h2]at hf;split at hf
    ·obtain⟨i,hi,rfl⟩:=au.mp hf;simp[bK,Prod.ext_iff]at hv hi;simp[sE];lia
    ·obtain⟨i,hi,rfl⟩:=au.mp hf;simp[bK,Prod.ext_iff]at hv hi;simp[sE];lia
   ·rw[af h2]at hf;simp at hf
 ·intro h;simp[sE]at h;obtain⟨h1,h2,h3,h4⟩:=h;have jw:a.2≠b.2:=Hb
  rw[af jw,ah h1];by_cases ka:a.2<b.2
  ·rw[ah ka];refine⟨((a.1,y),1),au.mpr ⟨y - a.2,by simp;lia,?_⟩,by simp[bK,Prod.ext_iff];lia⟩;simp[Prod.ext_iff];lia
  ·rw[af ka];refine⟨((a.1,y+1),3),au.mpr ⟨a.2 - (y+1),by simp;lia,?_⟩,by simp[bK,Prod.ext_iff];lia⟩;simp[Prod.ext_iff];lia
noncomputable def dJ(ws:List Walk)(x y:Nat):Bool:=ws.any λw=>(sides w).any λs=>sE s.1 s.2 x y
theorem HJ(ws:List Walk)(x y:Nat):(ws.flatMap walkFeet).any (bK x y)=dJ ws x y:=by unfold dJ walkFeet;rw[List.any_flatMap];congr 1;funext w;rw[List.any_flatMap];congr 1;funext s;exact KZ s.1 s.2 x y
theorem lT{l:Fn}(h:isHouse l=true):l≠[]/\l.length<=256/\(Hh l)/\rising l=true/\Ge l=false:=by
 unfold isHouse at h;cases l with
 |nil=>simp at h
 |cons c r=>
  simp[Roof.within,SIDE,CELLS]at h;obtain⟨h1,h2,h3,h4,h5⟩:=h;refine⟨by simp,by simpa using h1,?_,h3,h5⟩;intro x hx;rcases aq.mp hx with rfl|hx
  ·exact⟨bq h2.1.1,bq h2.1.2⟩
  ·exact⟨bq (h2.2 x.1 x.2 hx).1,bq (h2.2 x.1 x.2 hx).2⟩
theorem LV{l:Fn}(h:Hh l){q:Fu}{d:Nat}(ho:outOf l q=some d):okP q:=by have:=iC ho;unfold pointsOf at this;rw[uV]at this;obtain⟨c,hc,hq⟩:=cv.mp this;have:=h c hc;simp at hq;rcases hq with rfl|rfl|rfl|rfl<;>(constructor<;>(try simp only)<;>lia)
theorem rZ{l:Fn}(h:isHouse l=true):uE (walksOf l)/\∀x y,((walksOf l).flatMap walkFeet).countP (bK x y)<=1:=by
 obtain⟨_,_,hb,_,hp⟩:=lT h;obtain⟨F,h1,h2,h3,_,h5⟩:=fC hp (fR.start l);refine⟨λw hw p hpw=>?_,λx y=>?_⟩
 ·obtain⟨d,hd⟩:=h5 w hw p hpw;exact LV hb hd
 ·show((Gf l [] (pointsOf l)).flatMap walkFeet).countP _<=1
  rw[h1];have nd:=pA h3;have uniq:∀f∈F,∀g∈F,bK x y f=true->bK x y g=true->f=g:=by
   intro f hf g hg vf vg;have of:=h2 f hf;have og:=h2 g hg;obtain⟨⟨a,b⟩,d⟩:=f;obtain⟨⟨a',b'⟩,d'⟩:=g;simp[bK,Prod.ext_iff]at vf vg;obtain⟨_,w1⟩:=bD of;obtain⟨_,w2⟩:=bD og;rw[f9]at w1 w2;rcases vf with⟨e1,e2,e3⟩|⟨e1,e2,e3⟩<;>rcases vg with⟨g1,g2,g3⟩|⟨g1,g2,g3⟩
   ·subst e1 e2 e3 g1 g2 g3;rfl
   ·exfalso;subst e1 e2 e3 g1 g2 g3;simp[aZ,ne,se]at w1 w2;rw[w1.2]at w2;simp at w2
   ·exfalso;subst e1 e2 e3 g1 g2 g3;simp[aZ,ne,se]at w1 w2;rw[w2.2]at w1;simp at w1
   ·subst e1 e2 e3 g1 g2 g3;rfl
  have key:∀{F:List Foot},F.Nodup->(∀f∈F,∀g∈F,bK x y f=true->bK x y g=true->f=g)->F.countP (bK x y)<=1:=by
   intro F;induction F with
   |nil=>intro _ _;simp
   |cons f F ih=>
    intro nd u;obtain⟨n1,n2⟩:=dh.mp nd;rw[ib];by_cases hv:bK x y f=true
    ·have:F.countP (bK x y)=0:=by rw[List.countP_eq_zero];intro g hg vg;have:=u f (by simp) g (by simp[hg]) hv vg;exact n1 (this▸hg)
     simp[this,hv]
    ·have:=ih n2 λa ha b hb=>u a (by simp[ha]) b (by simp[hb])
     simp[hv];lia
  exact key nd uniq
noncomputable def KJ(ws:List Walk):Option Fn:=if isHouse (aW (dJ ws))=true/\walksOf (aW (dJ ws))=ws then some (aW (dJ ws))else none
theorem uZ(ws:List Walk):(λx y=>(ws.flatMap walkFeet).any (bK x y))=dJ ws:=by funext x y;exact HJ ws x y
theorem DN{t:List Int}(ht:inB t){ws:List Walk}(o:CW ws)(e:eM t=some (iWs ws)):houseOf (Fj t)=KJ ws:=by
 have inj:∀{a b:List Walk},iWs a=iWs b->a=b:=by intro a b h;refine map_inj (λx _ y _ q=>map_inj (λp _ p' _ r=>?_) q) h;have a1:=congrArg Prod.fst r;have a2:=congrArg Prod.snd r;simp[iP]at a1 a2;exact Prod.ext Hb Hb
 have hr:readWalks (Fj t)=.ok ws:=by
  cases q:readWalks (Fj t)with
  |error p=>rw[GA q]at e;cases e
  |ok v=>have:=(reads ht q).1;rw[e]at this;rw[inj (Option.some.inj this)]
 have hx:=(oR hr).2;have okp:uE ws:=λw hw=>(o.2 w hw).2
 unfold houseOf;rw[hr];dsimp only;unfold KJ;by_cases h1:isHouse (cellsIn ws)=true/\textOf (cellsIn ws)=Fj t
 ·rw[ah h1];obtain⟨k1,k2⟩:=rZ h1.1;have hw:walksOf (cellsIn ws)=ws:=vK k1 okp (by rw[<- hx];exact h1.2);rw[hw]at k2;have e2:=xW k2;rw[uZ]at e2;rw[<- e2,ah ⟨h1.1,hw⟩]
 ·rw[af h1];by_cases h2:isHouse (aW (dJ ws))=true/\walksOf (aW (dJ ws))=ws
  ·exfalso;obtain⟨k1,k2⟩:=rZ h2.1;rw[h2.2]at k2;have e2:=xW k2;rw[uZ]at e2;refine h1 ⟨by rw[e2];exact h2.1,?_⟩;rw[e2,textOf,h2.2,hx]
  ·rw[af h2]
theorem DO{t:List Int}(ht:inB t)(e:eM t=none):houseOf (Fj t)=none:=by
 unfold houseOf;cases q:readWalks (Fj t)with
 |error p=>rfl
 |ok v=>have:=(reads ht q).1;rw[e]at this;cases this
noncomputable def aK(p:Pl)(s:Nat):Pl:=if s=0 then(p.1,p.2 - 1)else if s=1 then(p.1+1,p.2)else if s=2 then(p.1,p.2+1)else(p.1 - 1,p.2)
theorem gO{a b:Fu}(h:iP a=iP b):a=b:=by have a1:=congrArg Prod.fst h;have a2:=congrArg Prod.snd h;simp[iP]at a1 a2;exact Prod.ext Hb Hb
theorem iH{l:Fn}{x:Cell}:iP x∈iW l↔x∈l:=by
 constructor
 ·intro h;obtain⟨y,hy,e⟩:=au.mp h;exact gO e▸hy
 ·exact λh=>au.mpr ⟨x,h,rfl⟩
theorem iS{x y:Cell}:y∈beside x↔∃s,s<4/\iP y=aK (iP x) s:=by
 obtain⟨a,b⟩:=x;obtain⟨u,v⟩:=y;constructor
 ·intro h;unfold beside at h;rw[ax,ax]at h;rcases h with h|h|h
  ·simp at h;rcases h with⟨rfl,rfl⟩|⟨rfl,rfl⟩
   ·exact⟨1,Hb,by simp[iP,aK]⟩
   ·exact⟨2,Hb,by simp[iP,aK]⟩
  ·split at h
   ·simp at h;obtain⟨rfl,rfl⟩:=h;rename_i q;exact⟨3,Hb,by simp[iP,aK];simp at q;lia⟩
   ·simp at h
  ·split at h
   ·simp at h;obtain⟨rfl,rfl⟩:=h;rename_i q;exact⟨0,Hb,by simp[iP,aK];simp at q;lia⟩
   ·simp at h
 ·rintro⟨s,hs,e⟩;have cs:s=0\/s=1\/s=2\/s=3:=Hb
  unfold beside;rw[ax,ax];rcases cs with rfl|rfl|rfl|rfl
  ·simp[iP,aK]at e;right;right;rw[ah (show 0<b by lia)];simp;lia
  ·simp[iP,aK]at e;left;simp;lia
  ·simp[iP,aK]at e;left;simp;lia
  ·simp[iP,aK]at e;right;left;rw[ah (show 0<a by lia)];simp;lia
inductive iK (l:Fn) (c:Cell):Cell->Prop where
 |refl:iK l c c
 |step {x y:Cell}:iK l c x->y∈beside x->y∈l->iK l c y
theorem BU{l:Fn}{c:Cell}{R:List Cell}(h0:c∈R)(hc:∀x∈R,∀y∈beside x,y∈l->y∈R):∀x,iK l c x->x∈R:=by
 intro x h;induction h with
 |refl=>exact h0
 |step _ h1 h2 ih=>exact hc _ ih _ h1 h2
theorem zY{α:Type}[DecidableEq α]{R l:List α}(hR:R.Nodup)(hl:l.Nodup)(hs:∀x∈R,x∈l):R.length=l.length↔∀x∈l,x∈R:=by
 constructor
 ·intro e x hx;apply Classical.byContradiction;intro hn;have:=c7 (a:=R) (b:=l.erase x) hR λy hy=>(List.mem_erase_of_ne (λ(q:y=x)=>hn (q▸hy))).mpr (hs y hy)
  rw[List.length_erase_of_mem hx]at this;have:0<l.length:=List.length_pos_of_mem hx;lia
 ·intro h;exact Nat.le_antisymm (c7 hR hs) (c7 hl h)
theorem kN{α:Type}[BEq α][LawfulBEq α]:∀(n:Nat)(l:List α),l.length<=n->l.eraseDups.Nodup
 |0,l,h=>by have:l=[]:=List.length_eq_zero_iff.mp Hb;subst this;simp
 |n+1,[],h=>by simp
 |n+1,a::l,h=>by
  rw[List.eraseDups_cons];refine dh.mpr ⟨λhm=>?_,kN n _ ?_⟩
  ·rw[List.mem_eraseDups]at hm;simp at hm
  ·have:=ff (λb=>!b==a) l;simp at h;lia
structure FQ(l:Fn)(c:Cell)(R:List Cell):Prop where
 nd:R.Nodup
 sub:∀x∈R,x∈l
 conn:∀x∈R,iK l c x
 start:c∈R
theorem wL{l:Fn}{c:Cell}:∀(f:Nat)(seen new:List Cell),FQ l c seen->(∀x∈new,x∈seen)->(∀x∈seen,x∉new->∀y∈beside x,y∈l->y∈seen)->l.length<seen.length+f ->
  FQ l c (reach l f seen new)/\∀x∈reach l f seen new,∀y∈beside x,y∈l->y∈reach l f seen new
 |0,seen,new,h,_,_,hl=>by have:=c7 h.nd h.sub;lia
 |f+1,seen,new,h,hn,hc,hl=>by
  have eR:reach l (f+1) seen new=(if((new.flatMap beside).filter λ(c:Cell)=>l.contains c&& !seen.contains c).eraseDups=[]then seen else
   reach l f (seen++((new.flatMap beside).filter λ(c:Cell)=>l.contains c&& !seen.contains c).eraseDups) ((new.flatMap beside).filter λ(c:Cell)=>l.contains c&& !seen.contains c).eraseDups):=rfl
  rw[eR];generalize hN:((new.flatMap beside).filter λ(c:Cell)=>l.contains c&& !seen.contains c).eraseDups=N;have hm:∀y,y∈N↔(∃x∈new,y∈beside x)/\y∈l/\y∉seen:=by intro y;rw[<- hN,List.mem_eraseDups,bu,cv];simp
  have qk:N.Nodup:=hN▸kN _ _ (aw _);have Ep:∀x∈seen,∀y∈beside x,y∈l->y∈seen\/y∈N:=by
   intro x hx y hy uz;by_cases hxn:x∈new
   ·by_cases hys:y∈seen
    ·exact .inl hys
    ·exact .inr ((hm y).mpr ⟨⟨x,hxn,hy⟩,uz,hys⟩)
   ·exact .inl (hc x hx hxn y hy uz)
  by_cases he:N=[]
  ·rw[ah he];refine⟨h,λx hx y hy uz=>?_⟩;rcases Ep x hx y hy uz with q|q
   ·exact q
   ·rw[he]at q;simp at q
  ·rw[af he];refine wL f (seen++N) N ⟨?_,?_,?_,cg _ h.start⟩ (λx hx=>bg _ hx) ?_ ?_
   ·rw[da];refine⟨h.nd,qk,λa ha b hb e=>?_⟩;exact((hm b).mp hb).2.2 (e▸ha)
   ·intro x hx;rcases ax.mp hx with hx|hx
    ·exact h.sub x hx
    ·exact((hm x).mp hx).2.1
   ·intro x hx;rcases ax.mp hx with hx|hx
    ·exact h.conn x hx
    ·obtain⟨⟨z,hz,q⟩,hl,_⟩:=(hm x).mp hx;exact .step (h.conn z (hn z hz)) q hl
   ·intro x hx hxn y hy uz;rcases ax.mp hx with hx|hx
    ·rcases Ep x hx y hy uz with q|q
     ·exact cg _ q
     ·exact bg _ q
    ·exact absurd hx hxn
   ·have:0<N.length:=fy.mpr he;rw[aj];lia
theorem qK{l:Fn}(hl:l.Nodup){c:Cell}(hc:c∈l):(reach l l.length [c] [c]).length=l.length↔∀x∈l,iK l c x:=by
 obtain⟨h,oo⟩:=wL l.length [c] [c] (l:=l) (c:=c) ⟨by simp,by simpa using hc,by intro x hx;simp at hx;subst hx;exact .refl,by simp⟩ (by simp) (by intro x hx hn;exact absurd hx hn) (by simp);rw[zY h.nd hl h.sub];constructor
 ·exact λq x hx=>h.conn x (q x hx)
 ·exact λq x hx=>BU h.start oo x (q x hx)
structure Dfs(l:Fn)(c:Cell)(reached pd:List Pl):Prop where
 nd:reached.Nodup
 sub:∀p∈reached,∃x∈l,p=iP x/\iK l c x
 wait:∀p∈pd,∀x∈l,p=iP x->iK l c x
 start:iP c∈reached\/iP c∈pd
 lD:∀p∈reached,∀s,s<4->aK p s∈iW l->aK p s∈reached\/aK p s∈pd
theorem Dfs.first{l:Fn}{c:Cell}:Dfs l c [] [iP c]:=
 ⟨by simp,by simp,by intro p hp x hx e;simp at hp;subst hp;rw[gO e];exact .refl,.inr (by simp),by simp⟩
theorem Dfs.skip{l:Fn}{c:Cell}{reached w:List Pl}{p:Pl}(h:Dfs l c reached (w++[p]))(hc:c∈l)(hp:p∉iW l\/p∈reached):Dfs l c reached w:=by
 refine⟨h.nd,h.sub,λq hq=>h.wait q (by simp[hq]),?_,λq hq s hs hm=>?_⟩
 ·rcases h.start with e|e
  ·exact .inl e
  ·rcases ax.mp e with e|e
   ·exact .inr e
   ·simp at e;rcases hp with hp|hp
    ·rw[<- e]at hp;exact absurd (iH.mpr hc) hp
    ·rw[e];exact .inl hp
 ·rcases h.lD q hq s hs hm with e|e
  ·exact .inl e
  ·rcases ax.mp e with e|e
   ·exact .inr e
   ·simp at e;rcases hp with hp|hp
    ·rw[e]at hm;exact absurd hm hp
    ·rw[e];exact .inl hp
theorem Dfs.take{l:Fn}{c:Cell}{reached w:List Pl}{p:Pl}(h:Dfs l c reached (w++[p]))(hp:p∈iW l)(hn:p∉reached):
  Dfs l c (reached++[p]) (w++[aK p 0,aK p 1,aK p 2,aK p 3]):=by
 obtain⟨x,hx,e⟩:=au.mp hp;have hcx:iK l c x:=h.wait p (by simp) x hx e.symm;refine⟨?_,?_,?_,?_,?_⟩
 ·rw[da];refine⟨h.nd,by simp,λa ha b hb=>?_⟩;simp at hb;subst hb;intro q;exact hn (q▸ha)
 ·intro q hq;rcases ax.mp hq with hq|hq
  ·exact h.sub q hq
  ·simp at hq;exact⟨x,hx,by rw[hq,e],hcx⟩
 ·intro q hq y hy ey;rcases ax.mp hq with hq|hq
  ·exact h.wait q (by simp[hq]) y hy ey
  ·have:y∈beside x:=by
    rw[iS];simp at hq;rcases hq with q0|q0|q0|q0
    ·exact⟨0,Hb,by rw[e,<- ey,q0]⟩
    ·exact⟨1,Hb,by rw[e,<- ey,q0]⟩
    ·exact⟨2,Hb,by rw[e,<- ey,q0]⟩
    ·exact⟨3,Hb,by rw[e,<- ey,q0]⟩
   exact .step hcx this hy
 ·rcases h.start with q|q
  ·exact .inl (by simp[q])
  ·rcases ax.mp q with q|q
   ·exact .inr (by simp[q])
   ·simp at q;exact .inl (by simp[q])
 ·intro q hq s hs hm;rcases ax.mp hq with hq|hq
  ·rcases h.lD q hq s hs hm with r|r
   ·exact .inl (by simp[r])
   ·rcases ax.mp r with r|r
    ·exact .inr (by simp[r])
    ·simp at r;exact .inl (by simp[r])
  ·simp at hq;subst hq;have cs:s=0\/s=1\/s=2\/s=3:=Hb
   right;rcases cs with rfl|rfl|rfl|rfl<;>simp
theorem Dfs.len{l:Fn}{c:Cell}{reached w:List Pl}(h:Dfs l c reached w):reached.length<=l.length:=by
 have:=c7 (b:=iW l) h.nd λp hp=>by obtain⟨x,hx,e,_⟩:=h.sub p hp;rw[e];exact iH.mpr hx
 simpa[iW]using this
theorem Dfs.done{l:Fn}(hl:l.Nodup){c:Cell}(hc:c∈l){reached:List Pl}(h:Dfs l c reached []):decide (reached.length=l.length)=((reach l l.length [c] [c]).length==l.length):=by
 have e1:(iW l).length=l.length:=by simp[iW]
 have nd:(iW l).Nodup:=d5 hl λx _ y _ e=>gO e
 have k1:=zY (R:=reached) (l:=iW l) h.nd nd λp hp=>by obtain⟨x,hx,e,_⟩:=h.sub p hp;rw[e];exact iH.mpr hx
 rw[e1]at k1;have k2:=qK hl hc;have k3:(∀x∈iW l,x∈reached)↔∀x∈l,iK l c x:=by
  constructor
  ·intro q x hx;obtain⟨y,hy,e,hcy⟩:=h.sub _ (q (iP x) (iH.mpr hx));rw[gO e];exact hcy
  ·intro q p hp;obtain⟨x,hx,rfl⟩:=au.mp hp;have key:∀x,iK l c x->iP x∈reached:=by
    intro x hcx;induction hcx with
    |refl=>
     rcases h.start with r|r
     ·exact r
     ·simp at r
    |step _ h1 h2 ih=>
     obtain⟨s,hs,e⟩:=iS.mp h1;rcases h.lD _ ih s hs (by rw[<- e];exact iH.mpr h2)with r|r
     ·rw[e];exact r
     ·simp at r
   exact key x (q x hx)
 rw[df];simp only[decide_eq_true_eq,beq_iff_eq];rw[k1,k3,k2]
noncomputable def bB(l:Fn)(p:Pl)(s:Nat):Bool:=!decide (aK p s∈iW l)&& (!decide (aK p ((s+1)%4)∈iW l)&& decide (aK (aK p s) ((s+1)%4)∈iW l))
theorem nS{l:Fn}{x y:Int}:(x,y)∈iW l↔inI l x y=true:=by
 constructor
 ·intro h;obtain⟨c,hc,e⟩:=au.mp h;have a1:=congrArg Prod.fst e;have a2:=congrArg Prod.snd e;simp[iP]at a1 a2;rw[<- a1,<- a2,cC];simpa using hc
 ·intro h;obtain⟨h1,h2,h3⟩:=bQ h;refine au.mpr ⟨_,h3,?_⟩;simp[iP];lia
theorem kI{l:Fn}{x y:Int}:decide ((x,y)∈iW l)=inI l x y:=by rw[df,decide_eq_true_eq];exact nS
theorem CM{l:Fn}:Ge l=(iW l).any λp=>bB l p 0||(bB l p 1||(bB l p 2||bB l p 3)):=by
 have m0:∀x y:Int,bB l (x,y) 0=(!inI l x (y - 1)&& (!inI l (x+1) y&& inI l (x+1) (y - 1))):=by intro x y;simp only[bB,aK];simp only[kI,ah,af (show¬((0+1)%4=0) by decide),ah (show(0+1)%4=1 by decide)]
 have m1:∀x y:Int,bB l (x,y) 1=(!inI l (x+1) y&& (!inI l x (y+1)&& inI l (x+1) (y+1))):=by intro x y;simp[bB,aK,kI]
 have m2:∀x y:Int,bB l (x,y) 2=(!inI l x (y+1)&& (!inI l (x - 1) y&& inI l (x - 1) (y+1))):=by intro x y;simp[bB,aK,kI]
 have m3:∀x y:Int,bB l (x,y) 3=(!inI l (x - 1) y&& (!inI l x (y - 1)&& inI l (x - 1) (y - 1))):=by intro x y;simp[bB,aK,kI]
 rw[df];constructor
 ·intro h;obtain⟨⟨a,b⟩,hc,q⟩:=fe.mp h;refine fe.mpr ⟨iP (a,b),iH.mpr hc,?_⟩;show(bB l ((a:Int),(b:Int)) 0||(bB l ((a:Int),(b:Int)) 1||(bB l ((a:Int),(b:Int)) 2||bB l ((a:Int),(b:Int)) 3)))=true
  rw[m1,m2];rw[gx]at q;rcases q with q|q
  ·simp only[bw,ie,Bool.or_eq_false_iff]at q;have b1:inI l ((a:Int)+1) ((b:Int)+1)=true:=by have:=cC l (a+1) (b+1);rw[q.1]at this;simpa using this
   have b2:inI l ((a:Int)+1) b=false:=by have:=cC l (a+1) b;rw[q.2.1]at this;simpa using this
   have b3:inI l (a:Int) ((b:Int)+1)=false:=by have:=cC l a (b+1);rw[q.2.2]at this;simpa using this
   simp[b1,b2,b3]
  ·simp only[bw,ie,Bool.or_eq_false_iff,decide_eq_true_eq]at q;obtain⟨q0,q1,q2,q3⟩:=q;have e:((a - 1:Nat):Int)=(a:Int) - 1:=by have:0<a:=q0;lia
   have b1:inI l ((a:Int) - 1) ((b:Int)+1)=true:=by have:=cC l (a - 1) (b+1);rw[q1,e]at this;simpa using this
   have b2:inI l ((a:Int) - 1) b=false:=by have:=cC l (a - 1) b;rw[q2,e]at this;simpa using this
   have b3:inI l (a:Int) ((b:Int)+1)=false:=by have:=cC l a (b+1);rw[q3]at this;simpa using this
   simp[b1,b2,b3]
 ·intro h;obtain⟨p,hp,q⟩:=fe.mp h;cases hb:Ge l with
  |true=>rfl
  |false=>
   exfalso;obtain⟨x,y⟩:=p;have hp:=nS.mp hp;rw[m0,m1,m2,m3]at q;simp only[gx,bw,ie]at q;rcases q with⟨q1,q2,q3⟩|⟨q1,q2,q3⟩|⟨q1,q2,q3⟩|⟨q1,q2,q3⟩
   ·
    refine(hZ hb (x+1) y).2 ⟨?_,?_,?_,?_⟩
    ·rw[nw,show x+1 - 1=x by lia];exact hp
    ·exact q3
    ·exact q2
    ·rw[sw,show x+1 - 1=x by lia];exact q1
   ·refine(hZ hb (x+1) (y+1)).1 ⟨?_,?_,?_,?_⟩
    ·rw[sw,show x+1 - 1=x by lia,show y+1 - 1=y by lia];exact hp
    ·exact q3
    ·rw[se,show y+1 - 1=y by lia];exact q1
    ·rw[nw,show x+1 - 1=x by lia];exact q2
   ·refine(hZ hb x (y+1)).2 ⟨?_,?_,?_,?_⟩
    ·exact q3
    ·rw[se,show y+1 - 1=y by lia];exact hp
    ·exact q1
    ·rw[sw,show y+1 - 1=y by lia];exact q2
   ·refine(hZ hb x y).1 ⟨?_,?_,?_,?_⟩
    ·exact q3
    ·exact hp
    ·exact q2
    ·exact q1
theorem nN:∀{l:Fn},rising l=true↔l.Pairwise λa b=>before a b=true
 |[]=>by simp[rising]
 |[a]=>by simp[rising]
 |a::b::r=>by
  have ih:=nN (l:=b::r);unfold rising;rw[bw,ih,gf (l:=b::r)];constructor
  ·rintro⟨h1,h2⟩;refine⟨λx hx=>?_,h2⟩;rcases aq.mp hx with rfl|hx
   ·exact h1
   ·exact kK h1 ((gf.mp h2).1 x hx)
  ·rintro⟨h1,h2⟩;exact⟨h1 b (by simp),h2⟩
theorem oE{F:Nat->Nat->Bool}{c:Cell}:c∈aW F↔c.1<64/\c.2<64/\bV F c.2 c.1=true:=by
 unfold aW SIDE;simp only[cv,bu,au,fj];constructor
 ·rintro⟨y,hy,⟨x,hx,rfl⟩,h⟩;exact⟨hx,hy,h⟩
 ·rintro⟨h1,h2,h3⟩;exact⟨c.2,h2,⟨c.1,h1,rfl⟩,h3⟩
theorem nJ(F:Nat->Nat->Bool):(aW F).Pairwise λa b=>before a b=true:=by
 unfold aW;rw[List.pairwise_flatMap];refine⟨λy _=>?_,?_⟩
 ·refine List.Pairwise.filter _ ?_;rw[gm];refine List.Pairwise.imp (λ{a b} h=>?_) List.pairwise_lt_range;rw[cU];exact .inr ⟨rfl,h⟩
 ·refine List.Pairwise.imp (λ{a b} h=>?_) List.pairwise_lt_range;intro x hx y hy;simp only[bu,au]at hx hy;obtain⟨⟨i,_,rfl⟩,_⟩:=hx;obtain⟨⟨j,_,rfl⟩,_⟩:=hy;rw[cU];exact .inl h
theorem uT{F:Nat->Nat->Bool}{c:Cell}{r:Fn}(e:aW F=c::r):
  isHouse (aW F)=(decide ((aW F).length<=256)&& (!pinched (aW F)&& ((reach (aW F) (aW F).length [c] [c]).length==(aW F).length))):=by
 have h1:(aW F).all Roof.within=true:=ia.mpr λx hx=>by have:=oE.mp hx;simp[Roof.within,SIDE];exact⟨decide_eq_true this.1,decide_eq_true this.2.1⟩
 have h2:=nN.mpr (nJ F);rw[e]at h1 h2 ⊢;show(decide ((c::r).length<=CELLS)&& ((c::r).all Roof.within&& (rising (c::r)&& ((reach (c::r) (c::r).length [c] [c]).length==(c::r).length&& !pinched (c::r)))))=_
 rw[h1,h2,Bool.true_and,Bool.true_and,Bool.and_comm (!pinched (c::r))];rfl
theorem B1:isHouse []=false:=rfl
def hP(r:Nat):Pl:=((iOf r:Int),(jOf r:Int))
def okR(r:Nat):Prop:=∃i j,i<128/\j<128/\r=raw i j
theorem z7{i j:Nat}(hi:i<128):iOf (raw i j)=i:=by unfold iOf raw W;lia
theorem z5{i j:Nat}(hi:i<128):jOf (raw i j)=j:=by unfold jOf raw W;lia
theorem d8{i j:Nat}(hi:i<128):hP (raw i j)=((i:Int),(j:Int)):=by unfold hP;rw[z7 hi,z5 hi]
theorem kC{r q:Nat}(hr:okR r)(hq:okR q)(e:hP r=hP q):r=q:=by
 obtain⟨i,j,hi,hj,rfl⟩:=hr;obtain⟨i',j',tw,Aq,rfl⟩:=hq;rw[d8 hi,d8 tw]at e;have a:=congrArg Prod.fst e;have b:=congrArg Prod.snd e;simp at a b;have a:i=i':=Hb
 have b:j=j':=Hb
 rw[a,b]
theorem JT{r:Nat}(h:okR r):r<W*W:=by obtain⟨i,j,hi,hj,rfl⟩:=h;unfold raw W;lia
theorem MO{L:List Nat}(hL:∀q∈L,okR q){r q:Nat}(hr:okR r){dx dy:Int}(h1:-1<=dx/\dx<=1)(h2:-1<=dy/\dy<=1)(hq:(q:Int)=r+130*dy+dx):
  q∈L↔((hP r).1+dx,(hP r).2+dy)∈L.map hP:=by
 obtain⟨i,j,hi,hj,rfl⟩:=hr;rw[d8 hi];constructor
 ·intro h;refine au.mpr ⟨q,h,?_⟩;obtain⟨i',j',tw,Aq,e⟩:=hL q h;rw[e,d8 tw];unfold raw W at e hq;apply Prod.ext
  ·simp;lia
  ·simp;lia
 ·intro h;obtain⟨z,hz,e⟩:=au.mp h;obtain⟨i',j',tw,Aq,ez⟩:=hL z hz;rw[ez,d8 tw]at e;have a:=congrArg Prod.fst e;have b:=congrArg Prod.snd e;simp at a b;have:z=q:=by rw[ez];unfold raw W at hq ⊢;lia
  rw[<- this];exact hz
noncomputable def b8(h:List Nat):Nat->List Nat
 |0=>h
 |k+1=>(b8 h k).filter λr=>(about r).all λq=>(b8 h k).contains q
noncomputable def cM(p:Pl):List Pl:=[(p.1+-1,p.2+-1),(p.1+0,p.2+-1),(p.1+1,p.2+-1),(p.1+-1,p.2+0),(p.1+1,p.2+0),(p.1+-1,p.2+1),(p.1+0,p.2+1),(p.1+1,p.2+1)]
noncomputable def aR(hs:List Pl):Nat->List Pl
 |0=>hs
 |k+1=>(aR hs k).filter λp=>(cM p).all λq=>(aR hs k).contains q
theorem lR(h:List Nat):∀k,∀r∈b8 h k,r∈h
 |0,r,hr=>hr
 |k+1,r,hr=>lR h k r (bu.mp hr).1
theorem k7{h:List Nat}(hh:∀r∈h,okR r)(k:Nat):∀r∈b8 h k,okR r:=λr hr=>hh r (lR h k r hr)
theorem IC{L:List Nat}(hL:∀q∈L,okR q){r:Nat}(hr:okR r):((about r).all λq=>L.contains q)=(cM (hP r)).all λq=>(L.map hP).contains q:=by
 obtain⟨i,j,hi,hj,e⟩:=id hr;have key:∀{q:Nat}{dx dy:Int},(-1<=dx/\dx<=1)->(-1<=dy/\dy<=1)->((q:Int)=r+130*dy+dx)->L.contains q=(L.map hP).contains ((hP r).1+dx,(hP r).2+dy):=by intro q dx dy h1 h2 hq;rw[df];simp only[jb];exact MO hL hr h1 h2 hq
 have Ag:131<=r:=by rw[e];unfold raw W;lia
 simp only[about,cM,List.all_cons,List.all_nil];rw[key (dx:=-1) (dy:=-1) Hb Hb (by unfold W;lia),key (dx:=0) (dy:=-1) Hb Hb (by unfold W;lia),key (dx:=1) (dy:=-1) Hb Hb (by unfold W;lia),
  key (dx:=-1) (dy:=0) Hb Hb Hb,key (dx:=1) (dy:=0) Hb Hb Hb,
  key (dx:=-1) (dy:=1) Hb Hb (by unfold W;lia),key (dx:=0) (dy:=1) Hb Hb (by unfold W;lia),key (dx:=1) (dy:=1) Hb Hb (by unfold W;lia)]
theorem d3{h:List Nat}(hh:∀r∈h,okR r):∀k,aR (h.map hP) k=(b8 h k).map hP
 |0=>rfl
 |k+1=>by
  have ih:=d3 hh k;show(aR (h.map hP) k).filter _=((b8 h k).filter _).map hP
  rw[ih,List.filter_map];have e:=jf (l:=b8 h k) (p:=(λp=>(cM p).all λq=>((b8 h k).map hP).contains q)∘hP) (q:=λr=>(about r).all λq=>(b8 h k).contains q) λr hr=>(IC (k7 hh k) (k7 hh k r hr)).symm
  rw[e]
theorem nU{h:List Nat}(hh:∀r∈h,okR r):∀k,∀p∈aR (h.map hP) k,(k:Int)<=p.1/\p.1+k<=127
 |0,p,hp=>by obtain⟨r,hr,rfl⟩:=au.mp hp;obtain⟨i,j,hi,hj,rfl⟩:=hh r hr;rw[d8 hi];simp;lia
 |k+1,p,hp=>by obtain⟨h1,h2⟩:=bu.mp hp;simp only[ia,jb]at h2;have a:=nU hh k _ (h2 (p.1+-1,p.2+0) (by simp[cM]));have b:=nU hh k _ (h2 (p.1+1,p.2+0) (by simp[cM]));simp at a b;simp;lia
theorem eS{h:List Nat}(hh:∀r∈h,okR r){k:Nat}(hk:64<=k):b8 h k=[]:=by
 have:=nU hh k;rw[d3 hh]at this;cases e:b8 h k with
 |nil=>rfl
 |cons r t=>rw[e]at this;have:=this (hP r) (by simp);lia
theorem rW{h:List Nat}{k:Nat}(e:b8 h k=[]):∀m,k<=m->b8 h m=[]
 |0,hm=>by
  have:k=0:=Hb
  rw[<- this];exact e
 |m+1,hm=>by
  by_cases hk:k=m+1
  ·rw[<- hk];exact e
  ·show(b8 h m).filter _=[]
   rw[rW e m Hb];rfl
noncomputable def gv(h:List Nat):Nat->Nat->Nat
 |0,_=>0
 |k+1,r=>if r∈b8 h k then k+1 else gv h k r
theorem OD(h:List Nat):∀k r,gv h k r<=k
 |0,r=>aw _
 |k+1,r=>by
  unfold gv;split
  ·exact aw _
  ·exact Nat.le_succ_of_le (OD h k r)
theorem PZ{h:List Nat}{k r:Nat}:k+1<=gv h (k+1) r↔r∈b8 h k:=by
 show k+1<=(if r∈b8 h k then k+1 else gv h k r)↔ _
 split
 ·rename_i q;simp[q]
 ·rename_i q;have:=OD h k r;simp[q];lia
theorem pI{h:List Nat}{k:Nat}(e:b8 h k=[])(r:Nat):∀m,k<=m->gv h m r=gv h k r
 |0,hm=>by
  have:k=0:=Hb
  rw[this]
 |m+1,hm=>by
  by_cases hk:k=m+1
  ·rw[hk]
  ·show(if r∈b8 h m then m+1 else gv h m r)=_
   rw[rW e m Hb,af (by simp)];exact pI e r m Hb
theorem u9(k:Nat):∀(l:List Nat)(g:Grid),(put g k l).size=g.size
 |[],g=>rfl
 |r::l,g=>by
  show(put (g.setIfInBounds r k) k l).size=_
  rw[u9 k l];simp
theorem yN(k:Nat):∀(l:List Nat)(g:Grid)(r:Nat),(∀x∈l,x<g.size)->(put g k l).val r=if r∈l then k else g.val r
 |[],g,r,_=>by simp[put]
 |x::l,g,r,h=>by
  show(put (g.setIfInBounds x k) k l).val r=_
  rw[yN k l _ r λy hy=>by simpa using h y (by simp[hy])];have hx:=h x (by simp);by_cases h1:r∈l
  ·simp[h1]
  ·rw[af h1];by_cases h2:r=x
   ·subst h2;simp only[aq,true_or,if_true];simp[Grid.val,dj,hx]
   ·have h3:¬r∈x::l:=by simp[h1,h2]
    rw[af h3];unfold Grid.val;simp only[dj,ji];rw[af (λe=>h2 e.symm)]
theorem zW{h:List Nat}(hh:∀r∈h,okR r):∀(f k:Nat)(g:Grid),g.size=W*W->(∀r,g.val r=gv h (k+1) r)->64<=f+k->∀r,(sink f (k+1) (b8 h k) g).val r=gv h (f+k+1) r
 |0,k,g,hs,hg,hk,r=>by
  show g.val r=_
  rw[hg];simp
 |f+1,k,g,hs,hg,hk,r=>by
  have en:((b8 h k).filter λ(r:Nat)=>(about r).all λ(q:Nat)=>decide (k+1<=g.val q))=b8 h (k+1):=by
   show _=(b8 h k).filter _
   refine jf λr hr=>?_
   congr 1;funext q;rw[df,decide_eq_true_eq,jb,hg];exact PZ
  show(if((b8 h k).filter λ(r:Nat)=>(about r).all λ(q:Nat)=>decide (k+1<=g.val q)).isEmpty=true then g else sink f (k+1+1) ((b8 h k).filter λ(r:Nat)=>(about r).all λ(q:Nat)=>decide (k+1<=g.val q)) (put g (k+1+1) ((b8 h k).filter λ(r:Nat)=>(about r).all λ(q:Nat)=>decide (k+1<=g.val q)))).val r=_
  rw[en];by_cases he:(b8 h (k+1)).isEmpty=true
  ·rw[ah he,hg];exact(pI (List.isEmpty_iff.mp he) r _ Hb).symm
  ·rw[af he];have lt:∀x∈b8 h (k+1),x<g.size:=λx hx=>by rw[hs];exact JT (k7 hh _ x hx)
   rw[zW hh f (k+1) _ (by rw[u9,hs]) (λx=>?_) Hb r]
   ·congr 1;lia
   ·rw[yN _ _ _ _ lt,hg];rfl
theorem BD{h:List Nat}(hh:∀r∈h,okR r){n:Nat}(hn:b8 h n=[])(r:Nat):(gridOf h).val r=gv h n r:=by
 unfold gridOf HALVES;have e:(put (Array.replicate (W*W) 0) 1 h).size=W*W:=by rw[u9];simp
 have lt:∀x∈h,x<(Array.replicate (W*W) (0:Nat)).size:=λx hx=>by have:=JT (hh x hx);simpa using this
 have z:∀r,Grid.val (Array.replicate (W*W) 0) r=0:=by intro r;unfold Grid.val;rw[dj,Array.getElem?_replicate];split<;>rfl
 have:=zW hh 128 0 (put (Array.replicate (W*W) 0) 1 h) e (λr=>by rw[yN _ _ _ _ lt,z];rfl) Hb r;show(sink 128 (0+1) (b8 h 0) _).val r=_
 rw[this];have Bv:=eS hh (aw 64);rw[pI Bv r _ Hb];by_cases hc:n<=64
 ·exact pI hn r 64 hc
 ·exact(pI Bv r n Hb).symm
noncomputable def hJ(hs:List Pl):Nat->Pl->Int
 |0,_=>-1
 |k+1,p=>if p∈aR hs k then k else hJ hs k p
theorem FH{h:List Nat}(hh:∀r∈h,okR r){r:Nat}(hr:okR r):∀k,hJ (h.map hP) k (hP r)=(gv h k r:Int) - 1
 |0=>rfl
 |k+1=>by
  have ih:=FH hh hr k;have e:hP r∈aR (h.map hP) k↔r∈b8 h k:=by
   rw[d3 hh];constructor
   ·intro q;obtain⟨z,hz,e⟩:=au.mp q;rw[<- kC (k7 hh k z hz) hr e];exact hz
   ·exact λq=>au.mpr ⟨r,q,rfl⟩
  show(if hP r∈aR (h.map hP) k then(k:Int)else hJ (h.map hP) k (hP r))=((if r∈b8 h k then k+1 else gv h k r:Nat):Int) - 1
  by_cases q:r∈b8 h k
  ·rw[ah (e.mpr q),ah q];lia
  ·rw[af (λz=>q (e.mp z)),af q,ih]
theorem xT{h:List Nat}(hh:∀r∈h,okR r){n:Nat}(hn:aR (h.map hP) n=[]){r:Nat}(hr:okR r):hJ (h.map hP) n (hP r)=((gridOf h).val r:Int) - 1:=by rw[d3 hh,List.map_eq_nil_iff]at hn;rw[FH hh hr,BD hh hn]
theorem z9{h:List Nat}(hh:∀r∈h,okR r){r:Nat}:0<(gridOf h).val r↔r∈h:=by
 have Bv:=eS hh (aw 64);rw[BD hh Bv];have key:∀k,0<gv h (k+1) r↔r∈h:=by
  intro k;induction k with
  |zero=>
   show 0<(if r∈h then 0+1 else 0)↔ _
   split<;>simp_all
  |succ k ih=>
   show 0<(if r∈b8 h (k+1)then k+1+1 else gv h (k+1) r)↔ _
   split
   ·rename_i q;simp[lR h _ r q]
   ·exact ih
 exact key 63
theorem KP{h:List Nat}(hh:∀r∈h,okR r){r:Nat}(hr:r∉h):(gridOf h).val r=0:=by
 have:¬0<(gridOf h).val r:=λq=>hr ((z9 hh).mp q)
 lia
noncomputable def rO(l:Fn):List Nat:=l.flatMap λ(c:Cell)=>[raw (2*c.1) (2*c.2),raw (2*c.1+1) (2*c.2),raw (2*c.1) (2*c.2+1),raw (2*c.1+1) (2*c.2+1)]
theorem nW{l:Fn}{r:Nat}:r∈Fc l↔r∈rO l:=by unfold Fc;rw[List.mem_mergeSort];rfl
theorem aL{l:Fn}(hb:Hh l):∀r∈Fc l,okR r:=by
 intro r hr;rw[nW]at hr;obtain⟨c,hc,h⟩:=cv.mp hr;have b:=hb c hc;simp at h;rcases h with rfl|rfl|rfl|rfl
 ·exact⟨_,_,Hb,Hb,rfl⟩
 ·exact⟨_,_,Hb,Hb,rfl⟩
 ·exact⟨_,_,Hb,Hb,rfl⟩
 ·exact⟨_,_,Hb,Hb,rfl⟩
theorem A4{l:Fn}(hl:l.Nodup)(hb:Hh l):(rO l).Nodup:=by
 induction l with
 |nil=>simp[rO]
 |cons c l ih=>
  obtain⟨n1,n2⟩:=dh.mp hl;have e:rO (c::l)=[raw (2*c.1) (2*c.2),raw (2*c.1+1) (2*c.2),raw (2*c.1) (2*c.2+1),raw (2*c.1+1) (2*c.2+1)]++rO l:=rfl;rw[e,da];have b:=hb c (by simp);refine⟨?_,ih n2 λx hx=>hb x (by simp[hx]),?_⟩
  ·simp[raw,W];lia
  ·intro a ha z hz e2;obtain⟨c',wg,h⟩:=cv.mp hz;have b':=hb c' (by simp[wg]);have:c=c':=by
    subst e2;simp[raw,W]at h ha;apply Prod.ext
    ·lia
    ·lia
   exact n1 (this▸wg)
theorem fZ{l:Fn}(hl:l.Nodup)(hb:Hh l):(Fc l).Pairwise (· < ·):=by
 have h1:(Fc l).Pairwise λa b=>decide (a<=b)=true:=List.pairwise_mergeSort (le:=λ(a b:Nat)=>decide (a<=b)) (by intro a b c h1 h2;simp at*;lia) (by intro a b;simp;lia) _
 have h2:(Fc l).Nodup:=(List.mergeSort_perm _ _).nodup_iff.mpr (A4 hl hb);have h3:(Fc l).Pairwise λa b=>decide (a<=b)=true/\a≠b:=List.pairwise_and_iff.mpr ⟨h1,h2⟩
 exact h3.imp λ{a b} ⟨q1,q2⟩=>by simp at q1;lia
def EK(a b:Pl):Prop:=a.2<b.2\/(a.2=b.2/\a.1<b.1)
def eX(a b:Pl):Prop:=a.2<b.2\/(a.2=b.2/\a.1<=b.1)
theorem tU{a b:Pl}(h1:eX a b)(h2:eX b a):a=b:=by unfold eX at*;exact Prod.ext Hb Hb
theorem BB{l:Fn}(hl:l.Nodup)(hb:Hh l):((Fc l).map hP).Pairwise eX:=by
 rw[gm];refine(fZ hl hb).imp_of_mem λ{a b} ha rn h=>?_
 obtain⟨i,j,hi,hj,rfl⟩:=aL hb a ha;obtain⟨i',j',tw,Aq,rfl⟩:=aL hb b rn;rw[d8 hi,d8 tw];unfold eX;unfold raw W at h;simp;lia
noncomputable def fD(cs:List Pl):List Pl:=cs.flatMap λc=>[(2*c.1+0,2*c.2+0),(2*c.1+1,2*c.2+0),(2*c.1+0,2*c.2+1),(2*c.1+1,2*c.2+1)]
theorem wM{l:Fn}(hb:Hh l):fD (iW l)=(rO l).map hP:=by
 induction l with
 |nil=>rfl
 |cons c l ih=>have b:=hb c (by simp);have e:rO (c::l)=[raw (2*c.1) (2*c.2),raw (2*c.1+1) (2*c.2),raw (2*c.1) (2*c.2+1),raw (2*c.1+1) (2*c.2+1)]++rO l:=rfl;have e2:fD (iW (c::l))=[(2*(c.1:Int)+0,2*(c.2:Int)+0),(2*(c.1:Int)+1,2*(c.2:Int)+0),(2*(c.1:Int)+0,2*(c.2:Int)+1),(2*(c.1:Int)+1,2*(c.2:Int)+1)]++fD (iW l):=rfl;rw[e,e2,ih λx hx=>hb x (by simp[hx]),cf];congr 1;simp only[bh,je];rw[d8 Hb,d8 Hb,d8 Hb,d8 Hb];simp
theorem vU{l:Fn}(hl:l.Nodup)(hb:Hh l){ys:List Pl}(hp:ys.Perm (fD (iW l)))(hs:ys.Pairwise eX):ys=(Fc l).map hP:=by refine List.Perm.eq_of_pairwise (le:=eX) (λa b _ _=>tU) hs (BB hl hb) (hp.trans ?_);rw[wM hb];exact(List.mergeSort_perm _ _).symm.map hP
def bS(h:List Nat)(p:Pl):Int:=if p∈h.map hP then hJ (h.map hP) 64 p else -1
theorem KO{h:List Nat}(hh:∀r∈h,okR r){X Y:Nat}(hX:X<=129):(((X:Int) - 1,(Y:Int) - 1)∈h.map hP)↔W*Y+X∈h:=by
 constructor
 ·intro q;obtain⟨r,hr,e⟩:=au.mp q;obtain⟨i,j,hi,hj,rfl⟩:=hh r hr;rw[d8 hi]at e;have a:=congrArg Prod.fst e;have b:=congrArg Prod.snd e;simp at a b;have:W*Y+X=raw i j:=by unfold raw W;lia
  rw[this];exact hr
 ·intro q;refine au.mpr ⟨_,q,?_⟩;obtain⟨i,j,hi,hj,e⟩:=hh _ q;rw[e,d8 hi];unfold raw W at e;apply Prod.ext
  ·simp;lia
  ·simp;lia
theorem pU{h:List Nat}(hh:∀r∈h,okR r){X Y:Nat}(hX:X<=129):bS h ((X:Int) - 1,(Y:Int) - 1)=((gridOf h).val (W*Y+X):Int) - 1:=by
 unfold bS;by_cases q:((X:Int) - 1,(Y:Int) - 1)∈h.map hP
 ·rw[ah q];have m:=(KO hh hX).mp q;have o:=hh _ m;have e:hP (W*Y+X)=((X:Int) - 1,(Y:Int) - 1):=by
   obtain⟨i,j,hi,hj,e⟩:=o;rw[e,d8 hi];unfold raw W at e;apply Prod.ext
   ·simp;lia
   ·simp;lia
  rw[<- e];exact xT hh (by rw[d3 hh,eS hh (aw 64)];rfl) o
 ·rw[af q,KP hh λm=>q ((KO hh hX).mpr m)];rfl
theorem HS{h:List Nat}(hh:∀r∈h,okR r){r:Nat}(hr:r∈h):bS h (hP r)=((gridOf h).val r:Int) - 1:=by unfold bS;rw[ah (au.mpr ⟨r,hr,rfl⟩)];exact xT hh (by rw[d3 hh,eS hh (aw 64)];rfl) (hh r hr)
noncomputable def cN(h:List Nat)(p:Pl):List Int:=[bS h (p.1+-1,p.2+-1)+1,bS h (p.1+0,p.2+-1)+1,bS h (p.1+-1,p.2+0)+1,bS h (p.1+0,p.2+0)+1]
theorem EB{h:List Nat}(hh:∀r∈h,okR r){X Y:Nat}(hX:X<=128):cN h ((X:Int),(Y:Int))=
  [((gridOf h).val (W*Y+X):Int),((gridOf h).val (W*Y+X+1):Int),((gridOf h).val (W*(Y+1)+X):Int),((gridOf h).val (W*(Y+1)+X+1):Int)]:=by
 have a:=pU hh (X:=X) (Y:=Y) Hb;have b:=pU hh (X:=X+1) (Y:=Y) Hb;have c:=pU hh (X:=X) (Y:=Y+1) Hb;have d:=pU hh (X:=X+1) (Y:=Y+1) Hb;have e1:(((X+1:Nat):Int) - 1)=(X:Int)+0:=Hb
 have e2:(((Y+1:Nat):Int) - 1)=(Y:Int)+0:=Hb
 rw[e1]at b d;rw[e2]at c d;have s1:(X:Int)+-1=(X:Int) - 1:=rfl;have s2:(Y:Int)+-1=(Y:Int) - 1:=rfl;unfold cN;simp only[s1,s2];rw[a,b,c,d];simp[Nat.add_assoc]
theorem D6{a b c d:Nat}{m:Int}(hm:m∈[(a:Int),(b:Int),(c:Int),(d:Int)])(qo:∀x∈[(a:Int),(b:Int),(c:Int),(d:Int)],m<=x):m=((min (min a b) (min c d):Nat):Int):=by have h1:=qo a (by simp);have h2:=qo b (by simp);have h3:=qo c (by simp);have h4:=qo d (by simp);simp at hm;lia
theorem HE{h:List Nat}(hh:∀r∈h,okR r){X Y:Nat}(hX:X<=128){m:Int}(hm:m∈cN h ((X:Int),(Y:Int)))(qo:∀x∈cN h ((X:Int),(Y:Int)),m<=x):m=(heightAt (gridOf h) X Y:Int):=by rw[EB hh hX]at hm qo;exact D6 hm qo
abbrev T3:=Int×Int×Int
def tP(t:Nat):T3:=((iOf (t/4):Int),(jOf (t/4):Int),((t%4:Nat):Int))
theorem bE{h:List Nat}{t:Nat}:t∈Fd h↔t/4∈h:=by
 unfold Fd;rw[cv];constructor
 ·rintro⟨r,hr,q⟩;simp at q;have:t/4=r:=Hb
  rw[this];exact hr
 ·intro q;refine⟨_,q,?_⟩;simp;lia
theorem OO{h:List Nat}(hh:∀r∈h,okR r){t u:Nat}(ht:t∈Fd h)(hu:u∈Fd h)(e:tP t=tP u):t=u:=by have a1:=congrArg (λz=>z.1) e;have a2:=congrArg (λz=>z.2.1) e;have a3:=congrArg (λz=>z.2.2) e;simp[tP]at a1 a2 a3;have:t/4=u/4:=kC (hh _ (bE.mp ht)) (hh _ (bE.mp hu)) (by unfold hP;rw[show iOf (t/4)=iOf (u/4) by lia,show jOf (t/4)=jOf (u/4) by lia]);lia
noncomputable def aE(p:Pl)(c:Nat):Pl:=if c%4=0 then(p.1+0,p.2+0)else if c%4=1 then(p.1+1,p.2+0)else if c%4=2 then(p.1+1,p.2+1)else(p.1+0,p.2+1)
theorem kJ(r c:Nat):aE (hP r) c=iP (cornerOf r c):=by
 unfold aE cornerOf hP iP;dsimp only;by_cases h0:c%4=0
 ·simp[h0]
 ·by_cases h1:c%4=1
  ·simp[h0,h1]
  ·by_cases h2:c%4=2
   ·simp[h0,h1,h2]
   ·simp[h0,h1,h2]
theorem HY{r c:Nat}(hr:okR r):(cornerOf r c).1<=128/\(cornerOf r c).2<=128:=by
 obtain⟨i,j,hi,hj,rfl⟩:=hr;unfold cornerOf;rw[z7 hi,z5 hi];dsimp only;split
 ·simp;lia
 ·split
  ·simp;lia
  ·split
   ·simp;lia
   ·simp;lia
noncomputable def HN(s:Nat)(u v k:Int):Int:=if u=k/\v=k then s else if v=k then((s:Int)+1)%4 else if u=k then((s:Int)+3)%4 else((s:Int)+2)%4
theorem NO{g:Grid}{t:Nat}(hv:0<g.val (t/4)):HN (t%4) (heightOf g (t/4) (t%4):Int) (heightOf g (t/4) (t%4+1):Int) ((g.val (t/4):Int) - 1)=(facingOf g t:Int):=by
 unfold HN facingOf;dsimp only;generalize heightOf g (t/4) (t%4)=u;generalize heightOf g (t/4) (t%4+1)=v;generalize hk:g.val (t/4)=k at*;have ek:(k:Int) - 1=((k - 1:Nat):Int):=Hb
 rw[ek];generalize k - 1=m;have c1:((u:Int)=(m:Int))↔u=m:=Hb
 have c2:((v:Int)=(m:Int))↔v=m:=Hb
 simp only[c1,c2];by_cases h1:u=m<;>by_cases h2:v=m<;>simp[h1,h2]<;>lia
theorem HM(g:Grid)(t:Nat):facingOf g t<4:=by
 unfold facingOf;dsimp only;split
 ·lia
 ·split
  ·lia
  ·split<;>lia
theorem xN{f:Nat->Nat}:∀(l:List Nat)(a:Array Nat),(l.foldl (λ(a:Array Nat)(t:Nat)=>a.setIfInBounds t (f t)) a).size=a.size
 |[],a=>rfl
 |t::l,a=>by rw[List.foldl_cons,xN l];simp
theorem v7{f:Nat->Nat}:∀(l:List Nat)(a:Array Nat)(t d:Nat),(∀x∈l,x<a.size)->(l.foldl (λ(a:Array Nat)(t:Nat)=>a.setIfInBounds t (f t)) a).getD t d=if t∈l then f t else a.getD t d
 |[],a,t,d,_=>by simp
 |x::l,a,t,d,h=>by
  rw[List.foldl_cons,v7 l _ t d λy hy=>by simpa using h y (by simp[hy])];have hx:=h x (by simp);by_cases h1:t∈l
  ·simp[h1]
  ·rw[af h1];by_cases h2:t=x
   ·subst h2;simp[dj,hx]
   ·have h3:¬t∈x::l:=by simp[h1,h2]
    rw[af h3];simp only[dj,ji];rw[af (λe=>h2 e.symm)]
theorem yE{h:List Nat}(hh:∀r∈h,okR r){t:Nat}(ht:t∈Fd h):t<4*W*W:=by obtain⟨i,j,hi,hj,e⟩:=hh _ (bE.mp ht);unfold raw W at e;unfold W;lia
noncomputable def nG(h:List Nat):Array Nat:=(Fd h).foldl (λ(a:Array Nat)(t:Nat)=>a.setIfInBounds t (facingOf (gridOf h) t)) (Array.replicate (4*W*W) 4)
noncomputable def uQ(h:List Nat):Array Nat:=(Fd h).foldl (λ(a:Array Nat)(t:Nat)=>a.setIfInBounds t NONE) (Array.replicate (4*W*W) 0)
theorem xS{h:List Nat}(hh:∀r∈h,okR r)(t:Nat):(nG h).getD t 4=if t∈Fd h then facingOf (gridOf h) t else 4:=by
 unfold nG;rw[v7 _ _ _ _ λx hx=>by simpa using yE hh hx];have:(Array.replicate (4*W*W) 4).getD t 4=4:=by rw[dj,Array.getElem?_replicate];split<;>rfl
 rw[this]
theorem uP{h:List Nat}(hh:∀r∈h,okR r)(t:Nat):(uQ h).getD t 0=if t∈Fd h then NONE else 0:=by
 unfold uQ;rw[v7 (f:=λ_=>NONE) _ _ _ _ λx hx=>by simpa using yE hh hx];have:(Array.replicate (4*W*W) 0).getD t 0=0:=by rw[dj,Array.getElem?_replicate];split<;>rfl
 rw[this]
theorem xD(h:List Nat):(uQ h).size=4*W*W:=by unfold uQ;rw[xN (f:=λ_=>NONE)];simp
section
variable {α:Type}
inductive Rch (ok:α->Prop) (nb:α->List α) (U:α->Prop) (t0:α):α->Prop where
 |refl:Rch ok nb U t0 t0
 |step {x u:α}:Rch ok nb U t0 x->u∈nb x->ok u->¬U u->Rch ok nb U t0 u
structure hV(ok:α->Prop)(nb:α->List α)(U:α->Prop)(t0:α)(N W:List α):Prop where
 new:∀x∈N,Rch ok nb U t0 x
 wait:∀x∈W,ok x->¬U x->Rch ok nb U t0 x
 start:t0∈N\/t0∈W
 lD:∀x∈N,∀u∈nb x,ok u->¬U u->u∈N\/u∈W
variable {ok:α->Prop}{nb:α->List α}{U:α->Prop}{t0:α}
theorem hV.first:hV ok nb U t0 [] [t0]:=⟨by simp,by intro x hx _ _;simp at hx;subst hx;exact .refl,.inr (by simp),by simp⟩
theorem hV.skip{N W W':List α}{x:α}(h:hV ok nb U t0 N W)(o0:ok t0)(u0:¬U t0)(h1:∀y∈W',y∈W)(h2:∀y∈W,y∈W'\/y=x)(hx:¬ok x\/U x\/x∈N):hV ok nb U t0 N W':=by
 have drop:∀y,ok y->¬U y->(y∈N\/y∈W)->y∈N\/y∈W':=by
  intro y oy uy hy;rcases hy with hy|hy
  ·exact .inl hy
  ·rcases h2 y hy with hy|rfl
   ·exact .inr hy
   ·rcases hx with hx|hx|hx
    ·exact absurd oy hx
    ·exact absurd hx uy
    ·exact .inl hx
 exact⟨h.new,λy hy=>h.wait y (h1 y hy),drop t0 o0 u0 h.start,λy hy u hu ou uu=>drop u ou uu (h.lD y hy u hu ou uu)⟩
theorem hV.take{N W W':List α}{x:α}(h:hV ok nb U t0 N W)(hx:x∈W)(ox:ok x)(ux:¬U x)(h1:∀y∈W',y∈W\/y∈nb x)(h2:∀y∈W,y∈W'\/y=x)(h3:∀u∈nb x,ok u->¬U u->u∈W'):hV ok nb U t0 (x::N) W':=by
 have rx:=h.wait x hx ox ux;have Ct:∀y,(y∈N\/y∈W)->y∈x::N\/y∈W':=by
  intro y hy;rcases hy with hy|hy
  ·exact .inl (by simp[hy])
  ·rcases h2 y hy with hy|rfl
   ·exact .inr hy
   ·exact .inl (by simp)
 refine⟨?_,?_,Ct t0 h.start,?_⟩
 ·intro y hy;rcases aq.mp hy with rfl|hy
  ·exact rx
  ·exact h.new y hy
 ·intro y hy oy uy;rcases h1 y hy with q|q
  ·exact h.wait y q oy uy
  ·exact .step rx q oy uy
 ·intro y hy u hu ou uu;rcases aq.mp hy with rfl|hy
  ·exact .inr (h3 u hu ou uu)
  ·exact Ct u (h.lD y hy u hu ou uu)
theorem hV.done{N:List α}(h:hV ok nb U t0 N [])(x:α):x∈N↔Rch ok nb U t0 x:=by
 constructor
 ·exact h.new x
 ·intro r;induction r with
  |refl=>
       rcases h.start with q|q
       ·exact q
       ·simp at q
  |step _ hu ou uu ih=>
              rcases h.lD _ ih _ hu ou uu with q|q
              ·exact q
              ·simp at q
theorem Rch.ok'{x:α}(h:Rch ok nb U t0 x)(o0:ok t0)(u0:¬U t0):ok x/\¬U x:=by
 cases h with
 |refl=>exact⟨o0,u0⟩
 |step _ _ ou uu=>exact⟨ou,uu⟩
end
def okN(fac:Array Nat)(t0:Nat)(u:Nat):Prop:=fac.getD u 4=fac.getD t0 4
def isU(lab:Array Nat)(u:Nat):Prop:=lab.getD u 0≠NONE
theorem lY{fac labU:Array Nat}{n t0:Nat}{ts:List Nat}(hn:n≠NONE)(Ac:∀u,¬isU labU u->u∈ts)(hsz:∀u∈ts,u<labU.size)(o0:¬isU labU t0):
  ∀(f:Nat)(stack N:List Nat)(lab:Array Nat),lab.size=labU.size->(∀t,lab.getD t 0=if t∈N then n else labU.getD t 0)->hV (okN fac t0) Gg (isU labU) t0 N stack->N.Nodup->(∀x∈N,x∈ts/\¬isU labU x)->(∀x∈stack,okN fac t0 x) ->
   stack.length+3*(ts.length - N.length)<=f->∃N':List Nat,(∀t,(fill fac n f stack lab).getD t 0=if t∈N' then n else labU.getD t 0)/\(fill fac n f stack lab).size=labU.size/\∀x,x∈N'↔Rch (okN fac t0) Gg (isU labU) t0 x
 |0,stack,N,lab,hs,hl,S,nd,hN,ho,hf=>by have:stack=[]:=List.length_eq_zero_iff.mp Hb;subst this;exact⟨N,hl,hs,S.done⟩
 |f+1,[],N,lab,hs,hl,S,nd,hN,ho,hf=>⟨N,hl,hs,S.done⟩
 |f+1,t::r,N,lab,hs,hl,S,nd,hN,ho,hf=>by
  have eF:fill fac n (f+1) (t::r) lab=if lab.getD t 0≠NONE then fill fac n f r lab else fill fac n f (((Gg t).filter λ(u:Nat)=>fac.getD u 4==fac.getD t 4)++r) (lab.setIfInBounds t n):=rfl
  rw[eF];by_cases hc:lab.getD t 0≠NONE
  ·rw[ah hc];refine lY hn Ac hsz o0 f r N lab hs hl (S.skip (x:=t) rfl o0 (λy hy=>by simp[hy]) (λy hy=>by simp at hy;exact hy.symm) ?_) nd hN (λx hx=>ho x (by simp[hx])) (by simp at hf;lia);rw[hl t]at hc;by_cases hm:t∈N
   ·exact .inr (.inr hm)
   ·rw[af hm]at hc;exact .inr (.inl hc)
  ·rw[af hc];have hc:lab.getD t 0=NONE:=Classical.byContradiction hc;have htN:t∉N:=by intro q;rw[hl t,ah q]at hc;exact hn hc
   have hU:¬isU labU t:=by rw[hl t,af htN]at hc;exact λq=>q hc
   have htt:t∈ts:=Ac t hU;have ka:t<lab.size:=by rw[hs];exact hsz t htt
   have Bj:=ho t (by simp);have nd':(t::N).Nodup:=dh.mpr ⟨htN,nd⟩;have Ej:∀x∈t::N,x∈ts/\¬isU labU x:=by
    intro x hx;rcases aq.mp hx with rfl|hx
    ·exact⟨htt,hU⟩
    ·exact hN x hx
   have len:=c7 nd' λx hx=>(Ej x hx).1
   refine lY hn Ac hsz o0 f _ (t::N) (lab.setIfInBounds t n) (by simpa using hs) (λu=>?_) (S.take (x:=t) (by simp) Bj hU ?_ ?_ ?_) nd' Ej ?_ ?_
   ·by_cases hu:u=t
    ·subst hu;simp[dj,ka]
    ·have e:(lab.setIfInBounds t n).getD u 0=lab.getD u 0:=by simp only[dj,ji];rw[af (λe=>hu e.symm)]
     rw[e,hl u];simp[hu]
   ·intro y hy;rcases ax.mp hy with hy|hy
    ·exact .inr (bu.mp hy).1
    ·exact .inl (by simp[hy])
   ·intro y hy;simp at hy;rcases hy with rfl|hy
    ·exact .inr rfl
    ·exact .inl (by simp[hy])
   ·intro u hu ou uu;refine cg _ (bu.mpr ⟨hu,?_⟩);have:fac.getD u 4=fac.getD t 4:=by have h1:fac.getD u 4=fac.getD t0 4:=ou;have h2:fac.getD t 4=fac.getD t0 4:=Bj;rw[h1,h2]
    simp[this]
   ·intro x hx;rcases ax.mp hx with hx|hx
    ·have q:=(bu.mp hx).2;have q:fac.getD x 4=fac.getD t 4:=by simpa using q
     have h2:fac.getD t 4=fac.getD t0 4:=Bj;show fac.getD x 4=_
     rw[q,h2]
    ·exact ho x (by simp[hx])
   ·have:((Gg t).filter λ(u:Nat)=>fac.getD u 4==fac.getD t 4).length<=3:=by refine de (ff _ _) ?_;simp[Gg]
    simp only[aj,bo]at hf len ⊢;lia
theorem xO{fac labU:Array Nat}{n t0:Nat}{ts:List Nat}(hn:n≠NONE)(Ac:∀u,¬isU labU u->u∈ts)(hsz:∀u∈ts,u<labU.size)(o0:¬isU labU t0):
  ∃N':List Nat,(∀t,(fill fac n (4*ts.length+4) [t0] labU).getD t 0=if t∈N' then n else labU.getD t 0)/\(fill fac n (4*ts.length+4) [t0] labU).size=labU.size/\∀x,x∈N'↔Rch (okN fac t0) Gg (isU labU) t0 x:=
 lY hn Ac hsz o0 _ [t0] [] labU rfl (λt=>by simp) hV.first (by simp) (by simp) (by intro x hx;simp at hx;subst hx;rfl) (by simp;lia)
noncomputable def nbP(p:T3):List T3:=[(p.1,p.2.1,(p.2.2+1)%4),(p.1,p.2.1,(p.2.2+3)%4),((aK (p.1,p.2.1) p.2.2.toNat).1,(aK (p.1,p.2.1) p.2.2.toNat).2,(p.2.2+2)%4)]
theorem vE{h:List Nat}(hh:∀r∈h,okR r){r q s:Nat}(hr:okR r)(hq:okR q)(hs:s<4):hP q=aK (hP r) s↔q=beyond r s:=by
 obtain⟨i,j,hi,hj,rfl⟩:=hr;obtain⟨i',j',tw,Aq,rfl⟩:=hq;rw[d8 hi,d8 tw];have cs:s=0\/s=1\/s=2\/s=3:=Hb
 rcases cs with rfl|rfl|rfl|rfl<;>simp[aK,beyond,raw,W,Prod.ext_iff]<;>lia
theorem VO{h:List Nat}(hh:∀r∈h,okR r){t u:Nat}(ht:t∈Fd h)(hu:u∈Fd h):tP u∈nbP (tP t)↔u∈Gg t:=by
 have Bj:=hh _ (bE.mp ht);have oku:=hh _ (bE.mp hu);have hs:t%4<4:=Hb
 have B:=vE hh Bj oku hs;have own:∀k:Nat,k<4->(tP u=((tP t).1,(tP t).2.1,(k:Int))↔u=4*(t/4)+k):=by
  intro k hk;constructor
  ·intro e;have a1:=congrArg (λz=>z.1) e;have a2:=congrArg (λz=>z.2.1) e;have a3:=congrArg (λz=>z.2.2) e;simp[tP]at a1 a2 a3;have:u/4=t/4:=kC oku Bj (by unfold hP;rw[show iOf (u/4)=iOf (t/4) by lia,show jOf (u/4)=jOf (t/4) by lia]);lia
  ·intro e;have e1:u/4=t/4:=Hb
   have e2:u%4=k:=Hb
   unfold tP;rw[e1,e2]
 have e1:((tP t).2.2+1)%4=(((t%4+1)%4:Nat):Int):=by simp[tP]
 have e3:((tP t).2.2+3)%4=(((t%4+3)%4:Nat):Int):=by simp[tP]
 have e2:((tP t).2.2+2)%4=(((t%4+2)%4:Nat):Int):=by simp[tP]
 have es:(tP t).2.2.toNat=t%4:=by simp only[tP];lia
 have eh:((tP t).1,(tP t).2.1)=hP (t/4):=rfl;unfold nbP Gg;dsimp only;rw[e1,e3,e2,es,eh];simp only[aq,ej,or_false];rw[own _ Hb,own _ Hb];have across:tP u=((aK (hP (t/4)) (t%4)).1,(aK (hP (t/4)) (t%4)).2,(((t%4+2)%4:Nat):Int))↔u=4*beyond (t/4) (t%4)+(t%4+2)%4:=by
  constructor
  ·intro e;have a1:=congrArg (λz=>(z.1,z.2.1)) e;have a3:=congrArg (λz=>z.2.2) e;have:hP (u/4)=aK (hP (t/4)) (t%4):=a1;have q:=B.mp this;simp[tP]at a3;lia
  ·intro e;have q:u/4=beyond (t/4) (t%4):=Hb
   have r:=B.mpr q;have:u%4=(t%4+2)%4:=Hb
   unfold tP;rw[this];have a:=congrArg Prod.fst r;have b:=congrArg Prod.snd r;unfold hP at a b;rw[show(iOf (u/4):Int)=_ from a,show(jOf (u/4):Int)=_ from b];rfl
 rw[across]
structure mE(h:List Nat)(kg:T3->Option Int)(lab:Array Nat):Prop where
 ins:∀t∈Fd h,kg (tP t)=if lab.getD t 0=NONE then none else some (lab.getD t 0:Int)
 out:∀p,p∉ (Fd h).map tP->kg p=none
 lo:∀t,t∉Fd h->lab.getD t 0≠NONE
 size:lab.size=4*W*W
def okT(fac:T3->Option Int)(p0 p:T3):Prop:=fac p=fac p0
def isN(kg:T3->Option Int)(p:T3):Prop:=(kg p).isSome=true
theorem JC{h:List Nat}(hh:∀r∈h,okR r){fac:Array Nat}{ki kg:T3->Option Int}{lab:Array Nat}(hf:∀t∈Fd h,ki (tP t)=some (fac.getD t 4:Int))(Av:∀p,p∉ (Fd h).map tP->ki p=none)
  (R:mE h kg lab) {t0:Nat} (h0:t0∈Fd h):(∀t∈Fd h,Rch (okT ki (tP t0)) nbP (isN kg) (tP t0) (tP t)↔Rch (okN fac t0) Gg (isU lab) t0 t)/\∀p,Rch (okT ki (tP t0)) nbP (isN kg) (tP t0) p->p∈(Fd h).map tP:=by
 have key:∀p,Rch (okT ki (tP t0)) nbP (isN kg) (tP t0) p->∃t∈Fd h,p=tP t/\Rch (okN fac t0) Gg (isU lab) t0 t:=by
  intro p r;induction r with
  |refl=>exact⟨t0,h0,rfl,.refl⟩
  | @step x u _ hu ou uu ih=>
   obtain⟨t,ht,rfl,rt⟩:=ih;have hm:u∈(Fd h).map tP:=by apply Classical.byContradiction;intro q;have h1:=Av u q;have h2:ki u=ki (tP t0):=ou;rw[h1,hf t0 h0]at h2;cases h2
   obtain⟨v,hv,rfl⟩:=au.mp hm;refine⟨v,hv,rfl,.step rt ((VO hh ht hv).mp hu) ?_ ?_⟩
   ·have h2:ki (tP v)=ki (tP t0):=ou;rw[hf v hv,hf t0 h0]at h2;have:=Option.some.inj h2;show fac.getD v 4=fac.getD t0 4
    lia
   ·intro q;refine uu ?_;show(kg (tP v)).isSome=true
    rw[R.ins v hv,af q];rfl
 refine⟨λt ht=>⟨λr=>?_,λr=>?_⟩,λp r=>?_⟩
 ·obtain⟨v,hv,e,rv⟩:=key _ r;rw[OO hh ht hv e];exact rv
 ·have mem:∀x,Rch (okN fac t0) Gg (isU lab) t0 x->x∈Fd h/\Rch (okT ki (tP t0)) nbP (isN kg) (tP t0) (tP x):=by
   intro x r;induction r with
   |refl=>exact⟨h0,.refl⟩
   | @step x u _ hu ou uu ih=>
    obtain⟨hx,rx⟩:=ih;have rg:u∈Fd h:=by apply Classical.byContradiction;intro q;exact uu (R.lo u q)
    refine⟨rg,.step rx ((VO hh hx rg).mpr hu) ?_ ?_⟩
    ·show ki (tP u)=ki (tP t0)
     rw[hf u rg,hf t0 h0];have:fac.getD u 4=fac.getD t0 4:=ou;rw[this]
    ·intro q;have q:(kg (tP u)).isSome=true:=q;rw[R.ins u rg]at q;by_cases e:lab.getD u 0=NONE
     ·rw[ah e]at q;cases q
     ·exact uu e
  exact(mem t r).2
 ·obtain⟨v,hv,e,_⟩:=key _ r;rw[e];exact au.mpr ⟨v,hv,rfl⟩
theorem mE.face{h:List Nat}(hh:∀r∈h,okR r){fac:Array Nat}{ki kg Co:T3->Option Int}{lab:Array Nat}(hf:∀t∈Fd h,ki (tP t)=some (fac.getD t 4:Int))(Av:∀p,p∉ (Fd h).map tP->ki p=none)
  (R:mE h kg lab) {t0 n:Nat} (h0:t0∈Fd h) (hn:n<NONE) (hl:lab.getD t0 0=NONE) {N:List T3} (hN:∀p,p∈N↔Rch (okT ki (tP t0)) nbP (isN kg) (tP t0) p) (Dr:∀p,Co p=if p∈N then some (n:Int)else kg p):
  mE h Co (fill fac n (4*(Fd h).length+4) [t0] lab):=by
 obtain⟨S1,S2⟩:=JC hh hf Av R h0;have Ac:∀u,¬isU lab u->u∈Fd h:=λu q=>Classical.byContradiction λz=>q (R.lo u z)
 obtain⟨N',f1,f2,f3⟩:=xO (fac:=fac) (labU:=lab) (n:=n) (t0:=t0) (ts:=Fd h) Hb Ac (λu hu=>by rw[R.size];exact yE hh hu) (λq=>q hl);refine⟨λt ht=>?_,λp hp=>?_,λt ht=>?_,by rw[f2,R.size]⟩
 ·have e:tP t∈N↔t∈N':=by rw[hN,f3,S1 t ht]
  rw[Dr,f1];by_cases q:t∈N'
  ·rw[ah (e.mpr q),ah q,af Hb]
  ·rw[af (λz=>q (e.mp z)),af q];exact R.ins t ht
 ·rw[Dr,af (λz=>hp (S2 p ((hN p).mp z)))];exact R.out p hp
 ·rw[f1];split
  ·lia
  ·exact R.lo t ht
theorem mE.start{h:List Nat}(hh:∀r∈h,okR r):mE h (λ_=>none) (uQ h):=by
 refine⟨λt ht=>?_,λ_ _=>rfl,λt ht=>?_,xD h⟩
 ·rw[uP hh,ah ht,ah rfl]
 ·rw[uP hh,af ht];decide
section
variable {κ β:Type} [DecidableEq κ]
noncomputable def aP(l:List (κ×β))(k:κ):Option β:=(l.find? λx=>decide (x.1=k)).map (·.2)
noncomputable def dM(l:List (κ×β))(k:κ)(v:β):List (κ×β):=
 if(l.any λx=>decide (x.1=k))=true then l.map (λx=>if x.1=k then(x.1,v)else x)else l++[(k,v)]
theorem jQ{k:κ}:aP ([]:List (κ×β)) k=none:=rfl
theorem cI{x:κ×β}{r:List (κ×β)}{k:κ}:aP (x::r) k=if x.1=k then some x.2 else aP r k:=by
 unfold aP;by_cases e:x.1=k
 ·simp[e]
 ·simp[e]
theorem aV(k:κ):∀l:List (κ×β),(aP l k).isSome=true↔k∈l.map (·.1)
 |[]=>by simp[jQ]
 |x::r=>by
  rw[cI,bh,aq];by_cases e:x.1=k
  ·rw[ah e];simp[e]
  ·rw[af e,aV k r];constructor
   ·exact .inr
   ·rintro(h|h)
    ·exact absurd h.symm e
    ·exact h
theorem jP{l:List (κ×β)}{k:κ}:aP l k=none↔k∉l.map (·.1):=by rw[<- aV];cases aP l k<;>simp
theorem tE{l:List (κ×β)}{k:κ}:(l.any λx=>decide (x.1=k))=true↔k∈l.map (·.1):=by simp[fe]
theorem gI{l:List (κ×β)}{k:κ}(v:β)(h:k∉l.map (·.1)):dM l k v=l++[(k,v)]:=by unfold dM;rw[af (λz=>h (tE.mp z))]
theorem w6{l:List (κ×β)}{k:κ}(v:β)(h:k∈l.map (·.1)):(dM l k v).map (·.1)=l.map (·.1):=by unfold dM;rw[ah (tE.mpr h),dt];apply dk;intro x _;simp only[Function.comp];split<;>rfl
theorem yB{l:List (κ×β)}{k:κ}(v:β):(dM l k v).map (·.1)=if k∈l.map (·.1)then l.map (·.1)else l.map (·.1)++[k]:=by
 by_cases h:k∈l.map (·.1)
 ·rw[ah h,w6 v h]
 ·rw[af h,gI v h];simp
theorem vH{l:List (κ×β)}{k:κ}{v:β}(h:(l.map (·.1)).Nodup):((dM l k v).map (·.1)).Nodup:=by
 rw[yB];split
 ·exact h
 ·rename_i hk;rw[da];exact⟨h,by simp,λa ha b hb e=>hk (by simp at hb;rw[<- hb,<- e];exact ha)⟩
theorem BX(k j:κ)(y:β):∀l:List (κ×β),aP (l.map λx=>if x.1=k then(x.1,y)else x) j=if j=k then(aP l j).map (λ_=>y)else aP l j
 |[]=>by simp[jQ]
 |x::r=>by
  rw[bh,cI,cI,BX k j y r];by_cases e:x.1=k
  ·rw[ah e];by_cases e2:x.1=j
   ·rw[ah e2,ah e2,ah (e2▸e:j=k)];rfl
   ·rw[af e2,af e2]
  ·rw[af e];by_cases e2:x.1=j
   ·rw[ah e2,af (show¬j=k by intro z;exact e (e2.trans z)),ah e2]
   ·rw[af e2,af e2]
theorem yC(k j:κ)(y:β):∀l:List (κ×β),k∉l.map (·.1)->aP (l++[(k,y)]) j=if j=k then some y else aP l j
 |[],_=>by
  rw[nil_append,cI];by_cases e:j=k
  ·rw[ah e,ah e.symm]
  ·rw[af e,af (Ne.symm e)]
 |x::r,h=>by
  rw[cons_append,cI,cI,yC k j y r (λz=>h (by rw[bh];exact ao _ z))];by_cases e2:x.1=j
  ·rw[ah e2,ah e2,af];intro z;exact h (by rw[bh,aq];exact .inl (by rw[e2,z]))
  ·rw[af e2,af e2]
theorem m9(l:List (κ×β))(k j:κ)(y:β):aP (dM l k y) j=if j=k then some y else aP l j:=by
 by_cases h:k∈l.map (·.1)
 ·unfold dM;rw[ah (tE.mpr h),BX];by_cases e:j=k
  ·subst e;rw[ah rfl,ah rfl];have:=(aV j l).mpr h;cases q:aP l j with
   |none=>rw[q]at this;cases this
   |some z=>rfl
  ·rw[af e,af e]
 ·rw[gI y h,yC k j y l h]
noncomputable def cO(l:List (κ×β))(ps:List (κ×β)):List (κ×β):=ps.foldl (λa p=>dM a p.1 p.2) l
theorem sO:∀(ps l:List (κ×β)),(l.map (·.1)).Nodup->((cO l ps).map (·.1)).Nodup
 |[],_,h=>h
 |p::r,l,h=>sO r (dM l p.1 p.2) (vH h)
theorem zL(l a b:List (κ×β)):cO l (a++b)=cO (cO l a) b:=by simp[cO]
theorem sP(l:List (κ×β))(k:κ)(v:β):(dM l k v).length<=l.length+1:=by unfold dM;split<;>simp
theorem hO:∀(ps l:List (κ×β)),(cO l ps).length<=l.length+ps.length
 |[],l=>by simp[cO]
 |p::r,l=>by
  have h1:=hO r (dM l p.1 p.2);have h2:=sP l p.1 p.2;show(cO (dM l p.1 p.2) r).length<=_
  simp only[bo];lia
theorem yD:∀(ps l:List (κ×β)),(∀p∈ps,∀q∈ps,p.1=q.1->p.2=q.2)->(∀p∈ps,∀v,aP l p.1=some v->v=p.2)->∀k v,aP (cO l ps) k=some v↔aP l k=some v\/(k,v)∈ps
 |[],l,_,_=>by intro k v;simp[cO]
 |p::r,l,h,h2=>by
  intro k v;have hp:∀q∈r,∀v,aP (dM l p.1 p.2) q.1=some v->v=q.2:=by
   intro q hq v e;rw[m9]at e;by_cases z:q.1=p.1
   ·rw[ah z]at e;cases e;exact h p (by simp) q (by simp[hq]) z.symm
   ·rw[af z]at e;exact h2 q (by simp[hq]) v e
  show aP (cO (dM l p.1 p.2) r) k=some v↔ _
  rw[yD r _ (λa ha b hb=>h a (by simp[ha]) b (by simp[hb])) hp k v,m9];by_cases z:k=p.1
  ·rw[ah z];constructor
   ·rintro(e|e)
    ·cases e;exact .inr (by rw[z];simp)
    ·exact .inr (by simp[e])
   ·rintro(e|e)
    ·have:=h2 p (by simp) v (z▸e);exact .inl (by rw[this])
    ·rcases aq.mp e with e|e
     ·rw[<- e];exact .inl rfl
     ·exact .inr e
  ·rw[af z];constructor
   ·rintro(e|e)
    ·exact .inl e
    ·exact .inr (by simp[e])
   ·rintro(e|e)
    ·exact .inl e
    ·rcases aq.mp e with e|e
     ·exact absurd (show k=p.1 by rw[<- e]) z
     ·exact .inr e
end
def hdg(d:Nat):Int:=((d:Int)+1)%4
noncomputable def f6(cs:List Pl)(c:Pl):List (Pl×Int):=([0,1,2,3].filter λ(s:Nat)=>!decide (aK c s∈cs)).map λs=>(aE c s,hdg s)
def gF(cs:List Pl):List (Pl×Int):=cs.flatMap (f6 cs)
def d7(cs:List Pl):List (Pl×Int):=cO [] (gF cs)
theorem vT{l:Fn}{p:Pl}{h:Int}:(p,h)∈gF (iW l)↔∃d,d<4/\aZ l p.1 p.2 d=true/\h=hdg d:=by
 unfold gF f6;rw[cv];constructor
 ·rintro⟨c,hc,hm⟩;obtain⟨s,hs,e⟩:=au.mp hm;rw[bu]at hs;obtain⟨hs,hn⟩:=hs;obtain⟨x,y⟩:=c;have wg:inI l x y=true:=nS.mp hc;have cs:s=0\/s=1\/s=2\/s=3:=by simpa using hs
  have vd:inI l (aK (x,y) s).1 (aK (x,y) s).2=false:=by rw[<- kI];simpa using hn
  cases e;refine⟨s,Hb,?_,rfl⟩;rcases cs with rfl|rfl|rfl|rfl
  ·simp[aZ,aE,ne,se,aK]at vd ⊢;exact⟨wg,vd⟩
  ·simp[aZ,aE,ne,nw,aK]at vd ⊢;exact⟨wg,vd⟩
  ·simp[aZ,aE,sw,nw,aK]at vd ⊢;exact⟨wg,vd⟩
  ·simp[aZ,aE,se,sw,aK]at vd ⊢;exact⟨wg,vd⟩
 ·rintro⟨d,hd,w,rfl⟩;obtain⟨X,Y⟩:=p;have cd:d=0\/d=1\/d=2\/d=3:=Hb
  rcases cd with rfl|rfl|rfl|rfl
  ·simp[aZ,ne,se]at w;refine⟨(X,Y),nS.mpr w.1,au.mpr ⟨0,?_,by simp[aE]⟩⟩;rw[bu];refine⟨by simp,?_⟩;show(!decide (((X,Y - 1):Pl)∈iW l))=true
   rw[kI,w.2];rfl
  ·simp[aZ,nw,ne]at w;refine⟨(X - 1,Y),nS.mpr w.1,au.mpr ⟨1,?_,?_⟩⟩
   ·rw[bu];refine⟨by simp,?_⟩;show(!decide (((X - 1+1,Y):Pl)∈iW l))=true
    rw[kI,show X - 1+1=X by lia,w.2];rfl
   ·simp[aE]
  ·simp[aZ,sw,nw]at w;refine⟨(X - 1,Y - 1),nS.mpr w.1,au.mpr ⟨2,?_,?_⟩⟩
   ·rw[bu];refine⟨by simp,?_⟩;show(!decide (((X - 1,Y - 1+1):Pl)∈iW l))=true
    rw[kI,show Y - 1+1=Y by lia,w.2];rfl
   ·simp[aE]
  ·simp[aZ,se,sw]at w;refine⟨(X,Y - 1),nS.mpr w.1,au.mpr ⟨3,?_,?_⟩⟩
   ·rw[bu];refine⟨by simp,?_⟩;show(!decide (((X - 1,Y - 1):Pl)∈iW l))=true
    rw[kI,w.2];rfl
   ·simp[aE]
theorem NC{d e:Nat}(hd:d<4)(he:e<4)(h:hdg d=hdg e):d=e:=by unfold hdg at h;lia
theorem II{l:Fn}{X Y:Int}{d:Nat}(hd:d<4)(h:aZ l X Y d=true):0<=X/\0<=Y:=by
 have cd:d=0\/d=1\/d=2\/d=3:=Hb
 rcases cd with rfl|rfl|rfl|rfl
 ·simp[aZ,ne]at h;have:=bQ h.1;lia
 ·simp[aZ,nw]at h;have:=bQ h.1;lia
 ·simp[aZ,sw]at h;have:=bQ h.1;lia
 ·simp[aZ,se]at h;have:=bQ h.1;lia
theorem kA{l:Fn}(hp:Ge l=false){p:Pl}{h:Int}:(p,h)∈gF (iW l)↔∃q d,p=iP q/\outOf l q=some d/\h=hdg d:=by
 rw[vT];constructor
 ·rintro⟨d,hd,w,rfl⟩;obtain⟨X,Y⟩:=p;have:=II hd w;refine⟨(X.toNat,Y.toNat),d,?_,AG hp hd ?_,rfl⟩
  ·simp[iP];lia
  ·rw[f9];simp only;rw[show((X.toNat:Nat):Int)=X by lia,show((Y.toNat:Nat):Int)=Y by lia];exact w
 ·rintro⟨q,d,rfl,ho,rfl⟩;obtain⟨hd,w⟩:=bD ho;rw[f9]at w;exact⟨d,hd,w,rfl⟩
theorem qW{l:Fn}(hp:Ge l=false)(p:Pl)(h:Int):aP (d7 (iW l)) p=some h↔∃q d,p=iP q/\outOf l q=some d/\h=hdg d:=by
 unfold d7;rw[yD _ _ ?_ (by intro p _ v e;cases e) p h,kA hp]
 ·simp[jQ]
 ·intro a ha b hb e;obtain⟨q,d,e1,o1,e2⟩:=(kA hp).mp ha;obtain⟨q',d',e1',o1',e2'⟩:=(kA hp).mp hb;have:q=q':=gO (by rw[<- e1,<- e1',e]);subst this;rw[o1]at o1';cases o1';rw[e2,e2']
theorem B8(cs:List Pl):((d7 cs).map (·.1)).Nodup:=sO _ _ (by simp)
theorem qV{l:Fn}(hp:Ge l=false)(p:Pl):p∈(d7 (iW l)).map (·.1)↔∃q d,p=iP q/\outOf l q=some d:=by
 rw[<- aV];constructor
 ·intro h;cases e:aP (d7 (iW l)) p with
  |none=>rw[e]at h;cases h
  |some v=>obtain⟨q,d,h1,h2,_⟩:=(qW hp p v).mp e;exact⟨q,d,h1,h2⟩
 ·rintro⟨q,d,h1,h2⟩;rw[(qW hp p (hdg d)).mpr ⟨q,d,h1,h2,rfl⟩];rfl
theorem sS(cs:List Pl):(gF cs).length<=4*cs.length:=by
 unfold gF;have:∀(l:List Pl),(l.flatMap (f6 cs)).length<=4*l.length:=by
  intro l;induction l with
  |nil=>simp
  |cons c r ih=>
   rw[gd,aj,bo];have:(f6 cs c).length<=4:=by unfold f6;rw[ai];exact de (ff _ _) (by simp)
   lia
 exact this cs
theorem pG(cs:List Pl):(d7 cs).length<=4*cs.length:=by have h1:=hO (gF cs) [];have h2:=sS cs;unfold d7;simp at h1;lia
inductive nK (hd:Pl->Option Int):Pl->List (Pl×Int)->Pl->Prop where
 |nil (p:Pl):nK hd p [] p
 |cons {p q:Pl}{h:Int}{r:List (Pl×Int)}:hd p=some h->0<=h->h<4->nK hd (aK p h.toNat) r q->nK hd p ((p,h)::r) q
noncomputable def bL:Option Int->List (Pl×Int)->List Pl
 |_,[]=>[]
 |came,(p,h)::r=>if some h=came then bL (some h) r else p::bL (some h) r
def iF(x:Foot):Pl×Int:=(iP x.1,hdg x.2)
theorem IX{l:Fn}{p:Fu}{d:Nat}(h:outOf l p=some d):aK (iP p) (hdg d).toNat=iP (Fx p d):=by
 obtain⟨hd,_⟩:=bD h;obtain⟨b2,b3⟩:=jX h;have cd:d=0\/d=1\/d=2\/d=3:=Hb
 rcases cd with rfl|rfl|rfl|rfl
 ·simp[aK,hdg,iP,Fx]
 ·simp[aK,hdg,iP,Fx]
 ·simp[aK,hdg,iP,Fx];have:=b2 rfl;lia
 ·simp[aK,hdg,iP,Fx];have:=b3 rfl;lia
theorem IG{l:Fn}(hp:Ge l=false){p q:Fu}{f:List Foot}(h:Way l p f q):nK (aP (d7 (iW l))) (iP p) (f.map iF) (iP q):=by
 induction h with
 |nil p=>exact .nil _
 | @cons p q d r ho _ ih=>
  rw[bh];refine .cons ((qW hp _ _).mpr ⟨p,d,rfl,ho,rfl⟩) ?_ ?_ ?_
  ·unfold hdg;lia
  ·unfold hdg;lia
  ·rw[IX ho];exact ih
theorem nH:∀(r:List Foot)(d:Nat),d<4->(∀x∈r,x.2<4)->bL (some (hdg d)) (r.map iF)=iW (turns d r)
 |[],d,_,_=>rfl
 |x::r,d,hd,hr=>by
  have hx:=hr x (by simp);rw[bh];show(if some (hdg x.2)=some (hdg d)then bL (some (hdg x.2)) (r.map iF)else iP x.1::bL (some (hdg x.2)) (r.map iF))=iW (if x.2=d then turns x.2 r else x.1::turns x.2 r)
  rw[nH r x.2 hx (λy hy=>hr y (by simp[hy]))];by_cases e:x.2=d
  ·rw[ah (by rw[e]),ah e]
  ·rw[af (λz=>e (NC hx hd (Option.some.inj z))),af e];rfl
def c6(l:Fn):List Fu:=(pointsOf l).filter λp=>(outOf l p).isSome
theorem dQ(l:Fn):∀(wu seen:List Fu),Gf l seen wu=Gf l seen (wu.filter λp=>(outOf l p).isSome)
 |[],seen=>rfl
 |p::r,seen=>by
  cases ho:outOf l p with
  |none=>
   rw[List.filter_cons_of_neg (by simp[ho])];have e:Gf l seen (p::r)=Gf l seen r:=by
    show(if seen.contains p=true then _ else match outOf l p with|none=>_|some d=>_)=_
    rw[ho];split<;>rfl
   rw[e];exact dQ l r seen
  |some d=>
   rw[List.filter_cons_of_pos (by simp[ho])];show(if seen.contains p=true then _ else match outOf l p with|none=>_|some d=>_)=(if seen.contains p=true then _ else match outOf l p with|none=>_|some d=>_)
   rw[ho,dQ l r seen];dsimp only;rw[dQ l r (seen++List.map (λx=>x.fst) (follow l p (4*List.length l+4) p d))]
theorem fR.starts(l:Fn):fR l [] (c6 l):=by
 have g:=fR.start l;refine⟨g.lD,λq d h=>?_,?_⟩
 ·rcases g.all q d h with z|z
  ·exact .inl z
  ·exact .inr (bu.mpr ⟨z,by simp[h]⟩)
 ·exact g.row.sublist (List.filter_sublist ..)
theorem BW{a b:Fu}(h:before a b=true):EK (iP a) (iP b):=by rw[cU]at h;unfold EK iP;simp only;lia
theorem A0{a b:Pl}(h:EK a b):eX a b:=by unfold EK at h;unfold eX;lia
theorem AA{xs ys:List Pl}(hp:xs.Perm ys)(h1:xs.Pairwise eX)(h2:ys.Pairwise eX):xs=ys:=
 hp.eq_of_pairwise (λ_ _ _ _ a b=>tU a b) h1 h2
theorem vN{l:Fn}(hp:Ge l=false){ys:List Pl}(h:ys.Perm ((d7 (iW l)).map (·.1)))(hs:ys.Pairwise eX):ys=iW (c6 l):=by
 have hr:(iW (c6 l)).Pairwise eX:=by unfold iW;rw[gm];exact(fR.starts l).row.imp λh=>A0 (BW h)
 refine AA (h.trans ?_) hs hr;refine(List.perm_ext_iff_of_nodup (B8 _) ?_).mpr λp=>?_
 ·unfold iW;exact d5 (gU (fR.starts l).row) λx _ y _ e=>gO e
 ·rw[qV hp];constructor
  ·rintro⟨q,d,rfl,ho⟩;exact iH.mpr (bu.mpr ⟨iC ho,by simp[ho]⟩)
  ·intro hm;obtain⟨q,hq,rfl⟩:=au.mp hm;have:=(bu.mp hq).2;cases e:outOf l q with
   |none=>rw[e]at this;cases this
   |some d=>exact⟨q,d,rfl,e⟩
theorem IK{l:Fn}(hp:Ge l=false){seen r:List Fu}{p:Fu}{d:Nat}(g:fR l seen (p::r))(hs:p∉seen)(ho:outOf l p=some d):
  ∃f:List Foot,nK (aP (d7 (iW l))) (iP p) (f.map iF) (iP p)/\f≠[]/\((f.map iF).map (·.1)).Nodup/\(∀y∈f.map (·.1),y∉seen)/\fR l (seen++f.map (·.1)) r/\
   Gf l seen (p::r)=cornersOf f::Gf l (seen++f.map (·.1)) r/\iW (cornersOf f)=bL none (f.map iF):=by
 obtain⟨R,fr,⟨r',er,ec⟩,ew,g2⟩:=g.step hp hs ho rfl;refine⟨_,IG hp R.way,R.ne,?_,fr,g2,?_,?_⟩
 ·have e:((follow l p (4*l.length+4) p d).map iF).map (·.1)=iW ((follow l p (4*l.length+4) p d).map (·.1)):=by simp[iW,iF,Function.comp_def]
  rw[e];exact d5 R.nd λx _ y _ e=>gO e
 ·show(if seen.contains p=true then _ else match outOf l p with|none=>_|some d=>_)=_
  rw[af (by simpa using hs),ho]
 ·rw[ec,er,bh];show iP p::iW (turns d r')=(if some (hdg d)=none then _ else iP p::bL (some (hdg d)) (r'.map iF))
  rw[af (by simp),nH r' d (bD ho).1];intro x hx;have:=R.way.out x (by rw[er];simp[hx]);exact(bD this).1
noncomputable def aD:Nat->List (List T3)->List (T3×Int)
 |_,[]=>[]
 |k,N::r=>N.map (λp=>(p,(k:Int)))++aD (k+1) r
theorem kM:∀(a b:List (List T3))(k:Nat),aD k (a++b)=aD k a++aD (k+a.length) b
 |[],b,k=>by simp[aD]
 |N::a,b,k=>by
  rw[cons_append];show N.map (λp=>(p,(k:Int)))++aD (k+1) (a++b)=(N.map (λp=>(p,(k:Int)))++aD (k+1) a)++aD (k+(a.length+1)) b
  rw[kM a b (k+1),fk,show k+1+a.length=k+(a.length+1) by lia]
theorem aU:∀(Ns:List (List T3))(k:Nat),(aD k Ns).map (·.1)=Ns.flatten
 |[],k=>rfl
 |N::r,k=>by
  show(N.map (λp=>(p,(k:Int)))++aD (k+1) r).map (·.1)=N++r.flatten
  rw[cf,aU r (k+1),dt];congr 1;simp[Function.comp_def]
theorem mC{κ β:Type}[DecidableEq κ](k:κ)(b:List (κ×β)):∀a:List (κ×β),aP (a++b) k=if k∈a.map (·.1)then aP a k else aP b k
 |[]=>by simp
 |x::a=>by
  rw[cons_append,cI,cI,mC k b a,bh];by_cases e:x.1=k
  ·rw[ah e,ah e,ah (by rw[aq];exact .inl e.symm)]
  ·rw[af e,af e];by_cases h:k∈a.map (·.1)
   ·rw[ah h,ah (ao _ h)]
   ·rw[af h,af (by rw[aq];rintro(z|z);exact e z.symm;exact h z)]
theorem rD{κ β:Type}[DecidableEq κ](v:β)(k:κ):∀N:List κ,aP (N.map λp=>(p,v)) k=if k∈N then some v else none
 |[]=>by simp[jQ]
 |x::N=>by
  rw[bh,cI,rD v k N];by_cases e:x=k
  ·rw[ah e,ah (by simp[e])]
  ·rw[af e];by_cases h:k∈N
   ·rw[ah h,ah (ao _ h)]
   ·rw[af h,af (by rw[aq];rintro(z|z);exact e z.symm;exact h z)]
theorem jB(Ns:List (List T3))(N:List T3):aD 0 (Ns++[N])=aD 0 Ns++N.map (λp=>(p,(Ns.length:Int))):=by rw[kM];simp[aD]
theorem oZ{Ns:List (List T3)}{N:List T3}(hd:∀p∈N,p∉Ns.flatten)(p:T3):aP (aD 0 (Ns++[N])) p=if p∈N then some (Ns.length:Int)else aP (aD 0 Ns) p:=by
 rw[jB,mC,rD,aU];by_cases h:p∈Ns.flatten
 ·rw[ah h,af (λz=>hd p z h)]
 ·rw[af h];split
  ·rfl
  ·exact(jP.mpr (by rw[aU];exact h)).symm
theorem yT:∀(Ns:List (List T3))(j:Nat)(p:T3)(k:Int),Ns.flatten.Nodup->(aP (aD j Ns) p=some k↔∃i N,Ns[i]? =some N/\p∈N/\k=((j+i:Nat):Int))
 |[],j,p,k,_=>by simp[aD,jQ]
 |N::r,j,p,k,hn=>by
  rw[jg,da]at hn;show aP (N.map (λp=>(p,(j:Int)))++aD (j+1) r) p=some k↔ _
  rw[mC,rD];have e:(N.map λp=>(p,(j:Int))).map (·.1)=N:=by simp[Function.comp_def]
  rw[e];by_cases h:p∈N
  ·rw[ah h,ah h];constructor
   ·intro q;cases q;exact⟨0,N,rfl,h,by simp⟩
   ·rintro⟨i,M,hi,hm,rfl⟩;cases i with
    |zero=>cases hi;simp
    |succ i=>exfalso;rw[gy]at hi;exact hn.2.2 p h p (List.mem_flatten.mpr ⟨M,ba hi,hm⟩) rfl
  ·rw[af h,yT r (j+1) p k hn.2.1];constructor
   ·rintro⟨i,M,hi,hm,rfl⟩;exact⟨i+1,M,by rw[gy];exact hi,hm,by congr 1;lia⟩
   ·rintro⟨i,M,hi,hm,rfl⟩;cases i with
    |zero=>cases hi;exact absurd hm h
    |succ i=>rw[gy]at hi;exact⟨i,M,hi,hm,by congr 1;lia⟩
structure mD(h:List Nat)(Ns:List (List T3))(lab:Array Nat):Prop where
 rel:mE h (aP (aD 0 Ns)) lab
 nd:Ns.flatten.Nodup
 ne:∀N∈Ns,N≠[]
theorem mD.sub{h:List Nat}{Ns:List (List T3)}{lab:Array Nat}(R:mD h Ns lab):∀p∈Ns.flatten,p∈(Fd h).map tP:=by intro p hp;apply Classical.byContradiction;intro q;have:=R.rel.out p q;rw[jP,aU]at this;exact this hp
theorem lX{α:Type}:∀{Ns:List (List α)},(∀N∈Ns,N≠[])->Ns.length<=Ns.flatten.length
 |[],_=>by simp
 |N::r,h=>by
  have h1:=lX (Ns:=r) λM hM=>h M (by simp[hM])
  have h2:0<N.length:=fy.mpr (h N (by simp));simp only[bo,jg,aj];lia
theorem mD.few{h:List Nat}{Ns:List (List T3)}{lab:Array Nat}(R:mD h Ns lab):Ns.length<=(Fd h).length:=by have h1:=lX R.ne;have h2:=c7 R.nd R.sub;rw[ai]at h2;lia
theorem mD.start{h:List Nat}(hh:∀r∈h,okR r):mD h [] (uQ h):=⟨mE.start hh,by simp,by simp⟩
theorem mD.face{h:List Nat}(hh:∀r∈h,okR r){fac:Array Nat}{ki:T3->Option Int}{lab:Array Nat}{Ns:List (List T3)}(hf:∀t∈Fd h,ki (tP t)=some (fac.getD t 4:Int))(Av:∀p,p∉ (Fd h).map tP->ki p=none)
  (kc:(Fd h).length<NONE) (R:mD h Ns lab) {t0:Nat} (h0:t0∈Fd h) (hl:aP (aD 0 Ns) (tP t0)=none) {N:List T3} (hN:∀p,p∈N↔Rch (okT ki (tP t0)) nbP (isN (aP (aD 0 Ns))) (tP t0) p) (qk:N.Nodup):
  lab.getD t0 0=NONE/\mD h (Ns++[N]) (fill fac Ns.length (4*(Fd h).length+4) [t0] lab):=by
 have vx:lab.getD t0 0=NONE:=by have:=R.rel.ins t0 h0;rw[hl]at this;apply Classical.byContradiction;intro q;rw[af q]at this;cases this
 have u0:¬isN (aP (aD 0 Ns)) (tP t0):=by intro q;have q:(aP (aD 0 Ns) (tP t0)).isSome=true:=q;rw[hl]at q;cases q
 have hd:∀p∈N,p∉Ns.flatten:=by
  intro p hp hm;have:=(((hN p).mp hp).ok' rfl u0).2;refine this ?_;show(aP (aD 0 Ns) p).isSome=true
  rw[aV,aU];exact hm
 refine⟨vx,?_,?_,?_⟩
 ·exact R.rel.face hh hf Av h0 (ir R.few kc) vx hN (oZ hd)
 ·rw[gi,da];refine⟨R.nd,by simpa using qk,?_⟩;intro a ha b hb e;have rn:b∈N:=by simpa using hb
  exact hd b rn (e▸ha)
 ·intro M hM;rcases ax.mp hM with hM|hM
  ·exact R.ne M hM
  ·have:M=N:=by simpa using hM
   subst this;intro e;have:tP t0∈M:=(hN _).mpr .refl;rw[e]at this;cases this
structure Numbering(h:List Nat)(i:Nat)(Ns:List (List T3)):Prop where
 ex:∃(lab:Array Nat)(firsts:List Nat),mD h Ns lab/\firsts.length=Ns.length/\
  facesFrom (nG h) (4*(Fd h).length+4) (Fd h) 0 [] (uQ h)=facesFrom (nG h) (4*(Fd h).length+4) ((Fd h).drop i) Ns.length firsts lab
 done:(∀t∈(Fd h).take i,(aP (aD 0 Ns) (tP t)).isSome=true)/\(∀j,j<Ns.length->∃n t,n<i/\(Fd h)[n]? =some t/\aP (aD 0 Ns) (tP t)=some (j:Int))/\
  ∀(n t k:Nat),n<i->(Fd h)[n]? =some t->aP (aD 0 Ns) (tP t)=some (k:Int)->∀j,j<k->∃m u,m<n/\(Fd h)[m]? =some u/\aP (aD 0 Ns) (tP u)=some (j:Int)
theorem Numbering.start{h:List Nat}(hh:∀r∈h,okR r):Numbering h 0 []:=⟨⟨uQ h,[],mD.start hh,rfl,rfl⟩,by simp,λj hj=>by simp at hj,λn t k hn=>by lia⟩
theorem drop_cons{α:Type}{l:List α}{i:Nat}{t:α}(h:l[i]? =some t):l.drop i=t::l.drop (i+1):=by obtain⟨hi,e⟩:=ar.mp h;rw[List.drop_eq_getElem_cons hi,e]
theorem take_snoc{α:Type}{l:List α}{i:Nat}{t:α}(h:l[i]? =some t):l.take (i+1)=l.take i++[t]:=by rw[List.take_add_one,h];rfl
theorem Numbering.skip{h:List Nat}{i:Nat}{Ns:List (List T3)}(R:Numbering h i Ns){t:Nat}(ht:(Fd h)[i]? =some t)(hs:(aP (aD 0 Ns) (tP t)).isSome=true):Numbering h (i+1) Ns:=by
 obtain⟨⟨lab,firsts,O,hl,e⟩,dn⟩:=R;have hm:t∈Fd h:=ba ht;have q:lab.getD t 0≠NONE:=by intro q;have:=O.rel.ins t hm;rw[ah q]at this;rw[this]at hs;cases hs
 refine⟨⟨lab,firsts,O,hl,?_⟩,λu hu=>?_,λj hj=>?_,λn u k hn hu hk j hj=>?_⟩
 ·rw[e,drop_cons ht];show(if lab.getD t 0≠NONE then _ else _)=_
  rw[ah q]
 ·rw[take_snoc ht]at hu;rcases ax.mp hu with hu|hu
  ·exact dn.1 u hu
  ·have:u=t:=by simpa using hu
   subst this;exact hs
 ·obtain⟨n,u,a1,a2⟩:=dn.2.1 j hj;exact⟨n,u,Hb,a2⟩
 ·by_cases c:n<i
  ·exact dn.2.2 n u k c hu hk j hj
  ·have:n=i:=Hb
   subst this;obtain⟨m,N,b1,_,b3⟩:=(yT Ns 0 _ _ O.nd).mp hk;have:=(ar.mp b1).1;exact dn.2.1 j Hb
theorem Numbering.face{h:List Nat}(hh:∀r∈h,okR r){ki:T3->Option Int}(hf:∀t∈Fd h,ki (tP t)=some ((nG h).getD t 4:Int))(Av:∀p,p∉ (Fd h).map tP->ki p=none)
  (kc:(Fd h).length<NONE) {i:Nat}{Ns:List (List T3)} (R:Numbering h i Ns) {t:Nat} (ht:(Fd h)[i]? =some t) (hl:aP (aD 0 Ns) (tP t)=none)
  {N:List T3} (hN:∀p,p∈N↔Rch (okT ki (tP t)) nbP (isN (aP (aD 0 Ns))) (tP t) p) (qk:N.Nodup):Numbering h (i+1) (Ns++[N]):=by
 obtain⟨⟨lab,firsts,O,hl2,e⟩,dn⟩:=R;have hm:t∈Fd h:=ba ht;obtain⟨q,O2⟩:=O.face hh hf Av kc hm hl hN qk;have grow:∀p,(aP (aD 0 Ns) p).isSome=true->(aP (aD 0 (Ns++[N])) p).isSome=true:=by intro p hp;rw[aV,aU]at hp ⊢;rw[gi];exact cg _ hp
 have hd:∀p∈N,p∉Ns.flatten:=λp hp hm=>by have z:=O2.nd;rw[gi,da]at z;exact z.2.2 p hm p (by simpa using hp) rfl
 have old:∀p (k:Nat),aP (aD 0 Ns) p=some (k:Int)->aP (aD 0 (Ns++[N])) p=some (k:Int):=λp k hk=>by
  rw[oZ hd,af]
  ·exact hk
  ·intro hp;refine hd p hp ?_;rw[<- aU Ns 0,<- aV,hk];rfl
 have htN:tP t∈N:=(hN _).mpr .refl;have new:aP (aD 0 (Ns++[N])) (tP t)=some (Ns.length:Int):=by rw[oZ hd,ah htN]
 refine⟨⟨_,t::firsts,O2,by simp[hl2],?_⟩,λu hu=>?_,λj hj=>?_,λn u k hn hu hk j hj=>?_⟩
 rotate_left 2
 ·by_cases c:j<Ns.length
  ·obtain⟨n,u,a1,a2,a3⟩:=dn.2.1 j c;exact⟨n,u,Hb,a2,old _ _ a3⟩
  ·have:j=Ns.length:=by simp at hj;lia
   subst this;exact⟨i,t,Hb,ht,new⟩
 ·by_cases c:n<i
  ·have hs:=dn.1 u (ba (l:=(Fd h).take i) (i:=n) (by rw[fw c];exact hu));have vz:aP (aD 0 Ns) (tP u)=some (k:Int):=by
    rw[oZ hd,af]at hk
    ·exact hk
    ·intro hp;refine hd _ hp ?_;rw[<- aU Ns 0,<- aV];exact hs
   obtain⟨m,v,a1,a2,a3⟩:=dn.2.2 n u k c hu vz j hj;exact⟨m,v,a1,a2,old _ _ a3⟩
  ·have:n=i:=Hb
   subst this;rw[ht]at hu;cases hu;rw[new]at hk;have:(Ns.length:Int)=(k:Int):=Option.some.inj hk;obtain⟨m,v,a1,a2,a3⟩:=dn.2.1 j Hb;exact⟨m,v,a1,a2,old _ _ a3⟩
 ·rw[e,drop_cons ht];show(if lab.getD t 0≠NONE then _ else facesFrom _ _ _ (Ns.length+1) (t::firsts) (fill _ _ _ [t] lab))=_
  rw[af (by simpa using q),aj];rfl
 ·rw[take_snoc ht]at hu;rcases ax.mp hu with hu|hu
  ·exact grow _ (dn.1 u hu)
  ·have:u=t:=by simpa using hu
   subst this;rw[aV,aU,gi];refine bg _ ?_;have:tP u∈N:=(hN _).mpr .refl;simpa using this
theorem Numbering.all{l:Fn}{Ns:List (List T3)}{i:Nat}(R:Numbering (Fc l) i Ns)(hi:(Fd (Fc l)).length<=i):
  (∀t∈(Ff l).tris,aP (aD 0 Ns) (tP t)=some ((Ff l).face t:Int))/\(Ff l).firsts.length=Ns.length/\(∀p,p∉ (Ff l).tris.map tP->aP (aD 0 Ns) p=none)/\Ns.flatten.Nodup/\∀N∈Ns,N≠[]:=by
 obtain⟨⟨lab,firsts,O,hl,e⟩,dn⟩:=R;rw[List.drop_eq_nil_of_le hi]at e;have e1:facesFrom (nG (Fc l)) (4*(Fd (Fc l)).length+4) (Fd (Fc l)) 0 [] (uQ (Fc l))=(lab,firsts.reverse):=e;have eT:(Ff l).lab=lab:=congrArg Prod.fst e1;have eF:(Ff l).firsts=firsts.reverse:=congrArg Prod.snd e1;refine⟨λt ht=>?_,by rw[eF,List.length_reverse,hl],λp hp=>O.rel.out p hp,O.nd,O.ne⟩;have hs:=dn.1 t (by rw[bf hi];exact ht);have:=O.rel.ins t ht;rw[this]at hs ⊢;by_cases q:lab.getD t 0=NONE
 ·rw[ah q]at hs;cases hs
 ·rw[af q];show _=some (((Ff l).lab.getD t 0:Nat):Int)
  rw[eT]
noncomputable def g9(hs:List Pl):List T3:=hs.flatMap λp=>[(p.1,p.2,0),(p.1,p.2,1),(p.1,p.2,2),(p.1,p.2,3)]
theorem j7(h:List Nat):g9 (h.map hP)=(Fd h).map tP:=by
 unfold g9 Fd;induction h with
 |nil=>rfl
 |cons r h ih=>
  rw[bh,gd,gd,cf,ih];congr 1;have e0:tP (4*r)=((hP r).1,(hP r).2,0):=by unfold tP hP;rw[show 4*r/4=r by lia,show 4*r%4=0 by lia];rfl
  have e1:tP (4*r+1)=((hP r).1,(hP r).2,1):=by unfold tP hP;rw[show(4*r+1)/4=r by lia,show(4*r+1)%4=1 by lia];rfl
  have e2:tP (4*r+2)=((hP r).1,(hP r).2,2):=by unfold tP hP;rw[show(4*r+2)/4=r by lia,show(4*r+2)%4=2 by lia];rfl
  have e3:tP (4*r+3)=((hP r).1,(hP r).2,3):=by unfold tP hP;rw[show(4*r+3)/4=r by lia,show(4*r+3)%4=3 by lia];rfl
  simp[e0,e1,e2,e3]
theorem gT(hs:List Pl):(g9 hs).length=4*hs.length:=by
 unfold g9;induction hs with
 |nil=>rfl
 |cons p r ih=>rw[gd,aj,ih];simp only[bo,fh];lia
theorem g7(l:Fn):(Fc l).length=4*l.length:=by
 unfold Fc;rw[List.length_mergeSort];induction l with
 |nil=>rfl
 |cons p r ih=>rw[gd,aj,ih];simp only[bo,fh];lia
theorem KY{l:Fn}(h:l.length<=256):(Fd (Fc l)).length<NONE:=by have:=gT ((Fc l).map hP);rw[j7,ai,ai,g7]at this;unfold NONE;lia
section
variable {κ β:Type} [DecidableEq κ]
theorem iG(f:κ->β)(l:List κ):(l.map λp=>(p,f p)).map (·.1)=l:=by rw[dt];simp[Function.comp_def]
theorem mB(f:κ->β)(k:κ):∀l:List κ,aP (l.map λp=>(p,f p)) k=if k∈l then some (f k)else none
 |[]=>by simp[jQ]
 |x::N=>by
  rw[bh,cI,mB f k N];by_cases e:x=k
  ·rw[ah e,ah (by simp[e]),e]
  ·rw[af e];by_cases h:k∈N
   ·rw[ah h,ah (ao _ h)]
   ·rw[af h,af (by rw[aq];rintro(z|z);exact e z.symm;exact h z)]
theorem LK(f:κ->β){l:List κ}{k:κ}(v:β)(h:k∈l):dM (l.map λp=>(p,f p)) k v=l.map λp=>(p,if p=k then v else f p):=by unfold dM;rw[ah (tE.mpr (by rw[iG];exact h)),dt];apply dk;intro x _;simp only[Function.comp];split<;>rfl
theorem yA:∀(L:List κ)(f:κ->β){l:List κ}(v:β),(∀p∈L,p∈l)->cO (l.map λp=>(p,f p)) (L.map λp=>(p,v))=l.map λp=>(p,if p∈L then v else f p)
 |[],f,l,v,_=>by simp[cO]
 |k::L,f,l,v,h=>by
  rw[bh];show cO (dM (l.map λp=>(p,f p)) k v) (L.map λp=>(p,v))=_
  rw[LK f v (h k (by simp)),yA L (λp=>if p=k then v else f p) v (λp hp=>h p (by simp[hp]))];apply dk;intro x _;by_cases h1:x∈L
  ·simp[h1]
  ·by_cases h2:x=k
   ·simp[h1,h2]
   ·simp[h1,h2]
theorem rC:∀(ps l:List (κ×β)),(ps.map (·.1)).Nodup->(∀k∈ps.map (·.1),k∉l.map (·.1))->cO l ps=l++ps
 |[],l,_,_=>by simp[cO]
 |p::r,l,h,h2=>by
  rw[bh,dh]at h;show cO (dM l p.1 p.2) r=_
  rw[gI p.2 (h2 p.1 (by simp)),rC r _ h.2,fk]
  ·rfl
  ·intro k hk hm;rw[cf,ax]at hm;rcases hm with hm|hm
   ·exact h2 k (by rw[bh];exact ao _ hk) hm
   ·have:k=p.1:=by simpa using hm
    exact h.1 (this▸hk)
end
theorem HR{hs:List Pl}{p:Pl}(h:p∈hs):hJ hs 1 p=0:=by
 show(if p∈aR hs 0 then((0:Nat):Int)else hJ hs 0 p)=0
 rw[ah (show p∈aR hs 0 from h)];rfl
theorem nV(hs:List Pl):∀k,∀p∈aR hs k,p∈hs
 |0,_,h=>h
 |k+1,p,h=>nV hs k p (bu.mp h).1
noncomputable def j1(hs:List Pl)(k:Nat):List (Pl×Int):=if k=0 then[]else hs.map λp=>(p,hJ hs k p)
theorem BQ{hs:List Pl}(hn:hs.Nodup)(k:Nat):cO (j1 hs k) ((aR hs k).map λp=>(p,(k:Int)))=j1 hs (k+1):=by
 cases k with
 |zero=>
  show cO [] (hs.map λp=>(p,((0:Nat):Int)))=hs.map λp=>(p,hJ hs 1 p)
  rw[rC]
  ·rw[nil_append];apply dk;intro p hp;rw[HR hp];rfl
  ·rw[iG (λ_=>((0:Nat):Int))];exact hn
  ·simp
 |succ k=>
  show cO (hs.map λp=>(p,hJ hs (k+1) p)) _=hs.map λp=>(p,hJ hs (k+2) p)
  rw[yA (aR hs (k+1)) (λp=>hJ hs (k+1) p) ((k+1:Nat):Int) (nV hs _)];apply dk;intro p _;show _=(p,if p∈aR hs (k+1)then((k+1:Nat):Int)else hJ hs (k+1) p)
  by_cases q:p∈aR hs (k+1)
  ·rw[ah q,ah q]
  ·rw[af q,af q]
theorem xU{hs:List Pl}{k:Nat}(e:aR hs k=[])(p:Pl):∀m,k<=m->hJ hs m p=hJ hs k p:=by
 have oP:∀m,k<=m->aR hs m=[]:=by
  intro m hm;induction m with
  |zero=>
       have:k=0:=Hb
       rw[<- this];exact e
  |succ m ih=>
   by_cases h:k<=m
   ·show(aR hs m).filter _=[]
    rw[ih h];rfl
   ·have:k=m+1:=Hb
    rw[<- this];exact e
 intro m hm;induction m with
 |zero=>
      have:k=0:=Hb
      rw[this]
 |succ m ih=>
  by_cases h:k<=m
  ·show(if p∈aR hs m then(m:Int)else hJ hs m p)=_
   rw[oP m h,af (by simp),ih h]
  ·have:k=m+1:=Hb
   rw[this]
def bW(h:List Nat):List (Pl×Int):=(h.map hP).map λp=>(p,bS h p)
theorem E4{h:List Nat}(hh:∀r∈h,okR r){k:Nat}(hk:0<k)(e:aR (h.map hP) k=[]):j1 (h.map hP) k=bW h:=by
 unfold j1 bW;rw[af Hb];apply dk;intro p hp;unfold bS;rw[ah hp];have Bv:aR (h.map hP) 64=[]:=by rw[d3 hh,eS hh (aw 64)];rfl
 by_cases c:k<=64
 ·rw[xU e p 64 c]
 ·rw[xU Bv p k Hb]
theorem LD(h:List Nat)(p:Pl):(aP (bW h) p).getD (-1)=bS h p:=by
 unfold bW;rw[mB];by_cases q:p∈h.map hP
 ·rw[ah q];rfl
 ·rw[af q];unfold bS;rw[af q];rfl
def hgt(h:List Nat)(p:Pl):Int:=(heightAt (gridOf h) p.1.toNat p.2.toNat:Int)
theorem DP(h:List Nat)(c:Fu):hgt h (iP c)=(heightAt (gridOf h) c.1 c.2:Int):=by unfold hgt iP;simp
theorem F8{h:List Nat}(hh:∀r∈h,okR r){r c:Nat}(hr:r∈h){m:Int}(hm:m∈cN h (aE (hP r) c))(qo:∀x∈cN h (aE (hP r) c),m<=x):m=hgt h (aE (hP r) c):=by rw[kJ]at hm qo ⊢;rw[DP];exact HE hh (HY (hh r hr)).1 hm qo
noncomputable def fN(h:List Nat)(t:T3):Int:=HN t.2.2.toNat (hgt h (aE (t.1,t.2.1) t.2.2.toNat)) (hgt h (aE (t.1,t.2.1) (t.2.2.toNat+1))) (bS h (t.1,t.2.1))
theorem tD{h:List Nat}(hh:∀r∈h,okR r){t:Nat}(ht:t∈Fd h):fN h (tP t)=((nG h).getD t 4:Int):=by
 have hr:=bE.mp ht;rw[xS hh,ah ht,<- NO ((z9 hh).mpr hr)];unfold fN;have e1:((tP t).1,(tP t).2.1)=hP (t/4):=rfl;have e2:(tP t).2.2.toNat=t%4:=by unfold tP;dsimp only;lia
 rw[e1,e2,HS hh hr,kJ,kJ,DP,DP];rfl
def cV(h:List Nat):List (T3×Int):=(g9 (h.map hP)).map λt=>(t,fN h t)
theorem FD{h:List Nat}(hh:∀r∈h,okR r):∀t∈Fd h,aP (cV h) (tP t)=some ((nG h).getD t 4:Int):=by intro t ht;unfold cV;rw[mB,j7,ah (au.mpr ⟨t,ht,rfl⟩),tD hh ht]
theorem BL(h:List Nat):∀p,p∉ (Fd h).map tP->aP (cV h) p=none:=by intro p hp;unfold cV;rw[mB,j7,af hp]
theorem FE{h:List Nat}(hh:∀r∈h,okR r){t:Nat}(ht:t∈Fd h):0<=fN h (tP t)/\fN h (tP t)<4:=by rw[tD hh ht,xS hh,ah ht];have:=HM (gridOf h) t;lia
noncomputable def partsFrom(m:Int)(cur:List Int):List Int->List (List Int)
 |[]=>[cur]
 |v::r=>if v=m then cur::partsFrom m [] r else partsFrom m (cur++[v]) r
theorem gK(m:Int):∀(t cur:List Int),∃p ps,parts m t=p::ps/\partsFrom m cur t=(cur++p)::ps
 |[],cur=>⟨[],[],rfl,by simp[partsFrom]⟩
 |v::r,cur=>by
  by_cases e:v=m
  ·obtain⟨p,ps,h1,h2⟩:=gK m r [];refine⟨[],parts m r,?_,?_⟩
   ·simp[parts,e]
   ·simp only[partsFrom,ah e];rw[h2,h1];simp
  ·obtain⟨p,ps,h1,h2⟩:=gK m r (cur++[v]);refine⟨v::p,ps,?_,?_⟩
   ·simp[parts,e,h1]
   ·simp only[partsFrom,af e];rw[h2];simp
theorem iV(m:Int)(t:List Int):partsFrom m [] t=parts m t:=by obtain⟨p,ps,h1,h2⟩:=gK m t [];rw[h2,h1];simp
theorem iX{m v:Int}{cur r:List Int}(e:v=m):partsFrom m cur (v::r)=cur::partsFrom m [] r:=by simp[partsFrom,e]
theorem iD{m v:Int}{cur r:List Int}(e:¬v=m):partsFrom m cur (v::r)=partsFrom m (cur++[v]) r:=by simp[partsFrom,e]
theorem qN(m:Int)(t:List Int):(parts m t).length<=t.length+1:=by
 have:∀(t cur:List Int),(partsFrom m cur t).length<=t.length+1:=by
  intro t;induction t with
  |nil=>intro cur;simp[partsFrom]
  |cons v r ih=>
   intro cur;by_cases e:v=m
   ·rw[iX e];have:=ih [];simp;lia
   ·rw[iD e];have:=ih (cur++[v]);simp;lia
 rw[<- iV];exact this t []
theorem iU{m:Int}{t p:List Int}(h:p∈parts m t):p.length<=t.length:=by
 have:∀(t cur:List Int),∀p∈partsFrom m cur t,p.length<=cur.length+t.length:=by
  intro t;induction t with
  |nil=>intro cur p hp;simp[partsFrom]at hp;subst hp;simp
  |cons v r ih=>
   intro cur p hp;by_cases e:v=m
   ·rw[iX e]at hp;rcases aq.mp hp with rfl|hp
    ·simp
    ·have:=ih [] p hp;simp at this ⊢;lia
   ·rw[iD e]at hp;have:=ih _ p hp;simp at this ⊢;lia
 rw[<- iV]at h;simpa using this t [] p h
section
variable {α β:Type}{f:α->Option β}
theorem GO:∀{l:List α}{zs:List β}{x:α}{z:β},l.mapM f=some zs->f x=some z->(l++[x]).mapM f=some (zs++[z]):=by
 intro l zs x z h1 h2;exact mR (by
  have h:=mapM_some h1;induction h with
  |nil=>exact .cons h2 .nil
  |cons r _ ih=>exact .cons r (ih (mR (by assumption))))
theorem qQ{l:List α}{i:Nat}{zs:List β}{x:α}{z:β}(h:(l.take i).mapM f=some zs)(hx:l[i]? =some x)(hz:f x=some z):(l.take (i+1)).mapM f=some (zs++[z]):=by rw[take_snoc hx];exact GO h hz
theorem n8.mem{R:α->β->Prop}:∀{l:List α}{m:List β},n8 R l m->∀x∈l,∃y,R x y
 |_,_,.nil,_,h=>by cases h
 |_,_,.cons r t,x,h=>by
  rcases aq.mp h with rfl|h
  ·exact⟨_,r⟩
  ·exact n8.mem t x h
theorem n8.len{R:α->β->Prop}:∀{l:List α}{m:List β},n8 R l m->l.length=m.length
 |_,_,.nil=>rfl
 |_,_,.cons _ t=>by simp[n8.len t]
theorem qR{l:List α}{x:α}(hx:x∈l)(hz:f x=none):l.mapM f=none:=by
 cases h:l.mapM f with
 |none=>rfl
 |some zs=>obtain⟨y,e⟩:=(mapM_some h).mem x hx;rw[hz]at e;cases e
theorem uL{l:List α}{zs:List β}(h:l.mapM f=some zs):zs.length=l.length:=((mapM_some h).len).symm
end
theorem BJ{α β:Type}{f:β->α->Option β}{l:List α}{b:β}{x:α}:(l++[x]).foldlM f b=(l.foldlM f b).bind λc=>f c x:=by
 rw[List.foldlM_append];show(l.foldlM f b>>=λc=>[x].foldlM f c)=_
 congr 1;funext c;simp
theorem sF{α β:Type}{f:β->α->Option β}{l:List α}{b c:β}{i:Nat}{x:α}(h:(l.take i).foldlM f b=some c)(hx:l[i]? =some x):(l.take (i+1)).foldlM f b=f c x:=by rw[take_snoc hx,BJ,h];rfl
theorem BK{α β:Type}{f:β->α->Option β}{l:List α}{b c:β}{i:Nat}{x:α}(h:(l.take i).foldlM f b=some c)(hx:l[i]? =some x)(hn:f c x=none):l.foldlM f b=none:=by have e:l=l.take (i+1)++l.drop (i+1):=(List.take_append_drop ..).symm;rw[e,List.foldlM_append,sF h hx,hn];rfl
def fP(a b q:Pl):Prop:=a.1=b.1/\a.1=q.1/\min a.2 b.2<=q.2/\q.2<max a.2 b.2
def oU(n k:Nat):Nat:=if k=0 then n - 1 else k - 1
noncomputable def BI(w:List Pl)(k:Nat)(q:Pl):Prop:=∃a b,w[k]? =some a/\w[oU w.length k]? =some b/\fP a b q
noncomputable def kG(ws:List (List Pl))(i:Nat)(q:Pl):Prop:=∃w∈ws.take i,∃k,BI w k q
theorem FC(a b:Fu)(x y:Nat):sE a b x y=true↔fP (iP b) (iP a) ((x:Int),(y:Int)):=by
 unfold sE fP iP;simp only[bw,beq_iff_eq,decide_eq_true_iff];have e1:(min (b.2:Int) (a.2:Int))=((min a.2 b.2:Nat):Int):=Hb
 have e2:(max (b.2:Int) (a.2:Int))=((max a.2 b.2:Nat):Int):=Hb
 rw[e1,e2];lia
theorem zX(w:Walk)(s:Fu×Fu):s∈sides w↔∃k,w[k]? =some s.2/\w[oU w.length k]? =some s.1:=by
 unfold sides;rw[gp];have hz:∀(j:Nat),(w.zip (w.drop 1++w.take 1))[j]? =some s↔w[j]? =some s.1/\(w.drop 1++w.take 1)[j]? =some s.2:=by intro j;rw[List.getElem?_zip_eq_some]
 constructor
 ·rintro⟨j,h⟩;obtain⟨h1,h2⟩:=(hz j).mp h;have hj:j<w.length:=(ar.mp h1).1;by_cases c:j+1<w.length
  ·rw[ij (by rw[ik];lia),List.getElem?_drop]at h2;refine⟨j+1,by rw[Nat.add_comm];exact h2,?_⟩;unfold oU;rw[af Hb];exact h1
  ·rw[dv (by rw[ik];lia),ik]at h2;have e:j - (w.length - 1)=0:=Hb
   rw[e,fw Hb]at h2;refine⟨0,h2,?_⟩;unfold oU;rw[ah rfl,show w.length - 1=j by lia];exact h1
 ·rintro⟨k,h1,h2⟩;have hk:k<w.length:=(ar.mp h1).1;by_cases c:k=0
  ·subst c;refine⟨w.length - 1,(hz _).mpr ⟨h2,?_⟩⟩;rw[dv (by rw[ik];lia),ik,show w.length - 1 - (w.length - 1)=0 by lia,fw Hb];exact h1
  ·refine⟨k - 1,(hz _).mpr ⟨?_,?_⟩⟩
   ·unfold oU at h2;rw[af c]at h2;exact h2
   ·rw[ij (by rw[ik];lia),List.getElem?_drop,show 1+(k - 1)=k by lia];exact h1
theorem xM(w:Walk)(x y:Nat):(∃k,BI (iW w) k ((x:Int),(y:Int)))↔∃s∈sides w,sE s.1 s.2 x y=true:=by
 have hl:(iW w).length=w.length:=ai ..;have hg:∀(k:Nat)(a:Pl),(iW w)[k]? =some a↔∃p,w[k]? =some p/\a=iP p:=by intro k a;unfold iW;rw[bc];cases w[k]? <;>simp[eq_comm]
 constructor
 ·rintro⟨k,a,b,h1,h2,h3⟩;obtain⟨p,hp,rfl⟩:=(hg k a).mp h1;rw[hl]at h2;obtain⟨q,hq,rfl⟩:=(hg _ b).mp h2;exact⟨(q,p),(zX w (q,p)).mpr ⟨k,hp,hq⟩,(FC q p x y).mpr h3⟩
 ·rintro⟨s,hs,hf⟩;obtain⟨k,h1,h2⟩:=(zX w s).mp hs;exact⟨k,iP s.2,iP s.1,(hg k _).mpr ⟨_,h1,rfl⟩,by rw[hl];exact(hg _ _).mpr ⟨_,h2,rfl⟩,(FC s.1 s.2 x y).mp hf⟩
theorem DV(ws:List Walk)(x y:Nat):kG (iWs ws) (iWs ws).length ((x:Int),(y:Int))↔dJ ws x y=true:=by
 unfold kG dJ;rw[bf (aw _),fe];constructor
 ·rintro⟨w,hw,hk⟩;obtain⟨v,hv,rfl⟩:=au.mp hw;obtain⟨s,hs,hf⟩:=(xM v x y).mp hk;exact⟨v,hv,fe.mpr ⟨s,hs,hf⟩⟩
 ·rintro⟨v,hv,h⟩;obtain⟨s,hs,hf⟩:=fe.mp h;exact⟨iW v,au.mpr ⟨v,hv,rfl⟩,(xM v x y).mpr ⟨s,hs,hf⟩⟩
noncomputable def nE(ws:List (List Pl))(i:Nat)(w:List Pl)(k:Nat)(q:Pl):Prop:=kG ws i q\/∃j,j<k/\BI w j q
theorem DW(ws:List (List Pl))(i:Nat)(w:List Pl)(q:Pl):nE ws i w 0 q↔kG ws i q:=by
 unfold nE;constructor
 ·rintro(h|⟨j,h,_⟩)
  ·exact h
  ·lia
 ·exact .inl
theorem uY(ws:List (List Pl))(i:Nat)(w:List Pl)(k:Nat)(q:Pl):nE ws i w (k+1) q↔nE ws i w k q\/BI w k q:=by
 unfold nE;constructor
 ·rintro(h|⟨j,h1,h2⟩)
  ·exact .inl (.inl h)
  ·by_cases e:j=k
   ·exact .inr (e▸h2)
   ·exact .inl (.inr ⟨j,Hb,h2⟩)
 ·rintro((h|⟨j,h1,h2⟩)|h)
  ·exact .inl h
  ·exact .inr ⟨j,Hb,h2⟩
  ·exact .inr ⟨k,Hb,h⟩
theorem HI{ws:List (List Pl)}{i:Nat}{w:List Pl}(hw:ws[i]? =some w)(q:Pl):nE ws i w w.length q↔kG ws (i+1) q:=by
 unfold nE kG;rw[take_snoc hw];constructor
 ·rintro(⟨v,hv,h⟩|⟨j,_,h⟩)
  ·exact⟨v,cg _ hv,h⟩
  ·exact⟨w,by simp,j,h⟩
 ·rintro⟨v,hv,h⟩;rcases ax.mp hv with hv|hv
  ·exact .inl ⟨v,hv,h⟩
  ·have:v=w:=by simpa using hv
   subst this;obtain⟨k,h⟩:=h;obtain⟨a,b,h1,h2⟩:=id h;exact .inr ⟨k,(ar.mp h1).1,h⟩
noncomputable def box:List Pl:=(List.range 65).flatMap λ(x:Nat)=>(List.range 65).map λ(y:Nat)=>(((x:Int),(y:Int)):Pl)
theorem FO{q:Pl}(h1:0<=q.1)(h2:q.1<=64)(h3:0<=q.2)(h4:q.2<=64):q∈box:=by unfold box;refine cv.mpr ⟨q.1.toNat,fj.mpr Hb,au.mpr ⟨q.2.toNat,fj.mpr Hb,?_⟩⟩;obtain⟨a,b⟩:=q;simp at h1 h3 ⊢;lia
theorem NU:box.length=4225:=by decide+kernel
theorem uX{ws:List (List Pl)}(ho:∀w∈ws,∀p∈w,(0<=p.1/\p.1<=64)/\(0<=p.2/\p.2<=64)){w:List Pl}(hw:w∈ws){k:Nat}{q:Pl}(h:BI w k q):q∈box:=by obtain⟨a,b,h1,h2,h3,h4,h5,h6⟩:=h;have o1:=ho w hw a (ba h1);have o2:=ho w hw b (ba h2);exact FO Hb Hb Hb Hb
noncomputable def nM(F:Nat->Nat->Bool)(y n:Nat):Fn:=((List.range n).map λx=>((x,y):Cell)).filter λc=>bV F c.2 c.1
noncomputable def j9(F:Nat->Nat->Bool)(n:Nat):Fn:=(List.range n).flatMap λy=>nM F y 64
theorem G9(F:Nat->Nat->Bool):j9 F 64=aW F:=rfl
theorem mJ(F:Nat->Nat->Bool)(y n:Nat):nM F y (n+1)=if bV F y n=true then nM F y n++[(n,y)]else nM F y n:=by
 unfold nM;rw[range_succ,cf,gg];by_cases h:bV F y n=true
 ·rw[ah h];simp[h]
 ·rw[af h];simp[h]
theorem tT(F:Nat->Nat->Bool)(n:Nat):j9 F (n+1)=j9 F n++nM F n 64:=by unfold j9;rw[range_succ,iw];simp
theorem tV{F:Nat->Nat->Bool}{y n:Nat}{c:Cell}(h:c∈nM F y n):c.1<n/\c.2=y:=by unfold nM at h;obtain⟨h1,_⟩:=bu.mp h;obtain⟨x,hx,rfl⟩:=au.mp h1;exact⟨fj.mp hx,rfl⟩
theorem wJ{F:Nat->Nat->Bool}{n:Nat}{c:Cell}(h:c∈j9 F n):c.2<n/\c.1<64:=by unfold j9 at h;obtain⟨y,hy,h⟩:=cv.mp h;have:=tV h;have:=fj.mp hy;lia
theorem B5(F:Nat->Nat->Bool)(y x:Nat):bV F y x=xor (if x=0 then false else bV F y (x - 1)) (F x y):=by
 cases x with
 |zero=>simp[bV]
 |succ x=>simp[bV]
theorem tW(F:Nat->Nat->Bool)(y n:Nat):(nM F y n).length<=n:=by unfold nM;exact de (ff _ _) (by simp)
theorem qJ(F:Nat->Nat->Bool)(n:Nat):(j9 F n).length<=64*n:=by
 induction n with
 |zero=>simp[j9]
 |succ n ih=>rw[tT,aj];have:=tW F n 64;lia
section
variable {κ β:Type} [DecidableEq κ]
noncomputable def Tbl(l:List (κ×β))(S:κ->Prop):Prop:=(l.map (·.1)).Nodup/\∀q,q∈l.map (·.1)↔S q
theorem Tbl.nil:Tbl ([]:List (κ×β)) λ_=>False:=⟨by simp,by simp⟩
theorem Tbl.put{l:List (κ×β)}{S:κ->Prop}(h:Tbl l S)(k:κ)(v:β):Tbl (dM l k v) λq=>S q\/q=k:=by
 refine⟨vH h.1,λq=>?_⟩;rw[yB];split
 ·rename_i hk;rw[h.2];constructor
  ·exact .inl
  ·rintro(z|z)
   ·exact z
   ·rw[z];exact(h.2 k).mp hk
 ·rw[ax,h.2];simp
theorem Tbl.iff{l:List (κ×β)}{S T:κ->Prop}(h:Tbl l S)(e:∀q,S q↔T q):Tbl l T:=⟨h.1,λq=>(h.2 q).trans (e q)⟩
theorem Tbl.len{l:List (κ×β)}{S:κ->Prop}(h:Tbl l S){b:List κ}(hb:∀q,S q->q∈b):l.length<=b.length:=by
 have:=c7 h.1 (b:=b) λq hq=>hb q ((h.2 q).mp hq)
 rwa [ai]at this
end
theorem MN{W:List Walk}(h:uE W):∀w∈iWs W,∀p∈w,(0<=p.1/\p.1<=64)/\(0<=p.2/\p.2<=64):=by intro w hw p hp;obtain⟨v,hv,rfl⟩:=au.mp hw;obtain⟨q,hq,rfl⟩:=au.mp hp;have:=h v hv q hq;unfold okP at this;unfold iP;simp only;lia
theorem HH{ws:List (List Pl)}(ho:∀w∈ws,∀p∈w,(0<=p.1/\p.1<=64)/\(0<=p.2/\p.2<=64)){w:List Pl}(hw:w∈ws){i k:Nat}{q:Pl}(h:nE ws i w k q):q∈box:=by
 rcases h with⟨v,hv,k,h⟩|⟨j,_,h⟩
 ·exact uX ho (List.mem_of_mem_take hv) h
 ·exact uX ho hw h
theorem BH(ws:List (List Pl))(q:Pl):kG ws 0 q↔False:=by simp[kG]
noncomputable def cT(cs:List Pl)(c:Pl)(j:Nat):List (Pl×Int):=(([0,1,2,3].take j).filter λ(s:Nat)=>!decide (aK c s∈cs)).map λs=>(aE c s,hdg s)
theorem vD(cs:List Pl)(c:Pl):cT cs c 4=f6 cs c:=rfl
theorem sT(cs:List Pl)(c:Pl){j:Nat}(hj:j<4):cT cs c (j+1)=cT cs c j++(if aK c j∈cs then[]else[(aE c j,hdg j)]):=by
 have e:([0,1,2,3]:List Nat).take (j+1)=[0,1,2,3].take j++[j]:=by
  have cs:j=0\/j=1\/j=2\/j=3:=Hb
  rcases cs with rfl|rfl|rfl|rfl<;>rfl
 unfold cT;rw[e,gg,cf];congr 1;by_cases h:aK c j∈cs
 ·rw[ah h];simp[h]
 ·rw[af h];simp[h]
theorem m6(cs:List Pl)(c:Pl)(j:Nat):(cT cs c j).length<=4:=by unfold cT;rw[ai];refine de (ff _ _) ?_;rw[bx];simp;lia
def dE(cs:List Pl)(i:Nat):List (Pl×Int):=(cs.take i).flatMap (f6 cs)
theorem pH{cs:List Pl}{i:Nat}{c:Pl}(h:cs[i]? =some c):dE cs (i+1)=dE cs i++f6 cs c:=by unfold dE;rw[take_snoc h,iw];simp
theorem BA(cs:List Pl):cO [] (dE cs cs.length)=d7 cs:=by unfold dE d7 gF;rw[bf (aw _)]
theorem B9(cs:List Pl)(i:Nat):(dE cs i).length<=4*i:=by
 induction i with
 |zero=>simp[dE]
 |succ i ih=>
  cases h:cs[i]? with
  |some c=>rw[pH h,aj,<- vD];have:=m6 cs c 4;lia
  |none=>
   have hl:cs.length<=i:=jm.mp h;have:dE cs (i+1)=dE cs i:=by unfold dE;rw[bf Hb,bf hl]
   rw[this];lia
theorem vG{κ β:Type}[DecidableEq κ](l a:List (κ×β))(k:κ)(v:β):cO l (a++[(k,v)])=dM (cO l a) k v:=by rw[zL];rfl
structure fQ(l:Fn)(seen:List Fu)(i:Nat)(ws:List Walk):Prop where
 KQ:fR l seen ((c6 l).drop i)
 eq:ws++Gf l seen ((c6 l).drop i)=walksOf l
 nd:seen.Nodup
 out:∀y∈seen,(outOf l y).isSome=true
theorem fQ.start(l:Fn):fQ l [] 0 [] where
 KQ:=fR.starts l
 eq:=by
  show Gf l [] (c6 l)=Gf l [] (pointsOf l)
  rw[dQ l (pointsOf l)];rfl
 nd:=by simp
 out:=by simp
theorem fQ.skip{l:Fn}{seen:List Fu}{i:Nat}{ws:List Walk}(h:fQ l seen i ws){p:Fu}(hi:(c6 l)[i]? =some p)(hs:p∈seen):fQ l seen (i+1) ws:=by
 have g:=h.KQ;have e:=h.eq;rw[drop_cons hi]at g e;refine⟨g.skip (.inl hs),?_,h.nd,h.out⟩;rw[<- e];show _=ws++(if seen.contains p=true then _ else _)
 rw[ah (by simpa using hs)]
theorem fQ.done{l:Fn}{seen:List Fu}{ws:List Walk}(h:fQ l seen (c6 l).length ws):ws=walksOf l:=by have e:=h.eq;rw[List.drop_eq_nil_of_le (aw _)]at e;rw[<- e];simp[Gf]
theorem fQ.len{l:Fn}(hp:Ge l=false){seen:List Fu}{i:Nat}{ws:List Walk}(h:fQ l seen i ws):seen.length<=4*l.length:=by
 have h1:(iW seen).Nodup:=d5 h.nd λx _ y _ e=>gO e
 have h2:=c7 (b:=(d7 (iW l)).map (·.1)) h1 λp hm=>by
  obtain⟨q,hq,rfl⟩:=au.mp hm;have:=h.out q hq;cases e:outOf l q with
  |none=>rw[e]at this;cases this
  |some d=>exact(qV hp _).mpr ⟨q,d,rfl,e⟩
 have h3:=pG (iW l);simp only[iW,ai]at h2 h3;lia
theorem fQ.next{l:Fn}(hp:Ge l=false){seen:List Fu}{i:Nat}{ws:List Walk}(h:fQ l seen i ws){p:Fu}(hi:(c6 l)[i]? =some p)(hs:p∉seen):
  ∃f:List (Pl×Int),nK (aP (d7 (iW l))) (iP p) f (iP p)/\f≠[]/\(f.map (·.1)).Nodup/\(∀y∈f.map (·.1),y∉iW seen)/\∃(oz:List Fu)(w:Walk),iW oz=iW seen++f.map (·.1)/\iW w=bL none f/\fQ l oz (i+1) (ws++[w]):=by
 have g:=h.KQ;have e:=h.eq;rw[drop_cons hi]at g e;have hm:=ba hi;have ho:=(bu.mp hm).2;obtain⟨d,ho⟩:∃d,outOf l p=some d:=by
  cases q:outOf l p with
  |none=>rw[q]at ho;cases ho
  |some d=>exact⟨d,rfl⟩
 obtain⟨f,p1,p2,p3,p4,p5,p6,p7⟩:=IK hp g hs ho;have ek:(f.map iF).map (·.1)=iW (f.map (·.1)):=by simp[iW,iF,Function.comp_def]
 have nd2:(f.map (·.1)).Nodup:=by rw[ek]at p3;unfold iW at p3;exact List.Pairwise.of_map iP (λa b vh z=>vh (by rw[z])) p3
 refine⟨f.map iF,p1,by intro z;exact p2 (by simpa using z),p3,?_,seen++f.map (·.1),cornersOf f,?_,p7,p5,?_,?_,?_⟩
 ·intro y hy;rw[ek]at hy;obtain⟨q,hq,rfl⟩:=au.mp hy;intro z;exact p4 q hq (iH.mp z)
 ·rw[ek];simp[iW]
 ·rw[<- e,p6];simp
 ·rw[da];exact⟨h.nd,nd2,λa ha b hb z=>p4 b hb (z▸ha)⟩
 ·intro y hy;rcases ax.mp hy with hy|hy
  ·exact h.out y hy
  ·have hk:iP y∈(f.map iF).map (·.1):=by rw[ek];exact iH.mpr hy
   have pa:∀{a b:Pl}{r:List (Pl×Int)},nK (aP (d7 (iW l))) a r b->∀z∈r.map (·.1),(aP (d7 (iW l)) z).isSome=true:=by
    intro a b r pr;induction pr with
    |nil p=>intro z hz;cases hz
    |cons h1 _ _ _ ih=>
     intro z hz;rcases aq.mp hz with rfl|hz
     ·rw[h1];rfl
     ·exact ih z hz
   have:=pa p1 _ hk;rw[aV]at this;obtain⟨q,d',h1,h2⟩:=(qV hp _).mp this;rw[gO h1,h2];rfl
noncomputable def wN(c:Pl):List Pl:=[(2*c.1+0,2*c.2+0),(2*c.1+1,2*c.2+0),(2*c.1+0,2*c.2+1),(2*c.1+1,2*c.2+1)]
theorem A5{cs:List Pl}{i:Nat}{c:Pl}(h:cs[i]? =some c):fD (cs.take (i+1))=fD (cs.take i)++wN c:=by unfold fD;rw[take_snoc h,iw];simp[wN]
theorem CJ(cs:List Pl):(fD cs).length=4*cs.length:=by
 unfold fD;induction cs with
 |nil=>rfl
 |cons c r ih=>rw[gd,aj,ih,bo];simp;lia
theorem GC(c:Pl){j:Nat}{q:Pl}(hq:([(0,0),(1,0),(0,1),(1,1)]:List Pl)[j]? =some q):(wN c).take (j+1)=(wN c).take j++[(2*c.1+q.1,2*c.2+q.2)]:=by
 have hj:j<4:=(ar.mp hq).1;have cs:j=0\/j=1\/j=2\/j=3:=Hb
 rcases cs with rfl|rfl|rfl|rfl<;>(cases hq;rfl)
theorem ED(p:Pl){j:Nat}{q:Pl}(hq:([(-1,-1),(0,-1),(1,-1),(-1,0),(1,0),(-1,1),(0,1),(1,1)]:List Pl)[j]? =some q):(cM p)[j]? =some (p.1+q.1,p.2+q.2):=by
 have hj:j<8:=(ar.mp hq).1;have cs:j=0\/j=1\/j=2\/j=3\/j=4\/j=5\/j=6\/j=7:=Hb
 rcases cs with rfl|rfl|rfl|rfl|rfl|rfl|rfl|rfl<;>(cases hq;rfl)
theorem NZ(h:List Nat)(p:Pl){j:Nat}{q:Pl}(hq:([(-1,-1),(0,-1),(-1,0),(0,0)]:List Pl)[j]? =some q):(cN h p)[j]? =some (bS h (p.1+q.1,p.2+q.2)+1):=by
 have hj:j<4:=(ar.mp hq).1;have cs:j=0\/j=1\/j=2\/j=3:=Hb
 rcases cs with rfl|rfl|rfl|rfl<;>(cases hq;rfl)
structure LR(h:List Nat)(ht:List (Pl×Int)):Prop where
 val:∀q z,aP ht q=some z->z=hgt h q
 all:∀x∈h,∀c,c<4->aP ht (aE (hP x) c)=some (hgt h (aE (hP x) c))
structure gS(h:List Nat)(ht:List (Pl×Int))(i j:Nat):Prop where
 val:∀q z,aP ht q=some z->z=hgt h q
 old:∀m x,m<i->h[m]? =some x->∀c,c<4->(aP ht (aE (hP x) c)).isSome=true
 cur:∀x,h[i]? =some x->∀c,c<j->(aP ht (aE (hP x) c)).isSome=true
 len:ht.length<=4*i+j
theorem gS.start(h:List Nat):gS h [] 0 0:=⟨λq z e=>(by cases e),λm x hm=>by lia,λx _ c hc=>by lia,cn _⟩
theorem gS.keep{h:List Nat}{ht:List (Pl×Int)}{i j:Nat}(a:gS h ht i j){r:Nat}(hr:h[i]? =some r)(hs:(aP ht (aE (hP r) j)).isSome=true):gS h ht i (j+1):=by
 refine⟨a.val,a.old,λx hx c hc=>?_,by have:=a.len;lia⟩;by_cases e:c=j
 ·subst e;rw[hr]at hx;cases hx;exact hs
 ·exact a.cur x hx c Hb
theorem gS.put{h:List Nat}{ht:List (Pl×Int)}{i j:Nat}(a:gS h ht i j){r:Nat}(hr:h[i]? =some r):gS h (dM ht (aE (hP r) j) (hgt h (aE (hP r) j))) i (j+1):=by
 have mono:∀q,(aP ht q).isSome=true->(aP (dM ht (aE (hP r) j) (hgt h (aE (hP r) j))) q).isSome=true:=by
  intro q hq;rw[m9];split
  ·rfl
  ·exact hq
 refine⟨λq z e=>?_,λm x hm hx c hc=>mono _ (a.old m x hm hx c hc),λx hx c hc=>?_,?_⟩
 ·rw[m9]at e;by_cases z':q=aE (hP r) j
  ·rw[ah z']at e;cases e;rw[z']
  ·rw[af z']at e;exact a.val q z e
 ·by_cases e:c=j
  ·subst e;rw[hr]at hx;cases hx;rw[m9,ah rfl];rfl
  ·exact mono _ (a.cur x hx c Hb)
 ·have:=sP ht (aE (hP r) j) (hgt h (aE (hP r) j));have:=a.len;lia
theorem gS.next{h:List Nat}{ht:List (Pl×Int)}{i:Nat}(a:gS h ht i 4):gS h ht (i+1) 0:=by
 refine⟨a.val,λm x hm hx c hc=>?_,by intro x _ c hc;lia,by have:=a.len;lia⟩;by_cases e:m=i
 ·subst e;exact a.cur x hx c hc
 ·exact a.old m x Hb hx c hc
theorem gS.done{h:List Nat}{ht:List (Pl×Int)}(a:gS h ht h.length 0):LR h ht:=by
 refine⟨a.val,λx hx c hc=>?_⟩;obtain⟨m,hm⟩:=gp.mp hx;have:=a.old m x (ar.mp hm).1 hm c hc;cases e:aP ht (aE (hP x) c)with
 |none=>rw[e]at this;cases this
 |some z=>rw[a.val _ z e]
def yF(p:Pl):List T3:=[(p.1,p.2,0),(p.1,p.2,1),(p.1,p.2,2),(p.1,p.2,3)]
theorem CA{hs:List Pl}{i:Nat}{p:Pl}(h:hs[i]? =some p):g9 (hs.take (i+1))=g9 (hs.take i)++yF p:=by unfold g9;rw[take_snoc h,iw];simp[yF]
theorem G5(p:Pl){j:Nat}(hj:j<4):(yF p).take (j+1)=(yF p).take j++[(p.1,p.2,(j:Int))]:=by
 have cs:j=0\/j=1\/j=2\/j=3:=Hb
 rcases cs with rfl|rfl|rfl|rfl<;>rfl
theorem G2{hs:List Pl}{t:T3}(h:t∈g9 hs):(t.1,t.2.1)∈hs:=by unfold g9 at h;obtain⟨p,hp,h⟩:=cv.mp h;simp at h;rcases h with rfl|rfl|rfl|rfl<;>exact hp
theorem G4{hs:List Pl}(hn:hs.Nodup){i j:Nat}{p:Pl}(h:hs[i]? =some p)(hj:j<4):(p.1,p.2,(j:Int))∉g9 (hs.take i)++(yF p).take j:=by
 intro z;rcases ax.mp z with z|z
 ·have:=G2 z;simp only at this;obtain⟨m,hm⟩:=gp.mp this;have ka:m<i:=by have:=(ar.mp hm).1;rw[bx]at this;lia
  rw[fw ka]at hm;have h1:=(ar.mp hm).1;have hpw:=List.pairwise_iff_getElem.mp hn m i h1 (ar.mp h).1 ka;have e1:=(ar.mp hm).2;have e2:=(ar.mp h).2;exact hpw (e1.trans e2.symm)
 ·have cs:j=0\/j=1\/j=2\/j=3:=Hb
  rcases cs with rfl|rfl|rfl|rfl<;>simp[yF]at z
theorem G3(hs:List Pl)(i:Nat):(g9 (hs.take i)).length<=4*hs.length:=by rw[gT,bx];lia
section
variable {α:Type}{ok:α->Prop}{nb:α->List α}{U:α->Prop}{t0:α}
theorem hV.iff{N N' W:List α}(h:hV ok nb U t0 N W)(e:∀x,x∈N'↔x∈N):hV ok nb U t0 N' W:=
 ⟨λx hx=>h.new x ((e x).mp hx),h.wait,h.start.imp (e t0).mpr id,λx hx u hu ou uu=>(h.lD x ((e x).mp hx) u hu ou uu).imp (e u).mpr id⟩
theorem hV.pop{N W:List α}{x:α}(h:hV ok nb U t0 N (W++[x]))(o0:ok t0)(u0:¬U t0)(hx:¬ok x\/U x\/x∈N):hV ok nb U t0 N W:=
 h.skip o0 u0 (x:=x) (λy hy=>cg _ hy) (λy hy=>by
  rcases ax.mp hy with q|q
  ·exact .inl q
  ·exact .inr (by simpa using q)) hx
theorem hV.push{N W:List α}{x:α}(h:hV ok nb U t0 N (W++[x]))(ox:ok x)(ux:¬U x):hV ok nb U t0 (N++[x]) (W++nb x):=by
 refine(h.take (x:=x) (W':=W++nb x) (by simp) ox ux (λy hy=>?_) (λy hy=>?_) λu hu _ _=>bg _ hu).iff λy=>by simp[or_comm]
 ·rcases ax.mp hy with q|q
  ·exact .inl (cg _ q)
  ·exact .inr q
 ·rcases ax.mp hy with q|q
  ·exact .inl (cg _ q)
  ·exact .inr (by simpa using q)
end
theorem HL{h:List Nat}{t:T3}{z:Int}(e:aP (cV h) t=some z):0<=t.2.2/\t.2.2<4:=by
 have hm:t∈(Fd h).map tP:=by apply Classical.byContradiction;intro q;rw[BL h t q]at e;cases e
 obtain⟨u,_,rfl⟩:=au.mp hm;unfold tP;dsimp only;lia
theorem mW(h:List Nat):(cV h).map (·.1)=(Fd h).map tP:=by unfold cV;rw[iG,j7]
theorem zV(h:List Nat):(Fd h).length=4*h.length:=by have:=gT (h.map hP);rw[j7,ai,ai]at this;exact this
theorem EV:∀(Ns:List (List T3))(j:Nat)(x:T3×Int),x∈aD j Ns->(j:Int)<=x.2
 |[],j,x,h=>by cases h
 |N::r,j,x,h=>by
  rcases ax.mp (show x∈N.map (λp=>(p,(j:Int)))++aD (j+1) r from h)with h|h
  ·obtain⟨p,_,rfl⟩:=au.mp h;exact le_refl _
  ·have:=EV r (j+1) x h;lia
theorem AL:∀(A B:List (List T3))(j:Nat),(∀N∈A,N≠[])->(∀N∈B,N≠[])->aD j A=aD j B->A=B
 |[],[],_,_,_,_=>rfl
 |[],N::r,j,_,hB,e=>by
  have e:([]:List (T3×Int))=N.map (λp=>(p,(j:Int)))++aD (j+1) r:=e;have:=hB N (by simp);cases N with
  |nil=>exact absurd rfl this
  |cons _ _=>simp at e
 |N::r,[],j,hA,_,e=>by
  have e:N.map (λp=>(p,(j:Int)))++aD (j+1) r=[]:=e;have:=hA N (by simp);cases N with
  |nil=>exact absurd rfl this
  |cons _ _=>simp at e
 |N::r,M::s,j,hA,hB,e=>by
  have e:N.map (λp=>(p,(j:Int)))++aD (j+1) r=M.map (λp=>(p,(j:Int)))++aD (j+1) s:=e;have none_of:∀q:List (List T3),(aD (j+1) q).filter (λx=>decide (x.2=(j:Int)))=[]:=by intro q;rw[List.filter_eq_nil_iff];intro x hx;have:=EV q (j+1) x hx;simp;lia
  have all_of:∀q:List T3,(q.map (λp=>(p,(j:Int)))).filter (λx=>decide (x.2=(j:Int)))=q.map (λp=>(p,(j:Int))):=by intro q;rw[List.filter_eq_self];intro x hx;obtain⟨p,_,rfl⟩:=au.mp hx;simp
  have e2:=congrArg (List.filter (λx=>decide (x.2=(j:Int)))) e;rw[gg,gg,none_of,none_of,all_of,all_of,di,di]at e2;have eN:N=M:=by
   have:=congrArg (List.map Prod.fst) e2;rw[dt,dt]at this;have id1:∀q:List T3,q.map (Prod.fst∘λp=>(p,(j:Int)))=q:=λq=>map_id q
   rw[id1,id1]at this;exact this
  subst eN;have e3:=List.append_cancel_left e;rw[AL r s (j+1) (λx hx=>hA x (by simp[hx])) (λx hx=>hB x (by simp[hx])) e3]
theorem x8:∀(Ns:List (List T3))(k i:Nat)(t:T3)(m:Int),(∀N∈Ns,N≠[])->(aD k Ns)[i]? =some (t,m)->(i=0/\m=(k:Int))\/(0<i/\∃t' m',(aD k Ns)[i - 1]? =some (t',m')/\(m=m'\/m=m'+1))
 |[],k,i,t,m,_,h=>by simp[aD]at h
 |N::r,k,i,t,m,jw,h=>by
  have h:(N.map (λp=>(p,(k:Int)))++aD (k+1) r)[i]? =some (t,m):=h;show(i=0/\m=(k:Int))\/(0<i/\∃t' m',(N.map (λp=>(p,(k:Int)))++aD (k+1) r)[i - 1]? =some (t',m')/\(m=m'\/m=m'+1))
  have hN:0<N.length:=fy.mpr (jw N (by simp));have lN:(N.map (λp=>(p,(k:Int)))).length=N.length:=by simp
  have vm:∀j,j<N.length->∃t',(N.map (λp=>(p,(k:Int)))++aD (k+1) r)[j]? =some (t',(k:Int)):=by intro j hj;refine⟨N[j],?_⟩;rw[ij Hb,bc,cc hj];rfl
  by_cases c:i<N.length
  ·obtain⟨t',px⟩:=vm i c;rw[px]at h;cases h;by_cases i0:i=0
   ·exact .inl ⟨i0,rfl⟩
   ·obtain⟨t2,ht2⟩:=vm (i - 1) Hb;exact .inr ⟨Hb,t2,_,ht2,.inl rfl⟩
  ·rw[dv Hb,lN]at h;rcases x8 r (k+1) (i - N.length) t m (λx hx=>jw x (by simp[hx])) h with⟨e1,e2⟩|⟨e1,t',m',e2,e3⟩
   ·obtain⟨t2,ht2⟩:=vm (i - 1) Hb;exact .inr ⟨Hb,t2,_,ht2,.inr Hb⟩
   ·refine .inr ⟨Hb,t',m',?_,e3⟩;rw[dv Hb,lN,show i - 1 - N.length=i - N.length - 1 by lia];exact e2
structure rE(Ns:List (List T3))(i:Nat)(Fs:List (List T3)):Prop where
 eq:aD 0 Fs=(aD 0 Ns).take i
 ne:∀F∈Fs,F≠[]
theorem rE.start(Ns:List (List T3)):rE Ns 0 []:=⟨rfl,by simp⟩
theorem rE.done{Ns Fs:List (List T3)}(jw:∀N∈Ns,N≠[])(h:rE Ns (aD 0 Ns).length Fs):Fs=Ns:=by have e:=h.eq;rw[bf (aw _)]at e;exact AL Fs Ns 0 h.ne jw e
theorem rE.step{Ns Fs:List (List T3)}(jw:∀N∈Ns,N≠[]){i:Nat}{t:T3}{m:Int}(h:rE Ns i Fs)(hi:(aD 0 Ns)[i]? =some (t,m)):
  (m=(Fs.length:Int)/\rE Ns (i+1) (Fs++[[]++[t]]))\/∃F L,Fs=F++[L]/\m=(F.length:Int)/\rE Ns (i+1) (F++[L++[t]]):=by
 have sj:=(ar.mp hi).1;have new:m=(Fs.length:Int)->rE Ns (i+1) (Fs++[[]++[t]]):=by
  intro em;refine⟨?_,λF hF=>?_⟩
  ·rw[jB,h.eq,take_snoc hi,em];rfl
  ·rcases ax.mp hF with hF|hF
   ·exact h.ne F hF
   ·have:F=[t]:=by simpa using hF
    rw[this];simp
 rcases x8 Ns 0 i t m jw hi with⟨i0,m0⟩|⟨ip,t',m',tw,hm⟩
 ·subst i0;have hF:Fs=[]:=by
   cases Fs with
   |nil=>rfl
   |cons F r=>
    have e:=h.eq;have:=h.ne F (by simp);cases F with
    |nil=>exact absurd rfl this
    |cons _ _=>simp[aD]at e
  subst hF;exact .inl ⟨by rw[m0];rfl,new (by rw[m0];rfl)⟩
 ·have Dt:Fs≠[]:=by intro z;have e:=h.eq;rw[z]at e;have:=congrArg List.length e;rw[bx]at this;simp[aD]at this;lia
  obtain⟨F,L,eF⟩:∃F L,Fs=F++[L]:=⟨Fs.dropLast,Fs.getLast Dt,(jc Dt).symm⟩
  subst eF;have hL:L≠[]:=h.ne L (by simp);have e:=h.eq;rw[jB]at e;have el:(aD 0 F++L.map λp=>(p,(F.length:Int))).length=i:=by rw[e,bx];lia
  have hLp:0<L.length:=fy.mpr hL;have zd:(aD 0 F++L.map λp=>(p,(F.length:Int)))[i - 1]? =some (L[L.length - 1],(F.length:Int)):=by rw[aj,ai]at el;rw[dv Hb,bc,show i - 1 - (aD 0 F).length=L.length - 1 by lia,cc Hb];rfl
  rw[e,fw Hb,tw]at zd;cases zd;rcases hm with hm|hm
  ·refine .inr ⟨F,L,rfl,hm,?_,λG hG=>?_⟩
   ·rw[jB,cf,<- fk,e,take_snoc hi,hm];rfl
   ·rcases ax.mp hG with hG|hG
    ·exact h.ne G (by simp[hG])
    ·have:G=L++[t]:=by simpa using hG
     rw[this];simp
  ·have em:m=((F++[L]).length:Int):=by rw[hm,aj];simp
   exact .inl ⟨em,new em⟩
theorem OK{l:Fn}(hb:Hh l)(t:Nat):(Ff l).in_ t=true↔t/4∈Fc l:=by have e:(Ff l).in_ t=decide (0<(gridOf (Fc l)).val (t/4)):=rfl;rw[e,decide_eq_true_iff,z9 (aL hb)]
section
variable {i j s:Int}{t u:List Int}
theorem CZ{t:List Int}{f:Top->RoofB.Answer}(h:houseOf (Fj t)=none):RoofB.ofTop (Fj t) f=[-1]:=by unfold RoofB.ofTop;rw[h];rfl
theorem CY{t:List Int}{f:Top->RoofB.Answer}{l:Fn}(h:houseOf (Fj t)=some l):RoofB.ofTop (Fj t) f=f (Ff l):=by unfold RoofB.ofTop;rw[h]
end
theorem L1{h:List Nat}{t:T3}(h0:0<=t.2.2)(h4:t.2.2<4):(aP (cV h) t).isSome=true↔(t.1,t.2.1)∈h.map hP:=by
 rw[aV];unfold cV;rw[iG];unfold g9;rw[cv];constructor
 ·rintro⟨p,hp,ht⟩;simp only[aq,ej,or_false]at ht;rcases ht with rfl|rfl|rfl|rfl<;>exact hp
 ·intro hp;refine⟨_,hp,?_⟩;have cs:t.2.2=0\/t.2.2=1\/t.2.2=2\/t.2.2=3:=Hb
  obtain⟨a,b,c⟩:=t;simp only at cs;rcases cs with rfl|rfl|rfl|rfl<;>simp
theorem AU{α:Type}:∀{Ns:List (List α)},(∀N∈Ns,N≠[])->Ns.length<=Ns.flatten.length
 |[],_=>aw _
 |N::r,h=>by
  have:=AU (Ns:=r) λM hM=>h M (ao _ hM)
  have:=fy.mpr (h N ay);rw[jg,aj,bo];lia
theorem K4{α:Type}:∀{Ns:List (List α)}{N:List α},N∈Ns->N.length<=Ns.flatten.length
 |M::r,N,h=>by
  rw[jg,aj];rcases aq.mp h with rfl|h
  ·lia
  ·have:=K4 h;lia
theorem Numbering.small{l:Fn}{Ns:List (List T3)}(R:Numbering (Fc l) (Fd (Fc l)).length Ns)(jt:l.length<=256):Ns.flatten.length<=4096/\Ns.length<=4096/\∀N∈Ns,N.length<=4096:=by
 obtain⟨lab,firsts,O,_,_⟩:=R.ex;have h2:=c7 O.nd O.sub;have tl:=gT ((Fc l).map hP);rw[j7,ai,ai,g7]at tl;rw[ai]at h2;have f:Ns.flatten.length<=4096:=Hb
 exact⟨f,de (AU O.ne) f,λN hN=>de (K4 hN) f⟩
theorem CB{h:List Nat}{t:T3}(h0:0<=t.2.2)(h4:t.2.2<4):t∈g9 (h.map hP)↔(t.1,t.2.1)∈h.map hP:=by rw[<- L1 h0 h4,aV];unfold cV;rw[iG]
theorem xP{h:List Nat}{t:T3}(h0:0<=t.2.2)(h4:t.2.2<4)(m:(t.1,t.2.1)∈h.map hP):aP (cV h) t=some (fN h t):=by unfold cV;rw[mB,ah ((CB h0 h4).mpr m)]
def asI(l:List Nat):List Int:=l.map λ(n:Nat)=>(n:Int)
theorem LX{l:Fn}(hl:Hh l){a b:Nat}(ha:a∈(Ff l).tris)(hb:b∈(Ff l).tris)(e:tP a=tP b):a=b:=by have h1:=kC (aL hl _ (bE.mp ha)) (aL hl _ (bE.mp hb)) (show hP (a/4)=hP (b/4)from Prod.ext (show(tP a).1=(tP b).1 by rw[e]) (show(tP a).2.1=(tP b).2.1 by rw[e]));have h2:((a%4:Nat):Int)=((b%4:Nat):Int):=congrArg (λz=>z.2.2) e;lia
theorem rJ:∀{h:List Nat},h.Nodup->(Fd h).Nodup
 |[],_=>nodup_nil
 |r::h,nd=>by
  rw[dh]at nd;have e:Fd (r::h)=[4*r,4*r+1,4*r+2,4*r+3]++Fd h:=rfl;rw[e,da];refine⟨by simp,rJ nd.2,λa ha b hb e=>?_⟩;subst e;have h1:=bE.mp hb;have h2:a/4=r:=by simp only[aq,ej,or_false]at ha;lia
  exact nd.1 (h2▸h1)
theorem ES{α:Type}[DecidableEq α]:∀{A B:List α},A.Nodup->B.Nodup->(∀x,x∈A↔x∈B)->A.Perm B
 |[],B,_,_,h=>by
  cases B with
  |nil=>exact .nil
  |cons b B=>exact absurd ((h b).mpr ay) (by simp)
 |a::A,B,ha,hb,h=>by
  rw[dh]at ha;have hm:a∈B:=(h a).mp ay;refine List.Perm.trans ?_ (List.perm_cons_erase hm).symm;refine List.Perm.cons a (ES ha.2 (hb.erase a) λx=>?_);rw[hb.mem_erase_iff];constructor
  ·intro hx;exact⟨λe=>ha.1 (e▸hx),(h x).mp (ao _ hx)⟩
  ·rintro⟨n,hx⟩;rcases aq.mp ((h x).mpr hx)with e|e
   ·exact absurd e n
   ·exact e
section
variable {l m:Fn}
theorem EH(hl:Hh l)(t:Nat):t∈(Ff l).tris↔(Ff l).in_ t=true:=by rw[OK hl];exact bE
end
theorem ER{k d:Int}(h0:0<=k)(a:-(k+1)<=d)(b:d<=k+1):∃s:Int,(-1<=s/\s<=1)/\-k<=d - s/\d - s<=k:=by
 by_cases c1:d=k+1
 ·exact⟨1,Hd,Hb,Hb⟩
 ·by_cases c2:d=-(k+1)
  ·exact⟨-1,Hd,Hb,Hb⟩
  ·exact⟨0,Hd,Hb,Hb⟩
section
variable {hs:List Pl}
theorem GV:∀{k:Nat}{p:Pl},p∈aR hs (k+1)->p∈aR hs k:=λh=>(bu.mp h).1
theorem AX{p:Pl}:∀{k m:Nat},k<=m->p∈aR hs m->p∈aR hs k:=by
 intro k m hkm h;induction m with
 |zero=>rw[show k=0 by lia];exact h
 |succ m ih=>
  by_cases c:k=m+1
  ·rw[c];exact h
  ·exact ih Hb (GV h)
theorem xC:∀(k:Nat)(p:Pl),p∈aR hs k↔∀dx dy:Int,-(k:Int)<=dx->dx<=k->-(k:Int)<=dy->dy<=k->(p.1+dx,p.2+dy)∈hs
 |0,p=>by
  constructor
  ·intro h dx dy a b c d;have e1:dx=0:=Hb
   have e2:dy=0:=Hb
   subst e1 e2;have:(p.1+0,p.2+0)=p:=by simp
   rw[this];exact h
  ·intro h;have:=h 0 0 Hb Hb Hb Hb;have e:(p.1+0,p.2+0)=p:=by simp
   rw[e]at this;exact this
 |k+1,p=>by
  have ih:=xC k;show p∈(aR hs k).filter _↔ _
  rw[bu];simp only[ia,jb];constructor
  ·rintro⟨h0,h8⟩ dx dy a b c d;have tj:∀sx sy:Int,(-1<=sx/\sx<=1)->(-1<=sy/\sy<=1)->(p.1+sx,p.2+sy)∈aR hs k:=by
    intro sx sy hx hy;have cx:sx=-1\/sx=0\/sx=1:=Hb
    have cy:sy=-1\/sy=0\/sy=1:=Hb
    rcases cx with rfl|rfl|rfl<;>rcases cy with rfl|rfl|rfl
    ·exact h8 _ (by simp[cM])
    ·exact h8 _ (by simp[cM])
    ·exact h8 _ (by simp[cM])
    ·exact h8 _ (by simp[cM])
    ·have:(p.1+0,p.2+0)=p:=by simp
     rw[this];exact h0
    ·exact h8 _ (by simp[cM])
    ·exact h8 _ (by simp[cM])
    ·exact h8 _ (by simp[cM])
    ·exact h8 _ (by simp[cM])
   obtain⟨sx,hx,x1,x2⟩:=ER (Int.natCast_nonneg k) a b;obtain⟨sy,hy,y1,y2⟩:=ER (Int.natCast_nonneg k) c d;have:=(ih _).mp (tj sx sy hx hy) (dx - sx) (dy - sy) x1 x2 y1 y2;have e:(p.1+sx+(dx - sx),p.2+sy+(dy - sy))=(p.1+dx,p.2+dy):=by
    apply Prod.ext
    ·show p.1+sx+(dx - sx)=p.1+dx;lia
    ·show p.2+sy+(dy - sy)=p.2+dy;lia
   rw[e]at this;exact this
  ·intro h;have sub:∀sx sy:Int,(-1<=sx/\sx<=1)->(-1<=sy/\sy<=1)->(p.1+sx,p.2+sy)∈aR hs k:=by
    intro sx sy hx hy;refine(ih _).mpr λdx dy a b c d=>?_
    have:=h (sx+dx) (sy+dy) Hb Hb Hb Hb;have e:(p.1+sx+dx,p.2+sy+dy)=(p.1+(sx+dx),p.2+(sy+dy)):=by rw[Int.add_assoc,Int.add_assoc]
    show(p.1+sx+dx,p.2+sy+dy)∈hs
    rw[e];exact this
   refine⟨?_,λq hq=>?_⟩
   ·have:=sub 0 0 Hb Hb;have e:(p.1+0,p.2+0)=p:=by simp
    rw[e]at this;exact this
   ·simp only[cM,aq,ej,or_false]at hq;rcases hq with rfl|rfl|rfl|rfl|rfl|rfl|rfl|rfl<;>exact sub _ _ Hb Hb
theorem FI:∀(n k:Nat)(p:Pl),k<n->((k:Int)<=hJ hs n p↔p∈aR hs k)
 |0,k,p,h=>by lia
 |n+1,k,p,h=>by
  show(k:Int)<=(if p∈aR hs n then(n:Int)else hJ hs n p)↔ _
  by_cases c:p∈aR hs n
  ·rw[ah c];exact⟨λ_=>AX Hb c,λ_=>by lia⟩
  ·rw[af c];by_cases e:k=n
   ·subst e;refine⟨λq=>?_,λq=>absurd q c⟩;exfalso;have:∀m:Nat,hJ hs m p<m:=by
     intro m;induction m with
     |zero=>show(-1:Int)<0;decide
     |succ m ih=>
      show(if p∈aR hs m then(m:Int)else hJ hs m p)< _
      split<;>lia
    have:=this k;lia
   ·exact FI n k p Hb
theorem zG(p:Pl):∀m:Nat,-1<=hJ hs m p/\hJ hs m p<m
 |0=>⟨by show(-1:Int)<=-1;decide,by show(-1:Int)<0;decide⟩
 |m+1=>by
  have ih:=zG p m;show -1<=(if p∈aR hs m then(m:Int)else hJ hs m p)/\(if p∈aR hs m then(m:Int)else hJ hs m p)< _
  split<;>lia
end
section
variable {h:List Nat} (hh:∀r∈h,okR r)
include hh
theorem E3(k:Nat)(p:Pl):(k:Int)<=bS h p↔∀dx dy:Int,-(k:Int)<=dx->dx<=k->-(k:Int)<=dy->dy<=k->(p.1+dx,p.2+dy)∈h.map hP:=by
 rw[<- xC];unfold bS;by_cases c:p∈h.map hP
 ·rw[ah c];by_cases ck:k<64
  ·exact FI 64 k p ck
  ·constructor
   ·intro q;have:=(zG (hs:=h.map hP) p 64).2;lia
   ·intro q;rw[d3 hh,eS hh Hb]at q;cases q
 ·rw[af c];constructor
  ·intro q;lia
  ·intro q;exact absurd (AX (k:=0) (cn _) q) c
theorem BP(p:Pl):-1<=bS h p/\bS h p<64:=by
 unfold bS;split
 ·exact zG p 64
 ·lia
theorem LF(p:Pl):0<=bS h p↔p∈h.map hP:=by
 have:=E3 hh 0 p;rw[show((0:Nat):Int)=0 from rfl]at this;rw[this];constructor
 ·intro q;have:=q 0 0 Hb Hb Hb Hb;have e:(p.1+0,p.2+0)=p:=by simp
  rwa [e]at this
 ·intro q dx dy a b c d;have e1:dx=0:=Hb
  have e2:dy=0:=Hb
  subst e1 e2;have e:(p.1+0,p.2+0)=p:=by simp
  rw[e];exact q
theorem mX{p:Pl}{k:Int}(h1:bS h p<k)(h0:0<=k):∃q:Pl,q∉h.map hP/\-k<=q.1 - p.1/\q.1 - p.1<=k/\-k<=q.2 - p.2/\q.2 - p.2<=k:=by
 obtain⟨n,rfl⟩:∃n:Nat,k=n:=⟨k.toNat,Hb⟩
 have:=(not_congr (E3 hh n p)).mp Hb;apply Classical.byContradiction;intro c;apply this;intro dx dy a b e f;apply Classical.byContradiction;intro g;exact c ⟨_,g,by simp;lia,by simp;lia,by simp;lia,by simp;lia⟩
theorem fW{p q:Pl}{k:Int}(hq:q∉h.map hP)(a:-k<=q.1 - p.1)(b:q.1 - p.1<=k)(c:-k<=q.2 - p.2)(d:q.2 - p.2<=k):bS h p<k:=by
 apply Classical.byContradiction;intro g;obtain⟨n,rfl⟩:∃n:Nat,k=n:=⟨k.toNat,Hb⟩
 have:=(E3 hh n p).mp Hb (q.1 - p.1) (q.2 - p.2) a b c d;have e:(p.1+(q.1 - p.1),p.2+(q.2 - p.2))=q:=by
  apply Prod.ext
  ·show p.1+(q.1 - p.1)=q.1;lia
  ·show p.2+(q.2 - p.2)=q.2;lia
 rw[e]at this;exact hq this
end
theorem xI{l:Fn}(hb:Hh l)(q:Pl):q∈(Fc l).map hP↔(q.1/2,q.2/2)∈iW l:=by
 have e:q∈(Fc l).map hP↔q∈fD (iW l):=by
  rw[wM hb,au,au];constructor
  ·rintro⟨r,hr,z⟩;exact⟨r,nW.mp hr,z⟩
  ·rintro⟨r,hr,z⟩;exact⟨r,nW.mpr hr,z⟩
 rw[e];unfold fD;rw[cv];constructor
 ·rintro⟨c,hc,hq⟩;have:(q.1/2,q.2/2)=c:=by simp only[aq,ej,or_false]at hq;rcases hq with rfl|rfl|rfl|rfl<;>(apply Prod.ext<;>(dsimp only;lia))
  rw[this];exact hc
 ·intro hc;refine⟨_,hc,?_⟩;simp only[aq,ej,or_false,Prod.ext_iff];lia
section
variable {l:Fn} (hb:Hh l)
include hb
theorem K1{q:Pl}(h:q∉ (Fc l).map hP)(x:Int)(e:x/2=q.1/2):(x,q.2)∉ (Fc l).map hP:=by rw[xI hb]at h ⊢;dsimp only;rw[e];exact h
theorem K0{q:Pl}(h:q∉ (Fc l).map hP)(y:Int)(e:y/2=q.2/2):(q.1,y)∉ (Fc l).map hP:=by rw[xI hb]at h ⊢;dsimp only;rw[e];exact h
abbrev nb(l:Fn)(p:Pl)(dx dy:Int):Int:=bS (Fc l) (p.1+dx,p.2+dy)
variable {p:Pl}
theorem P7{d:Int}{dx dy:Int}(h:nb l p dx dy<d)(h0:0<=d):∃q:Pl,q∉ (Fc l).map hP/\-d<=q.1 - p.1 - dx/\q.1 - p.1 - dx<=d/\-d<=q.2 - p.2 - dy/\q.2 - p.2 - dy<=d:=by obtain⟨q,h1,h2,h3,h4,h5⟩:=mX (aL hb) (p:=(p.1+dx,p.2+dy)) h h0;dsimp only at h2 h3 h4 h5;exact⟨q,h1,Hb,Hb,Hb,Hb⟩
theorem VN(dx dy:Int)(hx:-1<=dx/\dx<=1)(hy:-1<=dy/\dy<=1):bS (Fc l) p - 1<=nb l p dx dy:=by apply Classical.byContradiction;intro c;have lo:=(BP (aL hb) (p.1+dx,p.2+dy)).1;obtain⟨q,h1,h2,h3,h4,h5⟩:=P7 hb (p:=p) (d:=bS (Fc l) p - 1) (dx:=dx) (dy:=dy) Hb (by have:nb l p dx dy=bS (Fc l) (p.1+dx,p.2+dy):=rfl;lia);have:=fW (aL hb) (p:=p) (k:=bS (Fc l) p) h1 Hb Hb Hb Hb;lia
theorem Q5{u:Pl}{d:Int}(h0:0<=d)(me:d<=bS (Fc l) u)(out:bS (Fc l) (u.1+-1,u.2)<d):(u.1 - d - 1)%2=1:=by
 obtain⟨q,h1,h2,h3,h4,h5⟩:=mX (aL hb) out h0;dsimp only at h2 h3 h4 h5;have no:∀x,-d<=x - u.1->(x,q.2)∉ (Fc l).map hP->x - u.1<=d->False:=λx a m b=>fi.mpr me (fW (aL hb) (p:=u) (k:=d) m a b h4 h5)
 apply Classical.byContradiction;intro c;have ex:q.1 - u.1< -d:=iy.mp λa=>no q.1 a h1 Hb
 exact no (q.1+1) Hb (K1 hb h1 _ Hb) Hb
theorem Q8{u:Pl}{d:Int}(h0:0<=d)(me:d<=bS (Fc l) u)(out:bS (Fc l) (u.1+1,u.2)<d):(u.1+d+1)%2=0:=by
 obtain⟨q,h1,h2,h3,h4,h5⟩:=mX (aL hb) out h0;dsimp only at h2 h3 h4 h5;have no:∀x,-d<=x - u.1->(x,q.2)∉ (Fc l).map hP->x - u.1<=d->False:=λx a m b=>fi.mpr me (fW (aL hb) (p:=u) (k:=d) m a b h4 h5)
 apply Classical.byContradiction;intro c;have ex:d<q.1 - u.1:=iy.mp λa=>no q.1 Hb h1 a
 exact no (q.1 - 1) Hb (K1 hb h1 _ Hb) Hb
theorem Q6{u:Pl}{d:Int}(h0:0<=d)(me:d<=bS (Fc l) u)(out:bS (Fc l) (u.1,u.2+-1)<d):(u.2 - d - 1)%2=1:=by
 obtain⟨q,h1,h2,h3,h4,h5⟩:=mX (aL hb) out h0;dsimp only at h2 h3 h4 h5;have no:∀x,-d<=x - u.2->(q.1,x)∉ (Fc l).map hP->x - u.2<=d->False:=λx a m b=>fi.mpr me (fW (aL hb) (p:=u) (k:=d) m h2 h3 a b)
 apply Classical.byContradiction;intro c;have ex:q.2 - u.2< -d:=iy.mp λa=>no q.2 a h1 Hb
 exact no (q.2+1) Hb (K0 hb h1 _ Hb) Hb
theorem Q7{u:Pl}{d:Int}(h0:0<=d)(me:d<=bS (Fc l) u)(out:bS (Fc l) (u.1,u.2+1)<d):(u.2+d+1)%2=0:=by
 obtain⟨q,h1,h2,h3,h4,h5⟩:=mX (aL hb) out h0;dsimp only at h2 h3 h4 h5;have no:∀x,-d<=x - u.2->(q.1,x)∉ (Fc l).map hP->x - u.2<=d->False:=λx a m b=>fi.mpr me (fW (aL hb) (p:=u) (k:=d) m h2 h3 a b)
 apply Classical.byContradiction;intro c;have ex:d<q.2 - u.2:=iy.mp λa=>no q.2 Hb h1 a
 exact no (q.2 - 1) Hb (K0 hb h1 _ Hb) Hb
omit hb in
theorem O3(x:Int):x+0=x:=Int.add_zero x
omit hb in
theorem qF{x d:Int}(a:(x - d - 1)%2=1)(b:(x+d+1)%2=0):False:=Hb
theorem CG{t d:Int}(h0:0<=d)(me:d<=nb l p 0 t)(out:nb l p (-1) t<d):(p.1 - d - 1)%2=1:=Q5 hb (u:=(p.1,p.2+t)) h0 (by unfold nb at me;rw[O3]at me;exact me) out
theorem CH{t d:Int}(h0:0<=d)(me:d<=nb l p 0 t)(out:nb l p 1 t<d):(p.1+d+1)%2=0:=Q8 hb (u:=(p.1,p.2+t)) h0 (by unfold nb at me;rw[O3]at me;exact me) out
theorem J1{t d:Int}(h0:0<=d)(me:d<=nb l p t 0)(out:nb l p t (-1)<d):(p.2 - d - 1)%2=1:=Q6 hb (u:=(p.1+t,p.2)) h0 (by unfold nb at me;rw[O3 p.2]at me;exact me) out
theorem J2{t d:Int}(h0:0<=d)(me:d<=nb l p t 0)(out:nb l p t 1<d):(p.2+d+1)%2=0:=Q7 hb (u:=(p.1+t,p.2)) h0 (by unfold nb at me;rw[O3 p.2]at me;exact me) out
theorem yL{sy:Int}(hs:-1<=sy/\sy<=1){d:Int}(h0:0<=d)(hp:d<=nb l p 0 0)(Ad:d<=nb l p 0 sy)(hw:nb l p (-1) 0<d\/nb l p (-1) sy<d)(he:nb l p 1 0<d\/nb l p 1 sy<d):False:=
 qF (hw.elim (CG hb h0 hp) (CG hb h0 Ad)) (he.elim (CH hb h0 hp) (CH hb h0 Ad))
theorem EJ{sx:Int}(hs:-1<=sx/\sx<=1){d:Int}(h0:0<=d)(hp:d<=nb l p 0 0)(Ad:d<=nb l p sx 0)(hw:nb l p 0 (-1)<d\/nb l p sx (-1)<d)(he:nb l p 0 1<d\/nb l p sx 1<d):False:=
 qF (hw.elim (J1 hb h0 hp) (J1 hb h0 Ad)) (he.elim (J2 hb h0 hp) (J2 hb h0 Ad))
theorem OF{sy:Int}(hs:sy=1\/sy=-1){d:Int}(h0:0<=d)(hW:d<=nb l p (-1) 0)(hE:d<=nb l p 1 0)(hU:d<=nb l p 0 sy)(hD:d<=nb l p 0 (-sy))(h1:nb l p (-1) (-sy)<d)(h2:nb l p 1 sy<d):False:=
 qF (CG hb h0 hD h1) (CH hb h0 hU h2)
theorem G8(hp:p∈(Fc l).map hP):∃dx dy:Int,(-1<=dx/\dx<=1)/\(-1<=dy/\dy<=1)/\nb l p dx dy<bS (Fc l) p:=by have d0:=(LF (aL hb) p).mpr hp;obtain⟨q,h1,h2,h3,h4,h5⟩:=mX (aL hb) (p:=p) (k:=bS (Fc l) p+1) Hb Hb;obtain⟨dx,hx,x1,x2⟩:=ER d0 h2 h3;obtain⟨dy,hy,y1,y2⟩:=ER d0 h4 h5;refine⟨dx,dy,hx,hy,?_⟩;exact fW (aL hb) (p:=(p.1+dx,p.2+dy)) h1 (by dsimp only;lia) (by dsimp only;lia) (by dsimp only;lia) (by dsimp only;lia)
end
section
variable {l:Fn} (hb:Hh l)
include hb
omit hb in
theorem D7(x y:Int):min x y=x\/min x y=y:=(Int.le_total x y).imp Int.min_eq_left Int.min_eq_right
theorem pE{r c:Nat}(hr:r∈Fc l):∀{a b d e:Int},cN (Fc l) (aE (hP r) c)=[a,b,d,e]->hgt (Fc l) (aE (hP r) c)=min (min a b) (min d e):=by
 intro a b d e h;refine(F8 (aL hb) hr ?_ ?_).symm
 ·rw[h];simp only[aq,ej,or_false];rcases D7 (min a b) (min d e)with q|q
  ·rw[q];exact(D7 a b).elim .inl λq=>.inr (.inl q)
  ·rw[q];exact(D7 d e).elim (λq=>.inr (.inr (.inl q))) λq=>.inr (.inr (.inr q))
 ·rw[h];intro x hx;simp only[aq,ej,or_false]at hx;rcases hx with rfl|rfl|rfl|rfl
  ·exact ja (gz _ _) (gz _ _)
  ·exact ja (gz _ _) (gk _ _)
  ·exact ja (gk _ _) (gz _ _)
  ·exact ja (gk _ _) (gk _ _)
theorem E5{r:Nat}(hr:r∈Fc l):∃d,bS (Fc l) (hP r)=d/\0<=d/\d<64/\nb l (hP r) 0 0=d/\(∀dx dy:Int,(-1<=dx/\dx<=1)->(-1<=dy/\dy<=1)->d - 1<=nb l (hP r) dx dy)/\
  hgt (Fc l) (aE (hP r) 0)=min (min (nb l (hP r) (-1) (-1)+1) (nb l (hP r) 0 (-1)+1)) (min (nb l (hP r) (-1) 0+1) (d+1))/\
  hgt (Fc l) (aE (hP r) 1)=min (min (nb l (hP r) 0 (-1)+1) (nb l (hP r) 1 (-1)+1)) (min (d+1) (nb l (hP r) 1 0+1))/\
  hgt (Fc l) (aE (hP r) 2)=min (min (d+1) (nb l (hP r) 1 0+1)) (min (nb l (hP r) 0 1+1) (nb l (hP r) 1 1+1))/\
  hgt (Fc l) (aE (hP r) 3)=min (min (nb l (hP r) (-1) 0+1) (d+1)) (min (nb l (hP r) (-1) 1+1) (nb l (hP r) 0 1+1)):=by
 have e0:nb l (hP r) 0 0=bS (Fc l) (hP r):=by
  show bS _ ((hP r).1+0,(hP r).2+0)=_
  simp
 have m:=(BP (aL hb) (hP r)).2;have i0:=(LF (aL hb) (hP r)).mpr (au.mpr ⟨r,hr,rfl⟩);refine⟨_,rfl,i0,m,e0,λdx dy hx hy=>VN hb dx dy hx hy,?_,?_,?_,?_⟩
 ·refine pE hb hr ?_;unfold cN nb;have c0:aE (hP r) 0=((hP r).1,(hP r).2):=by unfold aE;simp
  rw[c0];simp
 ·refine pE hb hr ?_;unfold cN nb;have c0:aE (hP r) 1=((hP r).1+1,(hP r).2):=by unfold aE;simp
  rw[c0];simp[jk]
 ·refine pE hb hr ?_;unfold cN nb;have c0:aE (hP r) 2=((hP r).1+1,(hP r).2+1):=by unfold aE;simp
  rw[c0];simp[jk]
 ·refine pE hb hr ?_;unfold cN nb;have c0:aE (hP r) 3=((hP r).1,(hP r).2+1):=by unfold aE;simp
  rw[c0];simp[jk]
noncomputable def fT(l:Fn)(p:Pl)(c:Nat):Prop:=hgt (Fc l) (aE p c)=bS (Fc l) p
omit hb in
theorem VP(a b c d:Int):min (min a b) (min c d)=min (min a c) (min d b):=by rw[min_assoc,min_assoc,min_comm b,min_assoc]
omit hb in
theorem a0G(a b c d:Int):min (min a b) (min c d)=min (min a c) (min d b):=VP a b c d
omit hb in
theorem pN{a b c d:Int}(ha:d - 1<=a)(hc:d - 1<=b)(hd:d - 1<=c){x:Int}(e:x=min (min (a+1) (b+1)) (min (c+1) (d+1))):(x=d↔(a<d\/b<d\/c<d))/\(x=d\/x=d+1):=by
 have l1:x<=a+1:=e▸ja (gz _ _) (gz _ _);have l2:x<=b+1:=e▸ja (gz _ _) (gk _ _);have l3:x<=c+1:=e▸ja (gk _ _) (gz _ _);have l4:x<=d+1:=e▸ja (gk _ _) (gk _ _);have g:d<=x:=e▸le_min.mpr ⟨le_min.mpr ⟨jd ha,jd hc⟩,le_min.mpr ⟨jd hd,Int.le_of_lt (Int.lt_add_one_iff.mpr (le_refl d))⟩⟩;have two:x=d\/x=d+1:=Hb
 have big:¬(a<d\/b<d\/c<d)->x=d+1:=λn=>by
  have na:d<=a:=fi.mp λz=>n (.inl z)
  have nb:d<=b:=fi.mp λz=>n (.inr (.inl z))
  have nc:d<=c:=fi.mp λz=>n (.inr (.inr z))
  exact Int.le_antisymm l4 (e▸le_min.mpr ⟨le_min.mpr ⟨Int.add_le_add_right na 1,Int.add_le_add_right nb 1⟩,le_min.mpr ⟨Int.add_le_add_right nc 1,le_refl _⟩⟩)
 refine⟨⟨λq=>?_,λq=>?_⟩,two⟩
 ·apply Classical.byContradiction;intro n;have:=big n;lia
 ·rcases q with q|q|q<;>lia
omit hb in
theorem t9{d x:Int}(h:d - 1<=x)(g:x<d):x=d - 1:=Hb
theorem mS{r:Nat}(hr:r∈Fc l):∃d,bS (Fc l) (hP r)=d/\0<=d/\d<64/\nb l (hP r) 0 0=d/\(∀dx dy:Int,(-1<=dx/\dx<=1)->(-1<=dy/\dy<=1)->d - 1<=nb l (hP r) dx dy)/\
  (fT l (hP r) 0↔(nb l (hP r) (-1) (-1)<d\/nb l (hP r) 0 (-1)<d\/nb l (hP r) (-1) 0<d))/\(fT l (hP r) 1↔(nb l (hP r) 0 (-1)<d\/nb l (hP r) 1 (-1)<d\/nb l (hP r) 1 0<d))/\
  (fT l (hP r) 2↔(nb l (hP r) 1 0<d\/nb l (hP r) 0 1<d\/nb l (hP r) 1 1<d))/\(fT l (hP r) 3↔(nb l (hP r) (-1) 0<d\/nb l (hP r) (-1) 1<d\/nb l (hP r) 0 1<d))/\
  (∀c,c<4->hgt (Fc l) (aE (hP r) c)=d\/hgt (Fc l) (aE (hP r) c)=d+1):=by
 obtain⟨d,ed,d0,Ey,e0,ge,g0,g1,g2,g3⟩:=E5 hb hr;have f0:=pN (ge (-1) (-1) Hd Hd) (ge 0 (-1) Hd Hd) (ge (-1) 0 Hd Hd) g0;have f1:=pN (ge 0 (-1) Hd Hd) (ge 1 (-1) Hd Hd) (ge 1 0 Hd Hd) (g1.trans (by rw[min_comm (d+1)]));have f2:=pN (ge 1 0 Hd Hd) (ge 0 1 Hd Hd) (ge 1 1 Hd Hd) (x:=hgt (Fc l) (aE (hP r) 2)) (by rw[g2,min_comm (d+1),VP]);have f3:=pN (ge (-1) 0 Hd Hd) (ge (-1) 1 Hd Hd) (ge 0 1 Hd Hd) (x:=hgt (Fc l) (aE (hP r) 3)) (by rw[g3,a0G]);unfold fT;rw[ed];refine⟨d,rfl,d0,Ey,e0,ge,f0.1,f1.1,f2.1,f3.1,λc hc=>?_⟩;have cs:c=0\/c=1\/c=2\/c=3:=by clear g0 g1 g2 g3 f0 f1 f2 f3 ge;lia
 rcases cs with rfl|rfl|rfl|rfl
 ·exact f0.2
 ·exact f1.2
 ·exact f2.2
 ·exact f3.2
theorem uM{r s:Nat}(hr:r∈Fc l)(hs:s<4)(h1:fT l (hP r) s)(h2:fT l (hP r) ((s+1)%4)):bS (Fc l) (aK (hP r) s)=bS (Fc l) (hP r) - 1:=by
 obtain⟨d,ed,d0,Ey,e0,ge,l0,l1,l2,l3,_⟩:=mS hb hr;rw[ed];have cs:s=0\/s=1\/s=2\/s=3:=by clear l0 l1 l2 l3 ge;lia
 have e0':d<=nb l (hP r) 0 0:=Int.le_of_eq e0.symm;rcases cs with rfl|rfl|rfl|rfl
 ·rw[l0]at h1;rw[l1]at h2;have e:aK (hP r) 0=((hP r).1+0,(hP r).2+-1):=by unfold aK;simp;rfl
  rw[e];rcases lt_or_le (nb l (hP r) 0 (-1)) d with c|c
  ·exact t9 (ge 0 (-1) Hd Hd) c
  ·refine(yL hb (sy:=-1) Hd d0 e0' c ?_ ?_).elim
   ·rcases h1 with h|h|h
    ·exact .inr h
    ·exact absurd c (iy.mpr h)
    ·exact .inl h
   ·rcases h2 with h|h|h
    ·exact absurd c (iy.mpr h)
    ·exact .inr h
    ·exact .inl h
 ·rw[l1]at h1;rw[l2]at h2;have e:aK (hP r) 1=((hP r).1+1,(hP r).2+0):=by unfold aK;simp
  rw[e];rcases lt_or_le (nb l (hP r) 1 0) d with c|c
  ·exact t9 (ge 1 0 Hd Hd) c
  ·refine(EJ hb (sx:=1) Hd d0 e0' c ?_ ?_).elim
   ·rcases h1 with h|h|h
    ·exact .inl h
    ·exact .inr h
    ·exact absurd c (iy.mpr h)
   ·rcases h2 with h|h|h
    ·exact absurd c (iy.mpr h)
    ·exact .inl h
    ·exact .inr h
 ·rw[l2]at h1;rw[l3]at h2;have e:aK (hP r) 2=((hP r).1+0,(hP r).2+1):=by unfold aK;simp
  rw[e];rcases lt_or_le (nb l (hP r) 0 1) d with c|c
  ·exact t9 (ge 0 1 Hd Hd) c
  ·refine(yL hb (sy:=1) Hd d0 e0' c ?_ ?_).elim
   ·rcases h2 with h|h|h
    ·exact .inl h
    ·exact .inr h
    ·exact absurd c (iy.mpr h)
   ·rcases h1 with h|h|h
    ·exact .inl h
    ·exact absurd c (iy.mpr h)
    ·exact .inr h
 ·rw[l3]at h1;rw[show(3+1)%4=0 from rfl,l0]at h2;have e:aK (hP r) 3=((hP r).1+-1,(hP r).2+0):=by unfold aK;simp;rfl
  rw[e];rcases lt_or_le (nb l (hP r) (-1) 0) d with c|c
  ·exact t9 (ge (-1) 0 Hd Hd) c
  ·refine(EJ hb (sx:=-1) Hd d0 e0' c ?_ ?_).elim
   ·rcases h2 with h|h|h
    ·exact .inr h
    ·exact .inl h
    ·exact absurd c (iy.mpr h)
   ·rcases h1 with h|h|h
    ·exact absurd c (iy.mpr h)
    ·exact .inr h
    ·exact .inl h
end
section
variable {l:Fn} (hb:Hh l)
include hb
theorem IZ{r:Nat}(hr:r∈Fc l):fT l (hP r) 0\/fT l (hP r) 1\/fT l (hP r) 2\/fT l (hP r) 3:=by
 obtain⟨d,ed,d0,Ey,e0,ge,l0,l1,l2,l3,_⟩:=mS hb hr;obtain⟨dx,dy,hx,hy,h⟩:=G8 hb (p:=hP r) (au.mpr ⟨r,hr,rfl⟩);rw[ed]at h;have cx:dx=-1\/dx=0\/dx=1:=by clear l0 l1 l2 l3 ge h;lia
 have cy:dy=-1\/dy=0\/dy=1:=by clear l0 l1 l2 l3 ge h;lia
 rcases cx with rfl|rfl|rfl<;>rcases cy with rfl|rfl|rfl
 ·exact .inl (l0.mpr (.inl h))
 ·exact .inl (l0.mpr (.inr (.inr h)))
 ·exact .inr (.inr (.inr (l3.mpr (.inr (.inl h)))))
 ·exact .inl (l0.mpr (.inr (.inl h)))
 ·exact absurd h (fi.mpr (Int.le_of_eq e0.symm))
 ·exact .inr (.inr (.inl (l2.mpr (.inr (.inl h)))))
 ·exact .inr (.inl (l1.mpr (.inr (.inl h))))
 ·exact .inr (.inl (l1.mpr (.inr (.inr h))))
 ·exact .inr (.inr (.inl (l2.mpr (.inr (.inr h)))))
theorem JY{r:Nat}(hr:r∈Fc l):¬(fT l (hP r) 0/\fT l (hP r) 2/\¬fT l (hP r) 1/\¬fT l (hP r) 3)/\¬(fT l (hP r) 1/\fT l (hP r) 3/\¬fT l (hP r) 0/\¬fT l (hP r) 2):=by
 obtain⟨d,ed,d0,Ey,e0,ge,l0,l1,l2,l3,_⟩:=mS hb hr;rw[l0,l1,l2,l3];constructor
 ·rintro⟨h0,h2,n1,n3⟩;have a1:d<=nb l (hP r) 0 (-1):=fi.mp λz=>n1 (.inl z)
  have a2:d<=nb l (hP r) 1 0:=fi.mp λz=>n1 (.inr (.inr z))
  have a3:d<=nb l (hP r) (-1) 0:=fi.mp λz=>n3 (.inl z)
  have a4:d<=nb l (hP r) 0 1:=fi.mp λz=>n3 (.inr (.inr z))
  have b0:nb l (hP r) (-1) (-1)<d:=by
   rcases h0 with h|h|h
   ·exact h
   ·exact absurd h (fi.mpr a1)
   ·exact absurd h (fi.mpr a3)
  have b2:nb l (hP r) 1 1<d:=by
   rcases h2 with h|h|h
   ·exact absurd h (fi.mpr a2)
   ·exact absurd h (fi.mpr a4)
   ·exact h
  exact OF hb (sy:=1) (.inl rfl) d0 a3 a2 a4 a1 b0 b2
 ·rintro⟨h1,h3,n0,n2⟩;have a1:d<=nb l (hP r) 0 (-1):=fi.mp λz=>n0 (.inr (.inl z))
  have a2:d<=nb l (hP r) 1 0:=fi.mp λz=>n2 (.inl z)
  have a3:d<=nb l (hP r) (-1) 0:=fi.mp λz=>n0 (.inr (.inr z))
  have a4:d<=nb l (hP r) 0 1:=fi.mp λz=>n2 (.inr (.inl z))
  have b1:nb l (hP r) 1 (-1)<d:=by
   rcases h1 with h|h|h
   ·exact absurd h (fi.mpr a1)
   ·exact h
   ·exact absurd h (fi.mpr a2)
  have b3:nb l (hP r) (-1) 1<d:=by
   rcases h3 with h|h|h
   ·exact absurd h (fi.mpr a3)
   ·exact h
   ·exact absurd h (fi.mpr a4)
  exact OF hb (sy:=-1) (.inr rfl) d0 a3 a2 a1 a4 b3 b1
end
end RM
open Roof
open Roof
namespace RM
open Roof
theorem E9{x y:Cell}(h:y∈beside x):x∈beside y:=by
 obtain⟨s,hs,e⟩:=iS.mp h;refine iS.mpr ⟨(s+2)%4,Hb,?_⟩;rw[e];have cs:s=0\/s=1\/s=2\/s=3:=Hb
 rcases cs with rfl|rfl|rfl|rfl<;>simp[aK]<;>exact Prod.ext (by simp) (by simp)
theorem iK.trans{l:Fn}{a b c:Cell}(h1:iK l a b)(h2:iK l b c):iK l a c:=by
 induction h2 with
 |refl=>exact h1
 |step _ hb hl ih=>exact .step ih hb hl
theorem iK.symm{l:Fn}{a b:Cell}(ha:a∈l)(h:iK l a b):iK l b a:=by
 induction h with
 |refl=>exact .refl
 |step h1 hb hl ih=>
  rename_i x y;have hx:x∈l:=by
   cases h1 with
   |refl=>exact ha
   |step _ _ q=>exact q
  exact iK.trans (.step .refl (E9 hb) hx) ih
theorem GZ{l:Fn}:isHouse l=true↔l≠[]/\l.length<=256/\(Hh l)/\(l.Pairwise λa b=>before a b=true)/\(∀x∈l,∀y∈l,iK l x y)/\Ge l=false:=by
 cases l with
 |nil=>simp[isHouse]
 |cons a r=>
  show(decide ((a::r).length<=CELLS)&& ((a::r).all Roof.within&& (rising (a::r)&& ((reach (a::r) (a::r).length [a] [a]).length==(a::r).length&& !pinched (a::r)))))=true↔ _
  rw[bw,bw,bw,bw,nN,beq_iff_eq,ia,ie,decide_eq_true_iff];have w:(∀x∈a::r,Roof.within x=true)↔∀c∈a::r,c.1<64/\c.2<64:=by unfold Roof.within SIDE;simp only[bw,decide_eq_true_eq]
  rw[w];constructor
  ·rintro⟨h1,h2,h3,h4,h5⟩;have c:=(qK (gU h3) (ay (a:=a))).mp h4;exact⟨by simp,h1,h2,h3,λx hx y hy=>iK.trans (iK.symm ay (c x hx)) (c y hy),h5⟩
  ·rintro⟨_,h1,h2,h3,h4,h5⟩;exact⟨h1,h2,h3,(qK (gU h3) (ay (a:=a))).mpr λx hx=>h4 a ay x hx,h5⟩
theorem BC{l:Fn}(hl:Hh l){p:Pl}(h:p∈(Fc l).map hP):0<=p.1/\p.1<128/\0<=p.2/\p.2<128:=by obtain⟨r,hr,rfl⟩:=au.mp h;obtain⟨i,j,hi,hj,rfl⟩:=aL hl r hr;rw[d8 hi];dsimp only;lia
theorem nI{p:Pl}(h:0<=p.1/\p.1<128/\0<=p.2/\p.2<128)(c:Nat):0<=(aE p c).1/\(aE p c).1<=128/\0<=(aE p c).2:=by
 unfold aE;split
 ·dsimp only;lia
 ·split
  ·dsimp only;lia
  ·split<;>dsimp only<;>lia
theorem sM{h:List Nat}(hh:∀r∈h,okR r){t u:Nat}(ht:t∈Fd h)(hb:u∈Gg t):t∈Gg u:=by
 have hr:=hh _ (bE.mp ht);obtain⟨i,j,hi,hj,e⟩:=hr;have hw:130<=t/4:=by rw[e];unfold raw W;lia
 unfold Gg at hb ⊢;simp only[aq,ej,or_false]at hb ⊢;unfold beyond at hb ⊢;unfold W at*;rcases hb with rfl|rfl|rfl
 ·right;left;lia
 ·left;lia
 ·right;right;have et:t=4*(t/4)+t%4:=Hb
  have hs:t%4<4:=Hb
  generalize t/4=r at*;generalize t%4=s at*;subst et;have q1:∀b:Nat,(4*b+(s+2)%4)/4=b:=λb=>by lia
  have q2:∀b:Nat,(4*b+(s+2)%4)%4=(s+2)%4:=λb=>by lia
  rw[q1,q2];have cs:s=0\/s=1\/s=2\/s=3:=Hb
  rcases cs with rfl|rfl|rfl|rfl
  ·show _=4*((r - 130)+130)+0;lia
  ·show _=4*((r+1) - 1)+1;lia
  ·show _=4*((r+130) - 130)+2;lia
  ·show _=4*((r - 1)+1)+3;lia
structure zP(h:List Nat)(fac:Array Nat)(n:Nat)(lab:Array Nat):Prop where
 size:lab.size=4*W*W
 out:∀u,¬isU lab u->u∈Fd h
 lt:∀t∈Fd h,lab.getD t 0=NONE\/lab.getD t 0<n
 same:∀t∈Fd h,∀u∈Fd h,lab.getD t 0≠NONE->lab.getD u 0=lab.getD t 0->fac.getD u 4=fac.getD t 4
 lD:∀t∈Fd h,∀u∈Fd h,lab.getD t 0≠NONE->u∈Gg t->fac.getD u 4=fac.getD t 4->lab.getD u 0=lab.getD t 0
theorem zP.start{h:List Nat}(hh:∀r∈h,okR r)(fac:Array Nat):zP h fac 0 (uQ h):=by
 have g:=uP hh;refine⟨xD h,λu q=>?_,λt ht=>.inl (by rw[g,ah ht]),λt ht u hu q=>absurd (by rw[g,ah ht]) q,λt ht u hu q=>absurd (by rw[g,ah ht]) q⟩;apply Classical.byContradiction;intro c;apply q;show(uQ h).getD u 0≠NONE
 rw[g,af c];decide
theorem zP.step{h:List Nat}(hh:∀r∈h,okR r){fac lab:Array Nat}{n t0:Nat}(I:zP h fac n lab)(hn:n<NONE)(o0:¬isU lab t0):zP h fac (n+1) (fill fac n (4*(Fd h).length+4) [t0] lab):=by
 obtain⟨N,g,sz,iff⟩:=xO (fac:=fac) (n:=n) (ts:=Fd h) Hb I.out (λu hu=>by rw[I.size];exact yE hh hu) o0;have vm:∀x∈N,okN fac t0 x/\¬isU lab x:=λx hx=>Rch.ok' ((iff x).mp hx) rfl o0
 refine⟨sz.trans I.size,λu q=>?_,λt ht=>?_,λt ht u hu q e=>?_,λt ht u hu q hb e=>?_⟩
 ·by_cases c:u∈N
  ·exact I.out u (vm u c).2
  ·exact I.out u λz=>q (by show(fill fac n (4*(Fd h).length+4) [t0] lab).getD u 0≠NONE;rw[g,af c];exact z)
 ·rw[g];split
  ·exact .inr Hb
  ·rcases I.lt t ht with z|z
   ·exact .inl z
   ·exact .inr Hb
 ·rw[g]at q e;rw[g]at e;by_cases c:t∈N
  ·rw[ah c]at e;by_cases d:u∈N
   ·exact((vm u d).1).trans ((vm t c).1).symm
   ·rw[af d]at e;rcases I.lt u hu with z|z<;>lia
  ·rw[af c]at q e;by_cases d:u∈N
   ·rw[ah d]at e;rcases I.lt t ht with z|z
    ·exact absurd z q
    ·lia
   ·rw[af d]at e;exact I.same t ht u hu q e
 ·rw[g]at q;rw[g,g];by_cases c:t∈N
  ·rw[ah c];have nu:¬isU lab u:=λz=>by
    have:=I.lD u hu t ht z (sM hh ht hb) e.symm;have nt:=(vm t c).2;apply nt;show lab.getD t 0≠NONE
    rw[this];exact z
   have:u∈N:=(iff u).mpr (.step ((iff t).mp c) hb (show fac.getD u 4=fac.getD t0 4 from e.trans (vm t c).1) nu);rw[ah this]
  ·rw[af c]at q ⊢;have e2:=I.lD t ht u hu q hb e;have d:u∉N:=λz=>(vm u z).2 (by show lab.getD u 0≠NONE;rw[e2];exact q)
   rw[af d];exact e2
theorem qZ{h:List Nat}(hh:∀r∈h,okR r){fac:Array Nat}:∀(r:List Nat)(n:Nat)(firsts:List Nat)(lab:Array Nat),zP h fac n lab->n+r.length<NONE->∃m,zP h fac m (facesFrom fac (4*(Fd h).length+4) r n firsts lab).1
 |[],n,firsts,lab,I,_=>⟨n,I⟩
 |t::r,n,firsts,lab,I,hn=>by
  rw[bo]at hn;have e:facesFrom fac (4*(Fd h).length+4) (t::r) n firsts lab=if lab.getD t 0≠NONE then facesFrom fac (4*(Fd h).length+4) r n firsts lab else facesFrom fac (4*(Fd h).length+4) r (n+1) (t::firsts) (fill fac n (4*(Fd h).length+4) [t] lab):=rfl
  rw[e];by_cases c:lab.getD t 0≠NONE
  ·rw[ah c];exact qZ hh r n firsts lab I Hb
  ·rw[af c];exact qZ hh r (n+1) (t::firsts) _ (I.step hh Hb c) Hb
section
variable {l:Fn} (hb:Hh l) (jt:l.length<=256) {Ns:List (List T3)} (R:Numbering (Fc l) (Fd (Fc l)).length Ns)
include hb jt R
theorem xR:∃m,zP (Fc l) (nG (Fc l)) m (Ff l).lab:=by have few:=KY jt;exact qZ (aL hb) _ 0 [] _ (zP.start (aL hb) _) Hb
theorem AY{t:Nat}(ht:t∈(Ff l).tris):(Ff l).face t<Ns.length/\(Ff l).face t≠NONE:=by
 obtain⟨a1,_,_,nd,_⟩:=R.all (aw _);obtain⟨i,N,h1,h2,h3⟩:=(yT Ns 0 (tP t) _ nd).mp (a1 t ht);have:=(ar.mp h1).1;have s:=(R.small jt).2.1;have e:(Ff l).face t=i:=Hb
 rw[e];refine⟨this,?_⟩;unfold NONE;lia
theorem sG{t u:Nat}(ht:t∈(Ff l).tris)(hu:u∈(Ff l).tris)(e:(Ff l).face t=(Ff l).face u):(Ff l).faces t=(Ff l).faces u:=by obtain⟨m,I⟩:=xR hb jt R;exact(I.same t ht u hu (AY hb jt R ht).2 e.symm).symm
theorem sN{t u:Nat}(ht:t∈(Ff l).tris)(hu:u∈(Ff l).tris)(ve:u∈Gg t)(e:(Ff l).faces t=(Ff l).faces u):(Ff l).face t=(Ff l).face u:=by obtain⟨m,I⟩:=xR hb jt R;exact(I.lD t ht u hu (AY hb jt R ht).2 ve e.symm).symm
end
noncomputable def oA(s:Nat):Pl:=if s=0 then(0,-1)else if s=1 then(1,0)else if s=2 then(0,1)else(-1,0)
noncomputable def twP(d:Nat)(v:Pl):Int:=if d=0 then -v.2 else if d=1 then v.1 else if d=2 then v.2 else -v.1
noncomputable def k8(t:T3):Pl:=(6*t.1+3+2*(oA t.2.2.toNat).1,6*t.2.1+3+2*(oA t.2.2.toNat).2)
theorem G6(d:Nat)(p q:Pl):toward d p q=twP d (q.1 - p.1,q.2 - p.2):=by
 unfold toward twP;split
 ·lia
 ·split
  ·rfl
  ·split
   ·rfl
   ·lia
theorem F7{t:Nat}(h:okR (t/4)):inner t=k8 (tP t):=by
 obtain⟨i,j,hi,hj,e⟩:=h;unfold inner k8 tP;rw[e];unfold twice middle cornerOf;dsimp only;rw[z7 hi,z5 hi];have hs:t%4<4:=Hb
 have e2:(((t%4:Nat):Int)).toNat=t%4:=Hb
 rw[e2];generalize t%4=s at hs;have cs:s=0\/s=1\/s=2\/s=3:=Hb
 rcases cs with rfl|rfl|rfl|rfl<;>simp[oA]<;>constructor<;>lia
section
variable {l:Fn} (hb:Hh l)
noncomputable def lb(l:Fn)(p:Pl)(c:Nat):Bool:=decide (hgt (Fc l) (aE p c)=bS (Fc l) p)
noncomputable def fB(a b:Bool)(s:Nat):Nat:=if(a&& b)=true then s else if b=true then(s+1)%4 else if a=true then(s+3)%4 else(s+2)%4
include hb
theorem NM{t:Nat}(ht:t∈(Ff l).tris):(Ff l).faces t=fB (lb l (hP (t/4)) (t%4)) (lb l (hP (t/4)) (t%4+1)) (t%4):=by
 have e:=tD (aL hb) ht;have e0:(Ff l).faces t=(nG (Fc l)).getD t 4:=rfl;rw[<- e0]at e;have e1:((tP t).1,(tP t).2.1)=hP (t/4):=rfl;have e2:(tP t).2.2.toNat=t%4:=by unfold tP;dsimp only;lia
 unfold fN at e;rw[e1,e2]at e;unfold lb fB;unfold HN at e;have hs:t%4<4:=Hb
 generalize t%4=s at*;simp only[bw,decide_eq_true_eq];split at e
 ·rename_i q;rw[ah q];lia
 ·rename_i q;rw[af q];split at e
  ·rename_i q2;rw[ah q2];lia
  ·rename_i q2;rw[af q2];split at e
   ·rename_i q3;rw[ah q3];lia
   ·rename_i q3;rw[af q3];lia
theorem AM{r:Nat}(hr:r∈Fc l):¬(fT l (hP r) 0/\fT l (hP r) 1/\fT l (hP r) 2/\fT l (hP r) 3):=by
 rintro⟨a,b,c,d⟩;have s1:=uM hb hr (s:=1) Hd b c;have s3:=uM hb hr (s:=3) Hd d a;obtain⟨dd,ed,d0,Ey,e0,ge,_⟩:=mS hb hr;rw[ed]at s1 s3;refine yL hb (p:=hP r) (sy:=0) Hd (d:=dd) d0 Hb Hb (.inl ?_) (.inl ?_)
 ·have:nb l (hP r) (-1) 0=bS (Fc l) (aK (hP r) 3):=by unfold nb aK;simp;congr 1
  lia
 ·have:nb l (hP r) 1 0=bS (Fc l) (aK (hP r) 1):=by unfold nb aK;simp
  lia
omit hb in
theorem eQ(p:Pl)(c:Nat):lb l p (c%4)=lb l p c:=by unfold lb aE;rw[mod_mod]
noncomputable def okB(a b c d:Bool):Bool:=(a||b||c||d)&& !(a&& b&& c&& d)&& !(a&& c&& !b&& !d)&& !(b&& d&& !a&& !c)
omit hb in
theorem mP:∀a b c d:Bool,okB a b c d=okB b c d a:=Hd
theorem W7{r:Nat}(hr:r∈Fc l):okB (lb l (hP r) 0) (lb l (hP r) 1) (lb l (hP r) 2) (lb l (hP r) 3)=true:=by
 have h1:=IZ hb hr;have h2:=AM hb hr;obtain⟨h3,h4⟩:=JY hb hr;have e:∀c,fT l (hP r) c↔lb l (hP r) c=true:=λc=>by unfold lb fT;rw[decide_eq_true_iff]
 rw[e,e,e,e]at h1 h2 h3 h4
 revert h1 h2 h3 h4
 generalize lb l (hP r) 0=a;generalize lb l (hP r) 1=b;generalize lb l (hP r) 2=c;generalize lb l (hP r) 3=d;cases a<;>cases b<;>cases c<;>cases d<;>simp[okB]
theorem NX{r:Nat}(hr:r∈Fc l)(c:Nat):okB (lb l (hP r) c) (lb l (hP r) (c+1)) (lb l (hP r) (c+2)) (lb l (hP r) (c+3))=true:=by
 have h:=W7 hb hr;have cs:c%4=0\/c%4=1\/c%4=2\/c%4=3:=Hb
 rw[<- eQ _ c,<- eQ _ (c+1),<- eQ _ (c+2),<- eQ _ (c+3)];rcases cs with q|q|q|q
 ·rw[q,show(c+1)%4=1 by lia,show(c+2)%4=2 by lia,show(c+3)%4=3 by lia];exact h
 ·rw[q,show(c+1)%4=2 by lia,show(c+2)%4=3 by lia,show(c+3)%4=0 by lia,<- mP];exact h
 ·rw[q,show(c+1)%4=3 by lia,show(c+2)%4=0 by lia,show(c+3)%4=1 by lia,<- mP,<- mP];exact h
 ·rw[q,show(c+1)%4=0 by lia,show(c+2)%4=1 by lia,show(c+3)%4=2 by lia,<- mP,<- mP,<- mP];exact h
end
noncomputable def kB(ft fu:Nat)(v:Pl):Nat:=if fu=(ft+2)%4 then 0 else if 0<twP ft v then 2 else 1
def dif(p q:Pl):Pl:=(q.1 - p.1,q.2 - p.2)
theorem DF{l:Fn}{t u:Nat}(ht:okR (t/4))(hu:okR (u/4)):(Ff l).kind t u=kB ((Ff l).faces t) ((Ff l).faces u) (dif (k8 (tP t)) (k8 (tP u))):=by unfold Top.kind kB;rw[G6,F7 ht,F7 hu];rfl
noncomputable def wv(s:Nat):Pl:=(2*((oA ((s+1)%4)).1 - (oA s).1),2*((oA ((s+1)%4)).2 - (oA s).2))
noncomputable def wv'(s:Nat):Pl:=(2*((oA s).1 - (oA ((s+1)%4)).1),2*((oA s).2 - (oA ((s+1)%4)).2))
noncomputable def stW(f g:Nat):Pl:=if g=(f+2)%4 then(if f%2=0 then(2,0)else(0,2))else if g=(f+1)%4 then(if f%2=1 then(1,1)else(-1,1))else(if g%2=1 then(1,1)else(-1,1))
theorem IF:∀(s:Fin 4)(a b c d:Bool),okB a b c d=true->fB a b s.1≠fB b c ((s.1+1)%4) ->
  kB (fB a b s.1) (fB b c ((s.1+1)%4)) (wv s.1)=(if a=true then 1 else 2)/\kB (fB b c ((s.1+1)%4)) (fB a b s.1) (wv' s.1)=(if a=true then 1 else 2)/\a=c/\
  fB d a ((s.1+3)%4)=fB a b s.1/\fB c d ((s.1+2)%4)=fB b c ((s.1+1)%4)/\stW (fB a b s.1) (fB b c ((s.1+1)%4))=(if s.1%2=1 then(1,1)else(-1,1))/\stW (fB b c ((s.1+1)%4)) (fB a b s.1)=(if s.1%2=1 then(1,1)else(-1,1)):=by decide+kernel
theorem LN:∀(s:Fin 4)(a b a' b':Bool),((a'=b/\b'=a/\(a&& b)=false)\/(a=false/\b=false/\a'=true/\b'=true)\/(a=true/\b=true/\a'=false/\b'=false))->fB a b s.1≠fB a' b' ((s.1+2)%4)->fB a b s.1=(s.1+2)%4/\fB a' b' ((s.1+2)%4)=s.1:=by decide+kernel
def tr(r s:Nat):Nat:=4*r+s%4
theorem eO(r s:Nat):tr r s/4=r:=by unfold tr;lia
theorem jS(r s:Nat):tr r s%4=s%4:=by unfold tr;lia
theorem gB(t:Nat):t=tr (t/4) (t%4):=by unfold tr;lia
theorem wF(r s:Nat):tP (tr r s)=((hP r).1,(hP r).2,((s%4:Nat):Int)):=by unfold tP;rw[eO,jS];rfl
section
variable {l:Fn} (hb:Hh l)
include hb
theorem rK{r s:Nat}(hr:r∈Fc l):tr r s∈(Ff l).tris:=bE.mpr (by rw[eO];exact hr)
theorem jL{r s:Nat}(hr:r∈Fc l):(Ff l).faces (tr r s)=fB (lb l (hP r) s) (lb l (hP r) (s+1)) (s%4):=by rw[NM hb (rK hb hr),eO,jS,eQ,<- eQ _ (s%4+1),show(s%4+1)%4=(s+1)%4 by lia,eQ]
theorem dO{r s:Nat}(hr:r∈Fc l)(hs:s<4)(ne:(Ff l).faces (tr r s)≠(Ff l).faces (tr r (s+1))):
  (Ff l).kind (tr r s) (tr r (s+1))=(if lb l (hP r) s=true then 1 else 2)/\(Ff l).kind (tr r (s+1)) (tr r s)=(if lb l (hP r) s=true then 1 else 2)/\lb l (hP r) s=lb l (hP r) (s+2)/\
  (Ff l).faces (tr r (s+3))=(Ff l).faces (tr r s)/\(Ff l).faces (tr r (s+2))=(Ff l).faces (tr r (s+1))/\stW ((Ff l).faces (tr r s)) ((Ff l).faces (tr r (s+1)))=(if s%2=1 then(1,1)else(-1,1))/\stW ((Ff l).faces (tr r (s+1))) ((Ff l).faces (tr r s))=(if s%2=1 then(1,1)else(-1,1)):=by
 have ok:=aL hb r hr;have es:s%4=s:=gb hs;rw[DF (by rw[eO];exact ok) (by rw[eO];exact ok),DF (by rw[eO];exact ok) (by rw[eO];exact ok)];have v1:dif (k8 (tP (tr r s))) (k8 (tP (tr r (s+1))))=wv s:=by rw[wF,wF];unfold dif k8 wv;dsimp only;rw[dz,dz,es];exact Prod.ext (by dsimp only;lia) (by dsimp only;lia)
 have v2:dif (k8 (tP (tr r (s+1)))) (k8 (tP (tr r s)))=wv' s:=by rw[wF,wF];unfold dif k8 wv';dsimp only;rw[dz,dz,es];exact Prod.ext (by dsimp only;lia) (by dsimp only;lia)
 rw[v1,v2];have e4:lb l (hP r) (s+3+1)=lb l (hP r) s:=by rw[<- eQ _ (s+3+1),show(s+3+1)%4=s%4 by lia,eQ]
 rw[jL hb hr,jL hb hr]at ne ⊢;rw[jL hb hr,jL hb hr,e4];rw[es]at ne ⊢;exact IF ⟨s,hs⟩ _ _ _ _ (NX hb hr s) ne
theorem zM{r q s:Nat}(hr:r∈Fc l)(hq:q∈Fc l)(hs:s<4)(e:hP q=aK (hP r) s)(ne:(Ff l).faces (tr r s)≠(Ff l).faces (tr q (s+2))):
  (Ff l).faces (tr r s)=(s+2)%4/\(Ff l).faces (tr q (s+2))=s:=by
 obtain⟨d,ed,d0,_,_,_,_,_,_,_,two⟩:=mS hb hr;obtain⟨d',ed',d0',_,_,_,_,_,_,_,Ca⟩:=mS hb hq;have cm:∀(p:Pl) c,aE p (c%4)=aE p c:=λp c=>by unfold aE;rw[mod_mod]
 have c1:aE (hP q) ((s+2)%4)=aE (hP r) ((s+1)%4):=by
  rw[e,cm,cm];have cs:s=0\/s=1\/s=2\/s=3:=Hb
  rcases cs with rfl|rfl|rfl|rfl<;>simp[aE,aK]
 have c2:aE (hP q) ((s+3)%4)=aE (hP r) (s%4):=by
  rw[e,cm,cm];have cs:s=0\/s=1\/s=2\/s=3:=Hb
  rcases cs with rfl|rfl|rfl|rfl<;>simp[aE,aK]
 have A:=two (s%4) Hb;have B:=two ((s+1)%4) Hb;have A':=Ca ((s+3)%4) Hb;have B':=Ca ((s+2)%4) Hb;rw[c2]at A';rw[c1]at B';have ls:fT l (hP r) (s%4)->fT l (hP r) ((s+1)%4)->d'=d - 1:=λh1 h2=>by rw[gb hs]at h1;have:=uM hb hr hs h1 h2;rw[<- e,ed,ed']at this;exact this
 unfold fT at ls;rw[jL hb hr,jL hb hq]at ne ⊢;have l0:lb l (hP r) s=decide (hgt (Fc l) (aE (hP r) (s%4))=d):=by rw[<- eQ];unfold lb;rw[ed]
 have l1:lb l (hP r) (s+1)=decide (hgt (Fc l) (aE (hP r) ((s+1)%4))=d):=by rw[<- eQ];unfold lb;rw[ed]
 have l2:lb l (hP q) (s+2)=decide (hgt (Fc l) (aE (hP r) ((s+1)%4))=d'):=by rw[<- eQ];unfold lb;rw[ed',c1]
 have l3:lb l (hP q) (s+2+1)=decide (hgt (Fc l) (aE (hP r) (s%4))=d'):=by rw[<- eQ];unfold lb;rw[ed',show(s+2+1)%4=(s+3)%4 from rfl,c2]
 rw[l0,l1,l2,l3]at ne ⊢;rw[ed]at ls;generalize hgt (Fc l) (aE (hP r) (s%4))=x at*;generalize hgt (Fc l) (aE (hP r) ((s+1)%4))=y at*;have es:s%4=s:=gb hs;rw[es]at ne ⊢;refine LN ⟨s,hs⟩ _ _ _ _ ?_ ne;clear ne l0 l1 l2 l3;by_cases dd:d=d'
 ·left;subst dd;refine⟨rfl,rfl,?_⟩;rw[Bool.and_eq_false_iff];by_cases a:x=d
  ·right;exact decide_eq_false λb=>by have:=ls a b;lia
  ·exact .inl (decide_eq_false a)
 ·right;by_cases d1:d'=d+1
  ·left;exact⟨decide_eq_false Hb,decide_eq_false Hb,decide_eq_true Hb,decide_eq_true Hb⟩
  ·right;exact⟨decide_eq_true Hb,decide_eq_true Hb,decide_eq_false Hb,decide_eq_false Hb⟩
end
def bsK(t k:Nat):Nat:=(Gg t).getD k 0
def okK(T:Top)(t k:Nat):Bool:=T.in_ (bsK t k)&& decide (T.face t<T.face (bsK t k))
def bA(e:Pl×Pl):Pl×Pl:=if beforeT e.1 e.2=true then e else(e.2,e.1)
noncomputable def pcK(T:Top)(t k:Nat):Piece:=⟨T.kind t (bsK t k),T.face t,T.face (bsK t k),(bA (Fv t k)).1,(bA (Fv t k)).2⟩
theorem wU(T:Top):T.piecesOfLine=T.tris.flatMap λ(t:Nat)=>(List.range 3).filterMap λ(k:Nat)=>if okK T t k=true then some (pcK T t k)else none:=by
 unfold Top.piecesOfLine;congr 1;funext t;congr 1;funext k;show(if(T.in_ (bsK t k)&& decide (T.face t<T.face (bsK t k)))=true then some (if beforeT (Fv t k).1 (Fv t k).2=true then _ else _)else none)=_
 unfold okK;congr 1;unfold pcK bA;by_cases c:beforeT (Fv t k).1 (Fv t k).2=true
 ·simp only[ah c];rfl
 ·simp only[af c];rfl
theorem bZ{T:Top}{x:Piece}:x∈T.piecesOfLine↔∃t∈T.tris,∃k,k<3/\okK T t k=true/\x=pcK T t k:=by
 rw[wU,cv];constructor
 ·rintro⟨t,ht,h⟩;obtain⟨k,hk,e⟩:=ig.mp h;split at e
  ·rename_i c;exact⟨t,ht,k,fj.mp hk,c,(Option.some.inj e).symm⟩
  ·cases e
 ·rintro⟨t,ht,k,hk,c,rfl⟩;exact⟨t,ht,ig.mpr ⟨k,fj.mpr hk,by rw[ah c]⟩⟩
def dbl(p:Pl):Pl:=(2*p.1,2*p.2)
def cG(p:Pl)(s:Nat):Pl×Pl:=((2*p.1+1,2*p.2+1),dbl (aE p (s+1)))
def dF(p:Pl)(s:Nat):Pl×Pl:=(dbl (aE p s),dbl (aE p (s+1)))
theorem mI(r c:Nat):twice (cornerOf r c)=dbl (aE (hP r) c):=by rw[kJ];rfl
theorem eU(p:Pl)(c:Nat):aE p (c%4)=aE p c:=by unfold aE;rw[mod_mod]
theorem jF(r s:Nat)(hs:s<4):Fv (tr r s) 0=cG (hP r) s:=by
 unfold Fv;rw[eO,jS,gb hs];show(middle r,twice (cornerOf r (s+1)))=_
 rw[mI];rfl
theorem kP(r s:Nat)(hs:s<4):Fv (tr r s) 1=cG (hP r) (s+3):=by
 unfold Fv;rw[eO,jS,gb hs];show(middle r,twice (cornerOf r s))=_
 rw[mI,<- eU,show s%4=(s+3+1)%4 by lia,eU];rfl
theorem kO(r s:Nat)(hs:s<4):Fv (tr r s) 2=dF (hP r) s:=by
 unfold Fv;rw[eO,jS,gb hs];show(twice (cornerOf r s),twice (cornerOf r (s+1)))=_
 rw[mI,mI];rfl
theorem bs0(r s:Nat)(hs:s<4):bsK (tr r s) 0=tr r (s+1):=by unfold bsK Gg;rw[eO,jS,gb hs];rfl
theorem bs1(r s:Nat)(hs:s<4):bsK (tr r s) 1=tr r (s+3):=by unfold bsK Gg;rw[eO,jS,gb hs];rfl
theorem bs2(r s:Nat)(hs:s<4):bsK (tr r s) 2=tr (beyond r s) (s+2):=by unfold bsK Gg;rw[eO,jS,gb hs];rfl
theorem rB(t k:Nat)(hk:k<3):bsK t k∈Gg t:=by
 have cs:k=0\/k=1\/k=2:=Hb
 rcases cs with rfl|rfl|rfl<;>simp[bsK,Gg]
theorem cY(p:Pl)(s:Nat):cG p (s%4)=cG p s:=by unfold cG;rw[<- eU _ (s%4+1),show(s%4+1)%4=(s+1)%4 by lia,eU]
def sm(e:Pl×Pl):Pl:=(e.1.1+e.2.1,e.1.2+e.2.2)
theorem yJ(e:Pl×Pl):sm (bA e)=sm e:=by
 unfold bA sm;split
 ·rfl
 ·exact Prod.ext (by dsimp only;lia) (by dsimp only;lia)
theorem sW{p q:Pl}{s z:Nat}(hs:s<4)(hz:z<4)(e:sm (cG p s)=sm (cG q z)):p=q/\s=z:=by
 have h1:=congrArg Prod.fst e;have h2:=congrArg Prod.snd e;obtain⟨a,b⟩:=p;obtain⟨c,d⟩:=q;have cs:s=0\/s=1\/s=2\/s=3:=Hb
 have cz:z=0\/z=1\/z=2\/z=3:=Hb
 rcases cs with rfl|rfl|rfl|rfl<;>rcases cz with rfl|rfl|rfl|rfl<;>simp[sm,cG,dbl,aE]at h1 h2<;>first|(exfalso;lia)|exact⟨Prod.ext (by dsimp only;lia) (by dsimp only;lia),rfl⟩
theorem M7{p q:Pl}{s z:Nat}(hs:s<4)(hz:z<4)(e:sm (dF p s)=sm (dF q z)):(p=q/\s=z)\/(q=aK p s/\z=(s+2)%4):=by
 have h1:=congrArg Prod.fst e;have h2:=congrArg Prod.snd e;obtain⟨a,b⟩:=p;obtain⟨c,d⟩:=q;have cs:s=0\/s=1\/s=2\/s=3:=Hb
 have cz:z=0\/z=1\/z=2\/z=3:=Hb
 rcases cs with rfl|rfl|rfl|rfl<;>rcases cz with rfl|rfl|rfl|rfl<;>simp[sm,dF,dbl,aE]at h1 h2<;>first|(exfalso;lia)|exact .inl ⟨Prod.ext (by dsimp only;lia) (by dsimp only;lia),rfl⟩|exact .inr ⟨by simp[aK];lia,rfl⟩
theorem M6{p q:Pl}{s z:Nat}(hs:s<4)(hz:z<4):sm (cG p s)≠sm (dF q z):=by
 intro e;have h1:=congrArg Prod.fst e;have h2:=congrArg Prod.snd e;obtain⟨a,b⟩:=p;obtain⟨c,d⟩:=q;have cs:s=0\/s=1\/s=2\/s=3:=Hb
 have cz:z=0\/z=1\/z=2\/z=3:=Hb
 rcases cs with rfl|rfl|rfl|rfl<;>rcases cz with rfl|rfl|rfl|rfl<;>simp[sm,cG,dF,dbl,aE]at h1 h2<;>lia
section
variable {l:Fn} (hb:Hh l) (jt:l.length<=256) {Ns:List (List T3)} (R:Numbering (Fc l) (Fd (Fc l)).length Ns)
include hb in
theorem nR{t k:Nat}(h:okK (Ff l) t k=true):bsK t k∈(Ff l).tris/\(Ff l).face t<(Ff l).face (bsK t k):=by unfold okK at h;rw[bw,decide_eq_true_iff]at h;exact⟨(EH hb _).mpr h.1,h.2⟩
include hb in
theorem uF{t k:Nat}(h1:bsK t k∈(Ff l).tris)(h2:(Ff l).face t<(Ff l).face (bsK t k)):okK (Ff l) t k=true:=by unfold okK;rw[bw,decide_eq_true_iff];exact⟨(EH hb _).mp h1,h2⟩
include hb in
theorem jR{r s:Nat}(hr:r∈Fc l)(hs:s<4)(h:tr (beyond r s) (s+2)∈(Ff l).tris):beyond r s∈Fc l/\hP (beyond r s)=aK (hP r) s:=by
 have m:beyond r s∈Fc l:=by have:=bE.mp (show _∈Fd (Fc l)from h);rw[eO]at this;exact this
 exact⟨m,(vE (aL hb) (aL hb r hr) (aL hb _ m) hs).mpr rfl⟩
include hb in
theorem wR{t t' k k':Nat}(ht:t∈(Ff l).tris)(px:t'∈(Ff l).tris)(hk:k<3)(si:k'<3)(o:okK (Ff l) t k=true)(o':okK (Ff l) t' k'=true)(e:sm (Fv t k)=sm (Fv t' k')):t=t'/\k=k':=by
 obtain⟨m,f⟩:=nR hb o;obtain⟨m',f'⟩:=nR hb o';have hr:t/4∈Fc l:=bE.mp ht;have Ah:t'/4∈Fc l:=bE.mp px;have hs:t%4<4:=Hb
 have pz:t'%4<4:=Hb
 rw[gB t]at m f e ⊢;rw[gB t']at m' f' e ⊢;generalize t/4=r at*;generalize t%4=s at*;generalize t'/4=r' at*;generalize t'%4=s' at*;have inj:hP r=hP r'->r=r':=λh=>kC (aL hb r hr) (aL hb r' Ah) h
 have ck:k=0\/k=1\/k=2:=Hb
 have ck':k'=0\/k'=1\/k'=2:=Hb
 rcases ck with rfl|rfl|rfl<;>rcases ck' with rfl|rfl|rfl
 ·rw[jF _ _ hs,jF _ _ pz]at e;obtain⟨e1,rfl⟩:=sW hs pz e;rw[inj e1];exact⟨rfl,rfl⟩
 ·rw[jF _ _ hs,kP _ _ pz,<- cY _ (s'+3)]at e;obtain⟨e1,e2⟩:=sW hs Hb e;cases inj e1;rw[bs0 _ _ hs]at f;rw[bs1 _ _ pz]at f';have a1:tr r (s+1)=tr r s':=by unfold tr;lia
  have a2:tr r (s'+3)=tr r s:=by unfold tr;lia
  rw[a1]at f;rw[a2]at f';lia
 ·rw[jF _ _ hs,kO _ _ pz]at e;exact absurd e (M6 hs pz)
 ·rw[kP _ _ hs,jF _ _ pz,<- cY _ (s+3)]at e;obtain⟨e1,e2⟩:=sW Hb pz e;cases inj e1;rw[bs1 _ _ hs]at f;rw[bs0 _ _ pz]at f';have a1:tr r (s+3)=tr r s':=by unfold tr;lia
  have a2:tr r (s'+1)=tr r s:=by unfold tr;lia
  rw[a1]at f;rw[a2]at f';lia
 ·rw[kP _ _ hs,kP _ _ pz,<- cY _ (s+3),<- cY _ (s'+3)]at e;obtain⟨e1,e2⟩:=sW Hb Hb e;have:s=s':=Hb
  rw[inj e1,this];exact⟨rfl,rfl⟩
 ·rw[kP _ _ hs,kO _ _ pz,<- cY _ (s+3)]at e;exact absurd e (M6 Hb pz)
 ·rw[kO _ _ hs,jF _ _ pz]at e;exact absurd e.symm (M6 pz hs)
 ·rw[kO _ _ hs,kP _ _ pz,<- cY _ (s'+3)]at e;exact absurd e.symm (M6 Hb hs)
 ·rw[kO _ _ hs,kO _ _ pz]at e;rcases M7 hs pz e with⟨e1,rfl⟩|⟨e1,e2⟩
  ·rw[inj e1];exact⟨rfl,rfl⟩
  ·exfalso;rw[bs2 _ _ hs]at f m;rw[bs2 _ _ pz]at f' m';obtain⟨b1,b2⟩:=jR hb hr hs m;obtain⟨c1,c2⟩:=jR hb Ah pz m';have r1:beyond r s=r':=kC (aL hb _ b1) (aL hb r' Ah) (b2.trans e1.symm);have r2:beyond r' s'=r:=by
    refine kC (aL hb _ c1) (aL hb r hr) ?_;rw[c2,e1,e2];have cs:s=0\/s=1\/s=2\/s=3:=Hb
    rcases cs with rfl|rfl|rfl|rfl<;>exact Prod.ext (by simp[aK]) (by simp[aK])
   rw[r1]at f;rw[r2]at f';have a1:tr r' (s+2)=tr r' s':=by unfold tr;lia
   have a2:tr r (s'+2)=tr r s:=by unfold tr;lia
   rw[a1]at f;rw[a2]at f';lia
include hb in
theorem yP(hn:l.Nodup):(Ff l).piecesOfLine.Nodup:=by
 rw[wU];have tn:(Ff l).tris.Nodup:=rJ ((fZ hn hb).imp λ{a b} h e=>by lia);have key:∀t∈(Ff l).tris,∀t'∈(Ff l).tris,∀k,k<3->∀k',k'<3->okK (Ff l) t k=true->okK (Ff l) t' k'=true->pcK (Ff l) t k=pcK (Ff l) t' k'->t=t'/\k=k':=λt ht t' px k hk k' si o o' e=>by refine wR hb ht px hk si o o' ?_;rw[<- yJ,<- yJ (Fv t' k')];have e1:=congrArg Piece.p e;have e2:=congrArg Piece.q e;unfold sm;rw[show(bA (Fv t k)).1=_ from e1,show(bA (Fv t k)).2=_ from e2];rfl
 unfold List.Nodup;rw[List.pairwise_flatMap];have some_of:∀{t k:Nat}{x:Piece},(if okK (Ff l) t k=true then some (pcK (Ff l) t k)else none)=some x->okK (Ff l) t k=true/\x=pcK (Ff l) t k:=λ{t k x} h=>by
  split at h
  ·exact⟨by assumption,(Option.some.inj h).symm⟩
  ·cases h
 refine⟨λt ht=>?_,?_⟩
 ·rw[List.pairwise_filterMap];refine List.Pairwise.imp_of_mem (λ{a b} ha rn ne=>?_) (List.nodup_range (n:=3));intro x hx y hy e;obtain⟨o1,rfl⟩:=some_of hx;obtain⟨o2,rfl⟩:=some_of hy;exact ne (key t ht t ht a (fj.mp ha) b (fj.mp rn) o1 o2 e).2
 ·refine List.Pairwise.imp_of_mem (λ{a b} ha rn ne=>?_) tn;intro x hx y hy e;obtain⟨k,hk,hx⟩:=ig.mp hx;obtain⟨k',si,hy⟩:=ig.mp hy;obtain⟨o1,rfl⟩:=some_of hx;obtain⟨o2,rfl⟩:=some_of hy;exact ne (key a ha b rn k (fj.mp hk) k' (fj.mp si) o1 o2 e).1
end
theorem AI(p:Pl){s:Nat}(hs:s<4):dif (bA (cG p s)).1 (bA (cG p s)).2=(if s%2=1 then(1,1)else(-1,1)):=by
 obtain⟨a,b⟩:=p;have cs:s=0\/s=1\/s=2\/s=3:=Hb
 rcases cs with rfl|rfl|rfl|rfl<;>simp[bA,cG,beforeT,dbl,aE,dif]<;>(try split)<;>simp<;>lia
theorem AJ(p:Pl){s:Nat}(hs:s<4):dif (bA (dF p s)).1 (bA (dF p s)).2=(if s%2=0 then(2,0)else(0,2)):=by
 obtain⟨a,b⟩:=p;have cs:s=0\/s=1\/s=2\/s=3:=Hb
 rcases cs with rfl|rfl|rfl|rfl<;>simp[bA,dF,beforeT,dbl,aE,dif]<;>(try split)<;>simp<;>lia
section
variable {l:Fn} (hb:Hh l) (jt:l.length<=256) {Ns:List (List T3)} (R:Numbering (Fc l) (Fd (Fc l)).length Ns)
include hb jt R
theorem xQ{t u:Nat}(ht:t∈(Ff l).tris)(hu:u∈(Ff l).tris)(h:u∈Gg t)(ne:(Ff l).face t≠(Ff l).face u):(Ff l).faces t≠(Ff l).faces u:=λe=>ne (sN hb jt R ht hu h e)
theorem gD{t k:Nat}(ht:t∈(Ff l).tris)(hk:k<3)(hu:bsK t k∈(Ff l).tris)(ne:(Ff l).face t≠(Ff l).face (bsK t k)):
  dif (bA (Fv t k)).1 (bA (Fv t k)).2=stW ((Ff l).faces t) ((Ff l).faces (bsK t k))/\(Ff l).kind t (bsK t k)=(Ff l).kind (bsK t k) t:=by
 have fn:=xQ hb jt R ht hu (rB t k hk) ne;have hr:t/4∈Fc l:=bE.mp ht;have hs:t%4<4:=Hb
 rw[gB t]at hu fn ⊢;clear ht ne;generalize t/4=r at*;generalize t%4=s at*;have ck:k=0\/k=1\/k=2:=Hb
 rcases ck with rfl|rfl|rfl
 ·rw[bs0 _ _ hs]at fn ⊢;rw[jF _ _ hs,AI _ hs];obtain⟨k1,k2,_,_,_,w1,w2⟩:=dO hb hr hs fn;exact⟨w1.symm,k1.trans k2.symm⟩
 ·rw[bs1 _ _ hs]at fn ⊢;rw[kP _ _ hs,<- cY,AI _ Hb];have e1:tr r (s+3)=tr r ((s+3)%4):=by unfold tr;lia
  have e2:tr r s=tr r ((s+3)%4+1):=by unfold tr;lia
  rw[e1,e2]at fn ⊢;obtain⟨k1,k2,_,_,_,w1,w2⟩:=dO hb hr (s:=(s+3)%4) Hb fn.symm;exact⟨w2.symm,k2.trans k1.symm⟩
 ·rw[bs2 _ _ hs]at fn hu ⊢;obtain⟨b1,b2⟩:=jR hb hr hs hu;obtain⟨f1,f2⟩:=zM hb hr b1 hs b2 fn;rw[kO _ _ hs,AJ _ hs,f1,f2];refine⟨?_,?_⟩
  ·unfold stW;have e1:s=((s+2)%4+2)%4:=Hb
   have e2:(s+2)%4%2=s%2:=Hb
   rw[ah e1,e2]
  ·unfold Top.kind;rw[f1,f2,ah Hb,ah rfl]
theorem CN{t k:Nat}(ht:t∈(Ff l).tris)(hk:k<3)(o:okK (Ff l) t k=true)(yj:¬((bA (Fv t k)).1.1%2=0/\(bA (Fv t k)).1.2%2=0)):
  ∃t' k',t'∈(Ff l).tris/\k'<3/\okK (Ff l) t' k'=true/\(Ff l).face t'=(Ff l).face t/\(Ff l).face (bsK t' k')=(Ff l).face (bsK t k)/\(Ff l).kind t' (bsK t' k')=(Ff l).kind t (bsK t k)/\(bA (Fv t' k')).2=(bA (Fv t k)).1:=by
 obtain⟨hu,f⟩:=nR hb o;have fn:=xQ hb jt R ht hu (rB t k hk) Hb;have hr:t/4∈Fc l:=bE.mp ht;have hs:t%4<4:=Hb
 rw[gB t]at hu fn f yj ⊢;clear ht o;generalize t/4=r at*;generalize t%4=s at*;have mid:∀z,z<4->¬((bA (cG (hP r) z)).1.1%2=0/\(bA (cG (hP r) z)).1.2%2=0)->(bA (cG (hP r) ((z+2)%4))).2=(bA (cG (hP r) z)).1:=by
  intro z hz;obtain⟨a,b⟩:=hP r;have cz:z=0\/z=1\/z=2\/z=3:=Hb
  rcases cz with rfl|rfl|rfl|rfl
  ·intro h;exfalso;apply h;simp[bA,cG,beforeT,dbl,aE];(try split)<;>simp<;>lia
  ·intro _;simp[bA,cG,beforeT,dbl,aE];rw[af Hb,ah Hb]
  ·intro _;simp[bA,cG,beforeT,dbl,aE];rw[af Hb,ah Hb]
  ·intro h;exfalso;apply h;simp[bA,cG,beforeT,dbl,aE];(try split)<;>simp<;>lia
 have tj:∀a b,(Ff l).faces (tr r a)=(Ff l).faces (tr r b)->(a%4=(b+1)%4\/a%4=(b+3)%4)->(Ff l).face (tr r a)=(Ff l).face (tr r b):=λa b e c=>by
  refine(sN hb jt R (rK hb hr) (rK hb hr) ?_ e.symm).symm;unfold Gg;rw[eO,jS];have e1:∀x,tr r x=4*r+x%4:=λx=>rfl
  rw[e1 a];simp only[aq,ej,or_false];lia
 have ck:k=0\/k=1\/k=2:=Hb
 rcases ck with rfl|rfl|rfl
 ·rw[bs0 _ _ hs]at fn f ⊢;rw[jF _ _ hs]at yj ⊢;obtain⟨k1,k2,bb,g1,g2,_,_⟩:=dO hb hr hs fn;have e3:tr r (s+3)=tr r ((s+3)%4):=by unfold tr;lia
  have e2:bsK (tr r (s+3)) 1=tr r (s+2):=by rw[e3,bs1 _ _ Hb];unfold tr;lia
  have n1:=tj (s+3) s g1 (.inr Hb);have n2:=tj (s+2) (s+1) g2 (.inl Hb);refine⟨tr r (s+3),1,rK hb hr,Hd,uF hb (by rw[e2];exact rK hb hr) (by rw[e2,n1,n2];exact f),n1,by rw[e2,n2],?_,?_⟩
  ·rw[e2,k1];have q1:tr r (s+2)=tr r ((s+2)%4):=by unfold tr;lia
   have q2:tr r (s+3)=tr r ((s+2)%4+1):=by unfold tr;lia
   rw[q1,q2];have:=(dO hb hr (s:=(s+2)%4) Hb (by rw[<- q1,<- q2,g1,g2];exact fn.symm)).2.1;rw[this,eQ,bb]
  ·rw[e3,kP _ _ Hb,<- cY,show((s+3)%4+3)%4=(s+2)%4 by lia];exact mid s hs yj
 ·rw[bs1 _ _ hs]at fn f ⊢;rw[kP _ _ hs,<- cY]at yj ⊢;have e1:tr r (s+3)=tr r ((s+3)%4):=by unfold tr;lia
  have e2:tr r s=tr r ((s+3)%4+1):=by unfold tr;lia
  rw[e1,e2]at fn f ⊢;have hz:(s+3)%4<4:=Hb
  generalize (s+3)%4=z at*;obtain⟨k1,k2,bb,g1,g2,_,_⟩:=dO hb hr hz fn.symm;have e3:tr r (z+2)=tr r ((z+2)%4):=by unfold tr;lia
  have e4:bsK (tr r (z+2)) 0=tr r (z+3):=by rw[e3,bs0 _ _ Hb];unfold tr;lia
  have n1:=tj (z+3) z g1 (.inr Hb);have n2:=tj (z+2) (z+1) g2 (.inl Hb);refine⟨tr r (z+2),0,rK hb hr,Hd,uF hb (by rw[e4];exact rK hb hr) (by rw[e4,n1,n2];exact f),n2,by rw[e4,n1],?_,?_⟩
  ·rw[e4,k2];have q2:tr r (z+3)=tr r ((z+2)%4+1):=by unfold tr;lia
   rw[e3,q2];have:=(dO hb hr (s:=(z+2)%4) Hb (by rw[<- e3,<- q2,g1,g2];exact fn)).1;rw[this,eQ,bb]
  ·rw[e3,jF _ _ Hb];exact mid z hz yj
 ·exfalso;apply yj;rw[kO _ _ hs];unfold bA dF dbl;split<;>dsimp only<;>lia
end
abbrev pcs(l:Fn):List Piece:=(Ff l).piecesOfLine
abbrev P5:=Int×Int×Int×Pl×Pl
def pi5(x:Piece):P5:=((x.a:Int),(x.b:Int),(x.kind:Int),x.p,dif x.p x.q)
theorem pT{p q:Pl}:(p.1+(dif p q).1,p.2+(dif p q).2)=q:=Prod.ext (show p.1+(q.1 - p.1)=q.1 by lia) (show p.2+(q.2 - p.2)=q.2 by lia)
theorem MF{x y:Piece}(e:pi5 x=pi5 y):x=y:=by
 have e1:=congrArg (λz:P5=>z.1) e;have e2:=congrArg (λz:P5=>z.2.1) e;have e3:=congrArg (λz:P5=>z.2.2.1) e;have e4:=congrArg (λz:P5=>z.2.2.2.1) e;have e5:=congrArg (λz:P5=>z.2.2.2.2) e;obtain⟨k,a,b,p,q⟩:=x;obtain⟨k',a',b',p',q'⟩:=y;simp only[pi5]at e1 e2 e3 e4 e5;subst e4;have e6:q=q':=by have h1:=congrArg Prod.fst e5;have h2:=congrArg Prod.snd e5;simp only[dif]at h1 h2;exact Prod.ext Hb Hb
 subst e6;have:a=a':=Hb
 have:b=b':=Hb
 have:k=k':=Hb
 subst a b k;rfl
noncomputable def pcN(T:Top)(t k:Nat):P5:=(min (T.face t:Int) (T.face (bsK t k)),max (T.face t:Int) (T.face (bsK t k)),(T.kind t (bsK t k):Int),(bA (Fv t k)).1,dif (bA (Fv t k)).1 (bA (Fv t k)).2)
theorem JR{e:Pl×Pl}(h:e.1≠e.2):bA (e.2,e.1)=bA e:=by
 have b:beforeT e.2 e.1=!beforeT e.1 e.2:=by
  rw[df];have h':e.1.1≠e.2.1\/e.1.2≠e.2.2:=by
   by_cases c:e.1.1=e.2.1
   ·exact .inr λd=>h (Prod.ext c d)
   ·exact .inl c
  simp only[beforeT,gx,bw,decide_eq_true_eq,beq_iff_eq,ie,Bool.or_eq_false_iff,Bool.and_eq_false_iff,decide_eq_false_iff_not];simp only[beq_eq_false_iff_ne];lia
 unfold bA;dsimp only;rw[b];cases beforeT e.1 e.2<;>simp
section
variable {l:Fn} (hb:Hh l) (jt:l.length<=256) {Ns:List (List T3)} (R:Numbering (Fc l) (Fd (Fc l)).length Ns)
include hb jt R
theorem A9(x:P5):(∃t∈(Ff l).tris,∃k,(k=0\/k=2)/\bsK t k∈(Ff l).tris/\(Ff l).face t≠(Ff l).face (bsK t k)/\x=pcN (Ff l) t k)↔∃y∈(pcs l),x=pi5 y:=by
 have less:∀{t k:Nat},(Ff l).face t<(Ff l).face (bsK t k)->pcN (Ff l) t k=pi5 (pcK (Ff l) t k):=λ{t k} h=>by unfold pcN pi5 pcK;dsimp only;rw[show min ((Ff l).face t:Int) ((Ff l).face (bsK t k))=(Ff l).face t by lia,show max ((Ff l).face t:Int) ((Ff l).face (bsK t k))=(Ff l).face (bsK t k) by lia]
 have zh:∀{t u k k':Nat},bsK t k=u->bsK u k'=t->(Ff l).kind t u=(Ff l).kind u t->bA (Fv t k)=bA (Fv u k')->pcN (Ff l) t k=pcN (Ff l) u k':=λ{t u k k'} e1 e2 e3 e4=>by unfold pcN;rw[e1,e2,e3,e4,min_comm,Int.max_comm]
 constructor
 ·rintro⟨t,ht,k,hk,hu,ne,rfl⟩;by_cases c:(Ff l).face t<(Ff l).face (bsK t k)
  ·exact⟨_,bZ.mpr ⟨t,ht,k,Hb,uF hb hu c,rfl⟩,less c⟩
  ·have c:(Ff l).face (bsK t k)<(Ff l).face t:=Hb
   have hr:t/4∈Fc l:=bE.mp ht;have hs:t%4<4:=Hb
   obtain⟨_,ks⟩:=gD hb jt R ht Hb hu ne;rcases hk with rfl|rfl
   ·have e2:bsK (bsK t 0) 1=t:=by rw[gB t,bs0 _ _ hs,show tr (t/4) (t%4+1)=tr (t/4) ((t%4+1)%4) by unfold tr;lia,bs1 _ _ Hb];unfold tr;lia
    have e4:bA (Fv t 0)=bA (Fv (bsK t 0) 1):=by rw[gB t,jF _ _ hs,bs0 _ _ hs,show tr (t/4) (t%4+1)=tr (t/4) ((t%4+1)%4) by unfold tr;lia,kP _ _ Hb,<- cY _ ((t%4+1)%4+3),show((t%4+1)%4+3)%4=t%4 by lia]
    refine⟨_,bZ.mpr ⟨bsK t 0,hu,1,Hd,uF hb (by rw[e2];exact ht) (by rw[e2];exact c),rfl⟩,?_⟩;rw[<- less (by rw[e2];exact c)];exact zh rfl e2 ks e4
   ·obtain⟨b1,b2⟩:=jR hb hr hs (by rw[<- bs2 _ _ hs,<- gB];exact hu);have eu:bsK t 2=tr (beyond (t/4) (t%4)) ((t%4+2)%4):=by have:=bs2 (t/4) (t%4) hs;rw[<- gB]at this;rw[this];unfold tr;lia
    have e2:bsK (bsK t 2) 2=t:=by
     rw[eu,bs2 _ _ Hb];have hm:tr (beyond (beyond (t/4) (t%4)) ((t%4+2)%4)) ((t%4+2)%4+2)=t:=by
      have:=sM (aL hb) ht (rB t 2 Hd);have r2:beyond (beyond (t/4) (t%4)) ((t%4+2)%4)=t/4:=by
       have okr:=aL hb _ hr;obtain⟨i,j,hi,hj,e⟩:=okr;have hw:131<=t/4:=by rw[e];unfold raw W;lia
       unfold beyond W;have cs:t%4=0\/t%4=1\/t%4=2\/t%4=3:=Hb
       rcases cs with q|q|q|q<;>rw[q]<;>simp<;>lia
      rw[r2];unfold tr;lia
     exact hm
    have e4:bA (Fv t 2)=bA (Fv (bsK t 2) 2):=by
     rw[eu,kO _ _ Hb,b2];have:=kO (t/4) (t%4) hs;rw[<- gB]at this;rw[this];have ne2:(dF (hP (t/4)) (t%4)).1≠(dF (hP (t/4)) (t%4)).2:=by intro h;have:=AJ (hP (t/4)) hs;unfold bA dif at this;split at this<;>simp only[h]at this<;>split at this<;>simp at this
     rw[<- JR ne2];congr 1;have em:dF (aK (hP (t/4)) (t%4)) ((t%4+2)%4)=(dbl (aE (aK (hP (t/4)) (t%4)) (t%4+2)),dbl (aE (aK (hP (t/4)) (t%4)) (t%4+3))):=by unfold dF;rw[<- eU _ ((t%4+2)%4+1),show((t%4+2)%4+1)%4=(t%4+3)%4 by lia,eU _ (t%4+3),eU _ (t%4+2)]
     rw[em];have sw:∀(p:Pl)(s:Nat),s<4->(dbl (aE (aK p s) (s+2)),dbl (aE (aK p s) (s+3)))=(dbl (aE p (s+1)),dbl (aE p s)):=λp s hs=>by
      have cs:s=0\/s=1\/s=2\/s=3:=Hb
      rcases cs with rfl|rfl|rfl|rfl<;>simp[aE,aK,dbl]
     exact(sw _ _ hs).symm
    refine⟨_,bZ.mpr ⟨bsK t 2,hu,2,Hd,uF hb (by rw[e2];exact ht) (by rw[e2];exact c),rfl⟩,?_⟩;rw[<- less (by rw[e2];exact c)];exact zh rfl e2 ks e4
 ·rintro⟨y,hy,rfl⟩;obtain⟨t,ht,k,hk,o,rfl⟩:=bZ.mp hy;obtain⟨hu,f⟩:=nR hb o;have hs:t%4<4:=Hb
  have ck:k=0\/k=1\/k=2:=Hb
  rcases ck with rfl|rfl|rfl
  ·exact⟨t,ht,0,.inl rfl,hu,Hb,(less f).symm⟩
  ·have e2:bsK (bsK t 1) 0=t:=by rw[gB t,bs1 _ _ hs,show tr (t/4) (t%4+3)=tr (t/4) ((t%4+3)%4) by unfold tr;lia,bs0 _ _ Hb];unfold tr;lia
   have e4:bA (Fv t 1)=bA (Fv (bsK t 1) 0):=by rw[gB t,kP _ _ hs,bs1 _ _ hs,show tr (t/4) (t%4+3)=tr (t/4) ((t%4+3)%4) by unfold tr;lia,jF _ _ Hb,<- cY _ (t%4+3)]
   obtain⟨_,ks⟩:=gD hb jt R ht (k:=1) Hb hu Hb;refine⟨bsK t 1,hu,0,.inl rfl,by rw[e2];exact ht,by rw[e2];lia,?_⟩;rw[<- less f];exact zh rfl e2 ks e4
  ·exact⟨t,ht,2,.inr rfl,hu,Hb,(less f).symm⟩
theorem j8{x y:Piece}(hx:x∈(pcs l))(hy:y∈(pcs l))(ea:x.a=y.a)(eb:x.b=y.b):dif x.p x.q=dif y.p y.q:=by
 obtain⟨t,ht,k,hk,o,rfl⟩:=bZ.mp hx;obtain⟨t',px,k',si,o',rfl⟩:=bZ.mp hy;obtain⟨hu,f⟩:=nR hb o;obtain⟨rg,f'⟩:=nR hb o';have s1:=(gD hb jt R ht hk hu Hb).1;have s2:=(gD hb jt R px si rg Hb).1;show dif (bA (Fv t k)).1 (bA (Fv t k)).2=dif (bA (Fv t' k')).1 (bA (Fv t' k')).2
 rw[s1,s2,sG hb jt R ht px ea,sG hb jt R hu rg eb]
theorem jG{x y:Piece}(hx:x∈(pcs l))(hy:y∈(pcs l)):x.like y=true↔y.kind=x.kind/\y.a=x.a/\y.b=x.b:=by
 unfold Piece.like;simp only[bw,beq_iff_eq];constructor
 ·rintro⟨h1,h2,h3,_⟩;exact⟨h1,h2,h3⟩
 ·rintro⟨h1,h2,h3⟩;refine⟨h1,h2,h3,?_⟩;have:=j8 hb jt R hx hy h2.symm h3.symm;have e1:x.q.1 - x.p.1=y.q.1 - y.p.1:=congrArg Prod.fst this;have e2:x.q.2 - x.p.2=y.q.2 - y.p.2:=congrArg Prod.snd this;unfold Piece.way;rw[e1,e2]
omit jt R in
theorem GF{x y:Piece}(hx:x∈(pcs l))(hy:y∈(pcs l))(ep:x.p=y.p)(eq:x.q=y.q):x=y:=by
 obtain⟨t,ht,k,hk,o,rfl⟩:=bZ.mp hx;obtain⟨t',px,k',si,o',rfl⟩:=bZ.mp hy;obtain⟨rfl,rfl⟩:=wR hb ht px hk si o o' (by
  rw[<- yJ,<- yJ (Fv t' k')];unfold sm;rw[show(bA (Fv t k)).1=_ from ep,show(bA (Fv t k)).2=_ from eq];rfl)
 rfl
theorem M5{x:Piece}(hx:x∈(pcs l)):(0<(dif x.p x.q).2\/((dif x.p x.q).2=0/\0<(dif x.p x.q).1)):=by
 obtain⟨t,ht,k,hk,o,rfl⟩:=bZ.mp hx;obtain⟨hu,f⟩:=nR hb o;have s1:=(gD hb jt R ht hk hu Hb).1;show 0<(dif (bA (Fv t k)).1 (bA (Fv t k)).2).2\/((dif (bA (Fv t k)).1 (bA (Fv t k)).2).2=0/\0<(dif (bA (Fv t k)).1 (bA (Fv t k)).2).1)
 rw[s1];unfold stW;split
 ·split<;>simp
 ·split<;>split<;>simp
theorem CF{x:Piece}(hx:x∈(pcs l))(h:∀y∈(pcs l),¬(x.like y=true/\y.q=x.p)):x.p.1%2=0/\x.p.2%2=0:=by apply Classical.byContradiction;intro yj;have hx0:=hx;obtain⟨t,ht,k,hk,o,rfl⟩:=bZ.mp hx;obtain⟨t',k',px,si,o',f1,f2,f3,f4⟩:=CN hb jt R ht hk o yj;have hy:pcK (Ff l) t' k'∈(pcs l):=bZ.mpr ⟨t',px,k',si,o',rfl⟩;exact h _ hy ⟨(jG hb jt R hx0 hy).mpr ⟨f3,f1,f2⟩,f4⟩
end
def d9(p v:Pl):Pl:=(p.1+v.1,p.2+v.2)
def at5(x:P5)(p:Pl):P5:=(x.1,x.2.1,x.2.2.1,p,x.2.2.2.2)
def eJ(x:P5):P5:=at5 x (x.2.2.2.1.1 - x.2.2.2.2.1,x.2.2.2.1.2 - x.2.2.2.2.2)
noncomputable def go5(K:List P5)(x:P5):Nat->Pl->Pl
 |0,e=>e
 |f+1,e=>if at5 x e∈K then go5 K x f (d9 e x.2.2.2.2)else e
def iZ(n:Nat)(v:Pl):Pl:=(n*v.1,n*v.2)
theorem FA(K:List P5)(x:P5):∀(n f:Nat)(e:Pl),(∀m,m<n->at5 x (d9 e (iZ m x.2.2.2.2))∈K)->at5 x (d9 e (iZ n x.2.2.2.2))∉K->n<=f->go5 K x f e=d9 e (iZ n x.2.2.2.2)
 |0,f,e,_,h,_=>by
  have z:d9 e (iZ 0 x.2.2.2.2)=e:=by simp[d9,iZ]
  rw[z]at h ⊢;cases f with
  |zero=>rfl
  |succ f=>show(if _ then _ else _)=_;rw[af h]
 |n+1,f,e,h1,h2,hf=>by
  have z:d9 e (iZ 0 x.2.2.2.2)=e:=by simp[d9,iZ]
  cases f with
  |zero=>lia
  |succ f=>
   have h0:=h1 0 Hb;rw[z]at h0;show(if _ then _ else _)=_
   rw[ah h0];have sh:∀m:Nat,d9 (d9 e x.2.2.2.2) (iZ m x.2.2.2.2)=d9 e (iZ (m+1) x.2.2.2.2):=λm=>by
    unfold d9 iZ;refine Prod.ext ?_ ?_
    ·show e.1+x.2.2.2.2.1+m*x.2.2.2.2.1=e.1+((m+1:Nat):Int)*x.2.2.2.2.1
     rw[natCast_add,add_mul];lia
    ·show e.2+x.2.2.2.2.2+m*x.2.2.2.2.2=e.2+((m+1:Nat):Int)*x.2.2.2.2.2
     rw[natCast_add,add_mul];lia
   rw[FA K x n f (d9 e x.2.2.2.2) (λm hm=>by rw[sh];exact h1 (m+1) Hb) (by rw[sh];exact h2) Hb,sh]
noncomputable def tX(K:List P5)(x:P5):List Int:=[x.2.2.1,x.1,x.2.1,x.2.2.2.1.1/2,x.2.2.2.1.2/2,(go5 K x K.length (d9 x.2.2.2.1 x.2.2.2.2)).1/2,(go5 K x K.length (d9 x.2.2.2.1 x.2.2.2.2)).2/2]
noncomputable def F2(r z:List Int):Prop:=r.getD 1 0<z.getD 1 0\/(r.getD 1 0=z.getD 1 0/\(r.getD 2 0<z.getD 2 0\/(r.getD 2 0=z.getD 2 0/\(r.getD 4 0<z.getD 4 0\/(r.getD 4 0=z.getD 4 0/\r.getD 3 0<=z.getD 3 0)))))
noncomputable def gN(x y:Line):Bool:=decide (x.a<y.a\/(x.a=y.a/\(x.b<y.b\/(x.b=y.b/\(x.from_.2<y.from_.2\/(x.from_.2=y.from_.2/\x.from_.1<=y.from_.1))))))
theorem yW(a b c:Line)(h1:gN a b=true)(h2:gN b c=true):gN a c=true:=by unfold gN at*;rw[decide_eq_true_eq]at*;lia
theorem yX(a b:Line):(gN a b||gN b a)=true:=by unfold gN;rw[gx,decide_eq_true_eq,decide_eq_true_eq];lia
section
variable {l:Fn} (hb:Hh l) (jt:l.length<=256) {Ns:List (List T3)} (R:Numbering (Fc l) (Fd (Fc l)).length Ns) {K:List P5} (hK:∀x,x∈K↔∃y∈(pcs l),x=pi5 y)
include hb jt R hK
theorem zJ{x:Piece}(hx:x∈(pcs l))(e:Pl):at5 (pi5 x) e∈K↔∃y∈(pcs l),x.like y=true/\y.p=e:=by
 rw[hK];constructor
 ·rintro⟨y,hy,h⟩;have e1:(x.a:Int)=y.a:=congrArg (λz:P5=>z.1) h;have e2:(x.b:Int)=y.b:=congrArg (λz:P5=>z.2.1) h;have e3:(x.kind:Int)=y.kind:=congrArg (λz:P5=>z.2.2.1) h;have e4:e=y.p:=congrArg (λz:P5=>z.2.2.2.1) h;exact⟨y,hy,(jG hb jt R hx hy).mpr ⟨Hb,Hb,Hb⟩,e4.symm⟩
 ·rintro⟨y,hy,h,rfl⟩;obtain⟨h1,h2,h3⟩:=(jG hb jt R hx hy).mp h;refine⟨y,hy,?_⟩;unfold at5 pi5;dsimp only;rw[h1,h2,h3,j8 hb jt R hx hy h2.symm h3.symm]
theorem vF{x:Piece}(hx:x∈(pcs l)):eJ (pi5 x)∈K↔∃y∈(pcs l),x.like y=true/\y.q=x.p:=by
 unfold eJ;rw[zJ hb jt R hK hx];constructor
 ·rintro⟨y,hy,h,e⟩;obtain⟨h1,h2,h3⟩:=(jG hb jt R hx hy).mp h;refine⟨y,hy,h,?_⟩;have s:=j8 hb jt R hx hy h2.symm h3.symm;rw[<- pT (p:=y.p) (q:=y.q),<- s,e];unfold pi5;exact Prod.ext (by dsimp only;lia) (by dsimp only;lia)
 ·rintro⟨y,hy,h,e⟩;obtain⟨h1,h2,h3⟩:=(jG hb jt R hx hy).mp h;refine⟨y,hy,h,?_⟩;have s:=j8 hb jt R hx hy h2.symm h3.symm;unfold pi5;dsimp only;rw[s,<- e];unfold dif;exact Prod.ext (by dsimp only;lia) (by dsimp only;lia)
theorem F9{x:Piece}(hx:x∈(pcs l)):∀(f:Nat)(e:Pl),goOn (pcs l) x f e=go5 K (pi5 x) f e
 |0,e=>rfl
 |f+1,e=>by
  show(match(pcs l).find? λ(y:Piece)=>x.like y&& y.p==e with
   |some y=>goOn (pcs l) x f y.q
   |none=>e)=if at5 (pi5 x) e∈K then go5 K (pi5 x) f (d9 e (dif x.p x.q))else e
  cases h:(pcs l).find? λ(y:Piece)=>x.like y&& y.p==e with
  |none=>rw[af];rw[zJ hb jt R hK hx];rintro⟨y,hy,h1,h2⟩;have:=List.find?_eq_none.mp h y hy;simp[h1,h2]at this
  |some y=>
   have hy:=jl h;have hp:=List.find?_some h;rw[bw,beq_iff_eq]at hp;obtain⟨h1,h2,h3⟩:=(jG hb jt R hx hy).mp hp.1;rw[ah ((zJ hb jt R hK hx e).mpr ⟨y,hy,hp.1,hp.2⟩)];show goOn (pcs l) x f y.q=_
   rw[F9 hx f y.q];congr 1;rw[j8 hb jt R hx hy h2.symm h3.symm,<- hp.2];exact pT.symm
theorem GQ(hn:l.Nodup)(nd:K.Nodup){out:List (List Int)}(hp:out.Perm ((K.filter λx=>!decide (eJ x∈K)).map (tX K)))(hs:out.Pairwise F2):out=(Ff l).lines.map λx=>asI x.tell:=by
 have pn:=yP hb hn;have pK:K.Perm ((pcs l).map pi5):=ES nd (d5 pn λx _ y _ e=>MF e) λx=>by rw[hK,au];exact⟨λ⟨y,hy,e⟩=>⟨y,hy,e.symm⟩,λ⟨y,hy,e⟩=>⟨y,hy,e.symm⟩⟩
 have lK:K.length=(pcs l).length:=by rw[pK.length_eq,ai]
 let st:Piece->Bool:=λx=>!((pcs l).any λ(y:Piece)=>x.like y&& y.q==x.p)
 let mk:Piece->Line:=λx=>⟨x.kind,x.a,x.b,x.p,goOn (pcs l) x (pcs l).length x.q⟩
 have eL:(Ff l).lines=(((pcs l).filter st).map mk).mergeSort λ(x y:Line)=>x==y||x.before y:=rfl
 have st_iff:∀x∈(pcs l),(st x=true↔eJ (pi5 x)∉K):=λx hx=>by
  rw[vF hb jt R hK hx];show(!_)=true↔ _
  rw[ie,<- Bool.not_eq_true,fe];simp only[bw,beq_iff_eq]
 have yd:∀x∈(pcs l),st x=true->x.p.1%2=0/\x.p.2%2=0:=λx hx h=>CF hb jt R hx λy hy q=>((st_iff x hx).mp h) ((vF hb jt R hK hx).mpr ⟨y,hy,q⟩)
 have one:∀x∈(pcs l),∀y∈(pcs l),x.a=y.a->x.b=y.b->x.p=y.p->x=y:=λx hx y hy ea ebb ep=>by refine GF hb hx hy ep ?_;have s:=j8 hb jt R hx hy ea ebb;rw[<- pT (p:=x.p) (q:=x.q),<- pT (p:=y.p) (q:=y.q),s,ep]
 have J8:∀x∈(pcs l),tX K (pi5 x)=asI (mk x).tell:=λx hx=>by
  have e1:d9 (pi5 x).2.2.2.1 (pi5 x).2.2.2.2=x.q:=pT;unfold tX;rw[e1,lK,<- F9 hb jt R hK hx];have nn:∀y∈(pcs l),(0<=y.p.1/\0<=y.p.2)/\0<=y.q.1/\0<=y.q.2:=λy hy=>by
   obtain⟨t,ht,k,hk,o,rfl⟩:=bZ.mp hy;have hr:t/4∈Fc l:=bE.mp ht;have b:=BC hb (au.mpr ⟨t/4,hr,rfl⟩);have key:∀e:Pl×Pl,((0<=e.1.1/\0<=e.1.2)/\0<=e.2.1/\0<=e.2.2)->((0<=(bA e).1.1/\0<=(bA e).1.2)/\0<=(bA e).2.1/\0<=(bA e).2.2):=λe h=>by
    unfold bA;split
    ·exact h
    ·exact⟨h.2,h.1⟩
   show(0<=(bA (Fv t k)).1.1/\0<=(bA (Fv t k)).1.2)/\0<=(bA (Fv t k)).2.1/\0<=(bA (Fv t k)).2.2
   apply key;have cb:∀c,0<=(aE (hP (t/4)) c).1/\0<=(aE (hP (t/4)) c).2:=λc=>⟨(nI b c).1,(nI b c).2.2⟩
   have hs:t%4<4:=Hb
   rw[gB t];have ck:k=0\/k=1\/k=2:=Hb
   rcases ck with rfl|rfl|rfl
   ·rw[jF _ _ hs];have:=cb (t%4+1);unfold cG dbl;dsimp only;lia
   ·rw[kP _ _ hs];have:=cb (t%4+3+1);unfold cG dbl;dsimp only;lia
   ·rw[kO _ _ hs];have h1:=cb (t%4);have h2:=cb (t%4+1);unfold dF dbl;dsimp only;lia
  have ge:∀(f:Nat)(e:Pl),0<=e.1/\0<=e.2->0<=(goOn (pcs l) x f e).1/\0<=(goOn (pcs l) x f e).2:=λf=>by
   induction f with
   |zero=>exact λe h=>h
   |succ f ih=>
    intro e h;show 0<=(match(pcs l).find? λ(y:Piece)=>x.like y&& y.p==e with
     |some y=>goOn (pcs l) x f y.q
     |none=>e).1/\0<=(match(pcs l).find? λ(y:Piece)=>x.like y&& y.p==e with
     |some y=>goOn (pcs l) x f y.q
     |none=>e).2
    cases h2:(pcs l).find? λ(y:Piece)=>x.like y&& y.p==e with
    |none=>exact h
    |some y=>exact ih y.q (nn y (jl h2)).2
  obtain⟨⟨n1,n2⟩,n3⟩:=nn x hx;obtain⟨g1,g2⟩:=ge (pcs l).length x.q n3;show _=[(x.kind:Int),(x.a:Int),(x.b:Int),((x.p.1/2).toNat:Int),((x.p.2/2).toNat:Int),(((goOn (pcs l) x (pcs l).length x.q).1/2).toNat:Int),(((goOn (pcs l) x (pcs l).length x.q).2/2).toNat:Int)]
  rw[dq Hb,dq Hb,dq Hb,dq Hb];rfl
 have le_eq:∀x∈((pcs l).filter st).map mk,∀y∈((pcs l).filter st).map mk,((x==y)||x.before y)=gN x y:=λx hx y hy=>by
  obtain⟨u,hu,rfl⟩:=au.mp hx;obtain⟨v,hv,rfl⟩:=au.mp hy;have hu:=(bu.mp hu).1;have hv:=(bu.mp hv).1;have t1:=one u hu v hv;rw[df];unfold Line.before beforeT gN;simp only[gx,bw,decide_eq_true_eq,beq_iff_eq];show mk u=mk v\/(u.a<v.a\/(u.a=v.a/\(u.b<v.b\/(u.b=v.b/\(u.p.2<v.p.2\/(u.p.2=v.p.2/\u.p.1<v.p.1))))))↔(u.a<v.a\/(u.a=v.a/\(u.b<v.b\/(u.b=v.b/\(u.p.2<v.p.2\/(u.p.2=v.p.2/\u.p.1<=v.p.1))))))
  constructor
  ·rintro(e|h)
   ·have e1:u.a=v.a:=congrArg Line.a e;have e2:u.b=v.b:=congrArg Line.b e;have e3:u.p=v.p:=congrArg Line.from_ e;rw[e3];lia
   ·lia
  ·intro h;by_cases c:u.a=v.a/\u.b=v.b/\u.p.2=v.p.2/\u.p.1=v.p.1
   ·exact .inl (by rw[t1 c.1 c.2.1 (Prod.ext c.2.2.2 c.2.2.1)])
   ·right;lia
 have srt:((Ff l).lines).Pairwise λx y=>gN x y=true:=by have e2:=List.map_mergeSort (r:=λ(x y:Line)=>x==y||x.before y) (s:=gN) (f:=id) (l:=((pcs l).filter st).map mk) (λx hx y hy=>le_eq x hx y hy);rw[map_id,map_id]at e2;rw[eL,e2];exact List.pairwise_mergeSort yW yX _
 have pL:(Ff l).lines.Perm (((pcs l).filter st).map mk):=by rw[eL];exact List.mergeSort_perm _ _
 have pO:out.Perm ((Ff l).lines.map λx=>asI x.tell):=by
  refine hp.trans ?_;refine List.Perm.trans ?_ (pL.map _).symm;rw[dt];have f1:(K.filter λx=>!decide (eJ x∈K)).Perm (((pcs l).map pi5).filter λx=>!decide (eJ x∈K)):=pK.filter _;refine(f1.map _).trans ?_;rw[List.filter_map,dt];have f2:(pcs l).filter ((λx=>!decide (eJ x∈K))∘pi5)=(pcs l).filter st:=by apply jf;intro x hx;rw[df,st_iff x hx];simp
  rw[f2];have f3:((pcs l).filter st).map (tX K∘pi5)=((pcs l).filter st).map ((λx=>asI x.tell)∘mk):=dk λx hx=>J8 x (bu.mp hx).1
  rw[f3]
 have qe:∀x∈(Ff l).lines,∃u∈(pcs l),st u=true/\x=mk u/\asI x.tell=tX K (pi5 u):=λx hx=>by obtain⟨u,hu,rfl⟩:=au.mp (pL.mem_iff.mp hx);exact⟨u,(bu.mp hu).1,(bu.mp hu).2,rfl,(J8 u (bu.mp hu).1).symm⟩
 refine List.Perm.eq_of_pairwise (le:=F2) ?_ hs ?_ pO
 ·intro r z hr hz h1 h2;have hr:=pO.mem_iff.mp hr;obtain⟨x,hx,rfl⟩:=au.mp hr;obtain⟨y,hy,rfl⟩:=au.mp hz;obtain⟨u,hu,su,rfl,eu⟩:=qe x hx;obtain⟨v,hv,sv,rfl,ev⟩:=qe y hy;rw[eu,ev]at h1 h2 ⊢;obtain⟨a1,a2⟩:=yd u hu su;obtain⟨b1,b2⟩:=yd v hv sv;simp only[F2,tX,pi5,List.getD_cons_succ,List.getD_cons_zero]at h1 h2;rw[one u hu v hv Hb Hb (Prod.ext Hb Hb)]
 ·refine gm.mpr (List.Pairwise.imp_of_mem (λ{x y} hx hy h=>?_) srt);obtain⟨u,hu,su,rfl,eu⟩:=qe x hx;obtain⟨v,hv,sv,rfl,ev⟩:=qe y hy;rw[eu,ev];unfold gN at h;rw[decide_eq_true_eq]at h;have h:(u.a<v.a\/(u.a=v.a/\(u.b<v.b\/(u.b=v.b/\(u.p.2<v.p.2\/(u.p.2=v.p.2/\u.p.1<=v.p.1)))))):=h;obtain⟨a1,a2⟩:=yd u hu su;obtain⟨b1,b2⟩:=yd v hv sv;simp only[F2,tX,pi5,List.getD_cons_succ,List.getD_cons_zero];lia
end
theorem FG(t:List Int):RoofBNeutral.f [[3],t]=RoofB.ofTop (Fj t) λT=>RoofB.told (T.lines.length::T.lines.flatMap Line.tell):=rfl
theorem vQ{t:List Int}(h:houseOf (Fj t)=none):RoofBNeutral.f [[3],t]=[-1]:=by rw[FG,CZ h]
theorem DC{t:List Int}{l:Fn}(h:houseOf (Fj t)=some l){out:List (List Int)}(e:out=(Ff l).lines.map λx=>asI x.tell):RoofBNeutral.f [[3],t]=(out.length:Int)::out.flatten:=by
 rw[FG,CY h,e];unfold RoofB.told;rw[bh,ai];congr 1;generalize (Ff l).lines=L;induction L with
 |nil=>rfl
 |cons x r ih=>rw[gd,cf,ih];rfl
def LB(v w:Pl):Int:=v.1*w.1+v.2*w.2
noncomputable def xE(h:List Nat)(t u:T3):Int:=if fN h u=(fN h t+2)%4 then 0 else if LB (dif (k8 t) (k8 u)) (oA (fN h t).toNat)>0 then 2 else 1
theorem OH{d:Nat}(hd:d<4)(v:Pl):twP d v=LB v (oA d):=by
 have cs:d=0\/d=1\/d=2\/d=3:=Hb
 rcases cs with rfl|rfl|rfl|rfl<;>simp[twP,LB,oA]
section
variable {l:Fn} (hb:Hh l)
include hb
theorem nY{t:Nat}(ht:t∈(Ff l).tris):fN (Fc l) (tP t)=((Ff l).faces t:Int):=tD (aL hb) ht
theorem K8{t u:Nat}(ht:t∈(Ff l).tris)(hu:u∈(Ff l).tris):xE (Fc l) (tP t) (tP u)=((Ff l).kind t u:Int):=by
 have f4:(Ff l).faces t<4:=by have h1:=FE (aL hb) ht;rw[nY hb ht]at h1;lia
 rw[DF (aL hb _ (bE.mp ht)) (aL hb _ (bE.mp hu))];unfold xE kB;rw[nY hb ht,nY hb hu,dz,OH f4];by_cases c:(Ff l).faces u=((Ff l).faces t+2)%4
 ·rw[ah c,ah Hb];rfl
 ·rw[af c,af Hb];split<;>rfl
end
def OC(t:T3):T3:=(t.1,t.2.1,(t.2.2+1)%4)
noncomputable def BY(t:T3):T3:=((aK (t.1,t.2.1) t.2.2.toNat).1,(aK (t.1,t.2.1) t.2.2.toNat).2,(t.2.2+2)%4)
noncomputable def pcT(h:List Nat)(n m:Int)(t u:T3)(e:Pl×Pl):P5:=(min n m,max n m,xE h t u,(bA e).1,dif (bA e).1 (bA e).2)
theorem MY(t:Nat):OC (tP t)=tP (bsK t 0):=by
 have hs:t%4<4:=Hb
 have e:=bs0 (t/4) (t%4) hs;rw[<- gB]at e;rw[e,wF];unfold OC tP;refine Prod.ext rfl (Prod.ext rfl ?_);dsimp only;lia
theorem L5(t:Nat):Fv t 0=cG ((tP t).1,(tP t).2.1) (tP t).2.2.toNat:=by
 have hs:t%4<4:=Hb
 have e:=jF (t/4) (t%4) hs;rw[<- gB]at e;rw[e];show _=cG (hP (t/4)) (((t%4:Nat):Int)).toNat
 rw[dz]
theorem L7(t:Nat):Fv t 2=dF ((tP t).1,(tP t).2.1) (tP t).2.2.toNat:=by
 have hs:t%4<4:=Hb
 have e:=kO (t/4) (t%4) hs;rw[<- gB]at e;rw[e];show _=dF (hP (t/4)) (((t%4:Nat):Int)).toNat
 rw[dz]
section
variable {l:Fn} (hb:Hh l)
include hb
theorem QI{t:Nat}(ht:t∈(Ff l).tris):(BY (tP t)∈(Ff l).tris.map tP↔bsK t 2∈(Ff l).tris)/\(bsK t 2∈(Ff l).tris->BY (tP t)=tP (bsK t 2)):=by
 have hs:t%4<4:=Hb
 have hr:t/4∈Fc l:=bE.mp ht;have e:=bs2 (t/4) (t%4) hs;rw[<- gB]at e;have ea:BY (tP t)=((aK (hP (t/4)) (t%4)).1,(aK (hP (t/4)) (t%4)).2,(((t%4+2)%4:Nat):Int)):=by
  unfold BY;have e1:((tP t).1,(tP t).2.1)=hP (t/4):=rfl;have e2:(tP t).2.2.toNat=t%4:=by unfold tP;dsimp only;lia
  rw[e1,e2];refine Prod.ext rfl (Prod.ext rfl ?_);show(((t%4:Nat):Int)+2)%4=(((t%4+2)%4:Nat):Int)
  lia
 have fwd:bsK t 2∈(Ff l).tris->BY (tP t)=tP (bsK t 2):=λh=>by rw[e]at h ⊢;obtain⟨b1,b2⟩:=jR hb hr hs h;rw[wF,b2,ea]
 refine⟨⟨λh=>?_,λh=>au.mpr ⟨_,h,(fwd h).symm⟩⟩,fwd⟩;obtain⟨u,hu,eu⟩:=au.mp h;rw[ea]at eu;have e1:hP (u/4)=aK (hP (t/4)) (t%4):=Prod.ext (congrArg (λz:T3=>z.1) eu) (congrArg (λz:T3=>z.2.1) eu);have e2:((u%4:Nat):Int)=(((t%4+2)%4:Nat):Int):=congrArg (λz:T3=>z.2.2) eu;have hu4:u/4∈Fc l:=bE.mp hu;have eb:=(vE (aL hb) (aL hb _ hr) (aL hb _ hu4) hs).mp e1;have:bsK t 2=u:=by rw[e,<- eb];unfold tr;lia
 rw[this];exact hu
theorem O8{t k:Nat}(ht:t∈(Ff l).tris)(hu:bsK t k∈(Ff l).tris):pcT (Fc l) ((Ff l).face t) ((Ff l).face (bsK t k)) (tP t) (tP (bsK t k)) (Fv t k)=pcN (Ff l) t k:=by unfold pcT pcN;rw[K8 hb ht hu]
end
end RM
open RM (aP cI dM iP gI aV iW take_snoc eX cO aK aE parts m4 dD iN dG uL qN iU qQ qR j6 eM iWs uE dJ Tbl nE oU uY aW j9 bV nM qJ tW mJ wJ tV bB Dfs uT d7 dE cT hO vG nK bL c6 fQ iH inB fD wN cM bW aL g7 d5 fZ kC aR j1 c7 cN bS okR LR iG gS fN hgt HN cV g9 yF okT nbP isN hV jP aD Numbering zV mW tP FD aU rE oE k8 xE xP LB dif P5 bA pcT dbl cG dF bsK pcN lT bE O8 BY eJ tX at5 d9 iZ)
namespace L3
open PySem PySem.Spec PyProof.Rows L2
structure aO(P:Fo)(w:Fw)(K:Fg)(mg:Str->Option fv)(base:Fp)(CX:CXT)(k:Nat)(x:Str)(ps:List Str)(sp:Sp):Prop where
 ex:∃f fd,bJ P w K mg base CX k f fd ps sp/\mg x=some (.ref f)/\W.keepIn K (.ref f)=true/\Binds K fd ps []
section
variable {X:Cx}{CX:CXT}{k:Nat}{ps:List Str}{sp:Sp}{E:XK}{x:Str}{p pos:Pos}{e:Fz}{es:List Fz}{t:TA}
theorem rP(D:aO X.prog X.w X.K X.mg X.base CX k x ps sp)(hr:cR k X.A)(hx:Passes CX X E)(hg:Gl X x)(ha:PA X (e::es) t)(rm:(x==("__debug__" : Str))=false:=by decide)
  (qi:Fq (e::es) X.env=(false,eval e X.env)::Fq es X.env:=by rfl) (sf:(backTo pos (Fq es X.env)).any (·.1)=false:=by rfl):PE X (.Call (.Name x p) (e::es) [] pos) (wG sp [] E t):=by
 obtain⟨f,fd,F,hm,hk,hb⟩:=D.ex;exact ML F hr hg hm hk hb .nil hx ha rm qi sf
end
theorem a9.rd{H H':Hp}{a:xv}{u:HO}(e:a9 H H')(h:Rd H a u):Rd H' a u:=by
 rcases h with h|⟨o,h⟩
 ·exact .inl (e _ _ h)
 ·exact .inr ⟨o,e _ _ h⟩
theorem a9.upd{H:Hp}{p:xv}{o:HO}(h:H p=none):a9 H (upd H p o):=λb u e=>by rw[aB (aI e h)];exact e
noncomputable def T2(H:Hp)(v:V)(p:Int×Int):Prop:=∃a,v=.ref a/\H a=some (.tup [.int p.1,.int p.2])
noncomputable def C2(K:Fg)(H:Hp)(v:V)(p:Int×Int):Prop:=∃a,v=.ref a/\SqT K H a [.int p.1,.int p.2]
noncomputable def T3(H:Hp)(v:V)(p:Int×Int×Int):Prop:=∃a,v=.ref a/\H a=some (.tup [.int p.1,.int p.2.1,.int p.2.2])
theorem T2.mono{H H':Hp}{v:V}{p:Int×Int}(e:a9 H H')(h:T2 H v p):T2 H' v p:=let⟨a,h1,h2⟩:=h;⟨a,h1,e _ _ h2⟩
theorem T3.mono{H H':Hp}{v:V}{p:Int×Int×Int}(e:a9 H H')(h:T3 H v p):T3 H' v p:=let⟨a,h1,h2⟩:=h;⟨a,h1,e _ _ h2⟩
theorem T2.c{K:Fg}{H:Hp}{v:V}{p:Int×Int}(h:T2 H v p):C2 K H v p:=let⟨a,h1,h2⟩:=h;⟨a,h1,SqT.of h2⟩
def k9:Option HO->Bool
 |none=>false
 |some (.frz _ _)=>false
 |some _=>true
noncomputable def K9(h:Fp)(H:Hp)(fs:List xv):List xv:=(List.range h.objs.size).filter λa=>k9 (H a)||fs.contains a
def gR(h:Fp)(H:Hp)(fs:List xv):Fp:=W.hideAll h (K9 h H fs)
theorem iB{h:Fp}{H:Hp}{fs:List xv}{b:xv}{o:Obj}(e:h.get? b=some o)(n:k9 (H b)=false)(hb:b∉fs):(gR h H fs).get? b=some o:=
 W.hideAll_get _ e λhm=>by have q:=(bu.mp hm).2;rw[n,Bool.false_or]at q;exact hb (by simpa using q)
theorem AK{h:Fp}{H:Hp}{fs:List xv}{b:xv}{o:Obj}(e:(gR h H fs).get? b=some o):h.get? b=some o/\k9 (H b)=false/\b∉fs:=by
 have e':h.get? b=some o:=W.of_hideAll (K9 h H fs) e;refine⟨e',?_⟩;by_cases q:b∈K9 h H fs
 ·have z:(gR h H fs).get? b=none:=W.hideAll_none _ q;rw[z]at e;cases e
 ·have hn:¬((k9 (H b)||fs.contains b)=true):=λz=>q (bu.mpr ⟨fj.mpr (br e'),z⟩)
  rw[gx]at hn;refine⟨?_,λz=>hn (.inr (by simpa using z))⟩;cases z:k9 (H b)with
  |false=>rfl
  |true=>exact absurd (.inl z) hn
structure Fly(outer:List Env)(ex:List xv)(H:Hp)(s:Fe)(ae C:xv)(s':Fe):Prop where
 fl:∃a0,Fp.FlyingW (gR s.heap H (frs outer++ex)) outer ae (.ref C) a0 s'.heap
 slot:∀b∈frs outer,∀o,s.heap.get? b=some o->∃sl,s'.heap.get? b=some {o with slots:=sl}
 os:s'.os=s.os
 bare:AllBare s'.gens
noncomputable def CXf:CXT:=λouter H s E e s'=>∃ae C,e=.ref ae/\Fly outer [] H s ae C s'/\E (.ref C) none H
section
variable {X:Cx}{jr:Hg}{σ:L2.St}{H:Hp}{s:Fe}
theorem stays(I:Inv X jr σ H s)(kq:HOk X.prog X.w X.H_0 X.s_0.heap){ex:List xv}(wc:∀b∈X.ex,b∈ex){b:xv}{o:Obj}(e:(gR X.s_0.heap X.H_0 (X.fs++ex)).get? b=some o):
  s.heap.get? b=some o/\k9 (H b)=false/\b∉frs X.stack/\b∉ex:=by
 obtain⟨e1,n,rn⟩:=AK e;have hb:b∉X.fs:=λz=>rn (cg _ z)
 have hx:b∉ex:=λz=>rn (bg _ z)
 have qi:b∉frs X.stack:=λz=>by
  rcases aq.mp (I.tQ b z)with q|q
  ·exact absurd (br e1) (not_lt.mpr (q▸I.ok.above))
  ·exact hb q
 have vp:b∉X.ex:=λz=>hx (wc b z)
 cases q:X.H_0 b with
 |none=>refine⟨I.base.keep b o e1 q hb vp,?_,qi,hx⟩;rw[I.base.free b o e1 q vp];rfl
 |some u=>
  rw[q]at n;cases u with
  |frz ob u=>have z:=I.base.pM b ob u q;obtain⟨e2,_⟩:=kq b _ q;obtain⟨e3,_⟩:=I.hok b _ z;rw[e1]at e2;cases e2;exact⟨e3,by rw[z];rfl,qi,hx⟩
  |_=>cases n
theorem kQ{h base zg:Fp}:∀{l:List Env},h.FunFrames base l->(∀b∈frs l,zg.get? b=none)->h.FunFrames zg l
 |[],_,_=>trivial
 |env::r,⟨hk,⟨L,o,hf,hn,ho,hd⟩,hr⟩,k=>by
  have e:frs (env::r)=L::frs r:=by unfold frs;rw[fg,hf]
  rw[e]at k;exact⟨hk,⟨L,o,hf,k L (by simp),ho,hd⟩,kQ hr λb hb=>k b (by simp[hb])⟩
theorem DT(I:Inv X jr σ H s)(kq:HOk X.prog X.w X.H_0 X.s_0.heap){ex:List xv}(wc:∀b∈X.ex,b∈ex):s.heap.FunFrames (gR X.s_0.heap X.H_0 (X.fs++ex)) X.stack:=
 kQ I.stack λb hb=>by
  cases q:(gR X.s_0.heap X.H_0 (X.fs++ex)).get? b with
  |none=>rfl
  |some o=>exact absurd hb (stays I kq wc q).2.2.1
theorem lC(I:Inv X jr σ H s){b:xv}(hb:b∈X.fs)(hx:b∉X.ex){o:Obj}(e:X.s_0.heap.get? b=some o):∃sl,s.heap.get? b=some {o with slots:=sl}:=I.base.slot b o e (I.ok.frf b hb) hb hx
end
section
variable {P:Fo}{w:Fw}{K:Fg}{mg:Str->Option fv}{base:Fp}{N:List Str}{qual:Str}{scope:Gj}{f:xv}{cd:fv}{A:Ft}{outer:List Env}{s:Fe}{H:Hp}{E:XK}
 {jr:Hg}{σ:L2.St}{H1:Hp}{s1:Fe}
noncomputable abbrev cxF(P:Fo)(w:Fw)(K:Fg)(mg:Str->Option fv)(base:Fp)(N:List Str)(qual:Str)(scope:Gj)(f:xv)(cd:fv)(A:Ft)(outer:List Env)(s:Fe)(H:Hp)(E:XK):Cx:=vW CXf P w K mg base N qual scope f cd A outer s H E
theorem pB(l:List xv):l++[]=l:=di l
theorem JE(kq:HOk P w H s.heap)(I:Inv (cxF P w K mg base N qual scope f cd A outer s H E) jr σ H1 s1){h':Fp}{e C:xv}{as:List fv}(hx:Fp.MadeExcOf s1.heap h' e (.ref C) as)(hE:E (.ref C) none H):
  (cxF P w K mg base N qual scope f cd A outer s H E).xe (.ref e) {s1 with heap:=h'}:=by
 have st:∀b o,(gR s.heap H (frs outer++[])).get? b=some o->s1.heap.get? b=some o:=λb o q=>(stays I kq (ex:=[]) (λ_ z=>z) q).1
 refine wpAny_leaves_madeW (base:=gR s.heap H (frs outer++[])) (h:=s1.heap) (L:=s.heap.objs.size) (outer:=outer) I.ok.frames rfl st (DT I kq (λ_ z=>z)) hx λh2 t fl tup hn up=>?_
 refine⟨e,C,rfl,⟨⟨_,fl⟩,λb hb o q=>?_,I.os,I.bare⟩,hE⟩;obtain⟨sl,q1⟩:=lC I hb (by intro z;exact nomatch z) q;have fr:=(I.stack.mem (b:=b) (show b∈frs (_::outer) by
  unfold frs;rw[fg];exact ao _ hb)).2
 obtain⟨o2,q2,nf⟩:=fr;rw[q1]at q2;cases q2;obtain⟨uk,q3⟩:=up b _ (hx.keeps b _ q1) nf;exact⟨uk,q3⟩
theorem JN(kq:HOk P w H s.heap):Passes CXf (cxF P w K mg base N qual scope f cd A outer s H E) (λc _ _=>E c none H):=by
 intro jr σ H1 s1 e s' I h;obtain⟨ae,C,rfl,⟨⟨a0,fl⟩,sl,os,bare⟩,hE⟩:=h;have Az:Fp.FlyingW (gR s.heap H (frs outer++[])) (cxF P w K mg base N qual scope f cd A outer s H E).stack ae (.ref C) a0 s'.heap:=
  W.flyingW_base (λb o q=>by
   obtain⟨z1,z2,z3,_⟩:=stays I kq (ex:=[]) (λ_ z=>z) q;exact iB z1 z2 (by rw[pB];exact z3)) fl
 refine wpAny_leaves_onW (L:=s.heap.objs.size) (outer:=outer) I.ok.frames rfl Az λh2 fl3 up=>?_
 refine⟨ae,C,rfl,⟨⟨_,fl3⟩,λb hb o q=>?_,os.trans I.os,bare⟩,hE⟩;have ve:b∈frs (cxF P w K mg base N qual scope f cd A outer s H E).stack:=by
  show b∈frs (_::outer)
  unfold frs;rw[fg];exact ao _ hb
 obtain⟨sl1,q1⟩:=lC I hb (by intro z;exact nomatch z) q;obtain⟨uk,q2⟩:=sl b ve _ q1;obtain⟨o3,q3,nf⟩:=(fl.2.2.1.mem (b:=b) ve).2;rw[q2]at q3;cases q3;obtain⟨Bg,q4⟩:=up b _ q2 nf;exact⟨Bg,q4⟩
theorem eY(kq:HOk P w H s.heap){x:Str}{C:xv}{B mh zz:String}{bm:List fv}{np jy pos:Pos}(FB:ExcBaseFacts B mh zz bm)(O:OwnCls x C bm mh mg base)
  (hg:Gl (cxF P w K mg base N qual scope f cd A outer s H E) x) (hd:(x==("__debug__" : Str))=false:=by decide):
  PS (cxF P w K mg base N qual scope f cd A outer s H E) (.Raise (some (.Call (.Name x np) [] [] jy)) none pos) (λ_ _ _=>E (.ref C) none H):=by
 intro jr s1 σ H1 D I h;obtain⟨tl,N,nm,q,bs,hdct,sn,sub,ab,col,dd,k0,k1,k2,k3,k5,mN,hC,hN,hni,T⟩:=O.obj;refine wpAny_Raise_call_subT (C:=C) (nm:=nm) (q:=q) (N:=N) (bs:=bs) (bm:=tl) (hdct:=hdct) (sn:=sn) (sub:=sub) (ab:=ab) (col:=col) (dd:=dd) (k0:=k0) (k1:=k1) (k2:=k2) (k3:=k3) (k5:=k5)
  FB (mN:=mN) (T.hasType FB.hasBase) (I.ok.hd rfl) rfl hni (k6 I hg O.bound ⟨rfl,?_⟩ hd)
 exact evalArgs_empty ⟨rfl,cn _,I.bk _ _ hC,hN.keeps I.bk,T.keeps I.bk,λh' e hx=>JE kq I hx h⟩
end
section
variable {P:Fo}{w:Fw}{K:Fg}{mg:Str->Option fv}{base:Fp}
theorem KW{CX:CXT}{k:Nat}{f:xv}{name qual:Str}{params:Arguments}{body:List Ga}{scope:Gj}{dV kV mf pm jx ct oc:fv}{an od:Option xv}
  {nh:Array (Option fv)}{N ps:List Str}{sp:Sp} (lk:K.lookup f=some ⟨oc,od,.func (W.fnOf name qual params body scope dV kV mf pm an jx ct),nh⟩) (ot:W.codeIn K jx qual=true) (S:aN N ps scope)
  (len:∀vs H Q E,sp vs H Q E->vs.length=ps.length)
  (lr:∀(A:Ft)(outer:List Env)(s:Fe)(H:Hp)(vs:List V)(Q:VK)(E:XK),cR k (A.deeper (envOfC qual scope s.heap.objs.size f jx))->HOk P w H s.heap->sp vs H Q E ->
   ∃t,PSs (vW CX P w K mg base N qual scope f jx A outer s H E) body t/\t {nx:=λ_ H'=>Q .non H',rt:=Q} (start N vs) H):
  bJ P w K mg base CX (k+1) f (W.fnOf name qual params body scope dV kV mf pm an jx ct) ps sp:=by
 refine⟨len,λA outer s H args us vs Q E hr e0 hb r va=>?_⟩;have hl:=len _ _ _ _ va;have KX:K.In s.heap:=e0.mod.kin.keeps λb o e=>(e0.bs b o e).1
 have zw:s.heap.NoLimit:=e0.mod.nolimit.keeps λb o e=>(e0.bs b o e).1
 have qp:∀y∈ps.zip us,scope.names.lookup y.1=some .local\/(scope.names.lookup y.1=some .cell/\((Gb (s.heap.objs.size+1) scope.names []).lookup y.1).isSome=true):=λ⟨n,v⟩ hy=>by
  rcases S.par n (of_mem_zip hy).1 with q|q
  ·exact .inl q
  ·exact .inr ⟨q,W.cellsFrom_some _ _ _ (.inl q)⟩
 refine codeAny_call_function hr.depth (KX _ _ lk) rfl S.co S.gen rfl (W.codeRec_of KX ot) (hb _ _ _ _ ?_);refine wpAny_newFunctionEnv_cells S.kind qp λenv he s1 x=>?_
 subst he;refine⟨zw.keeps x.toInCall.keep,codeAny_func ?_⟩;obtain⟨t,ht,hq⟩:=lr A outer s H vs Q E (hr.deeper _) e0.hok va;have I:Inv (vW CX P w K mg base N qual scope f jx A outer s H E) [] (start N vs) H s1:=qU S hr.hd e0 hl r x;refine wpAny_mono (ht [] s1 (start N vs) H _ I hq) (λfl s' hs=>?_) λe s' hs=>hs
 have fin:∀{σ':L2.St}{H':Hp}{v:V}{u:fv},Inv (vW CX P w K mg base N qual scope f jx A outer s H E) [] σ' H' s'->RelV v u->Q v H'->CE outer P w H s Q u s':=
  λ{σ' H' v u} J rv q=>⟨v,H',J.os,J.bare,J.base,J.hok,rv,q⟩
 cases fl with
 |ret u=>obtain⟨v,σ',H',J,rv,q⟩:=hs;exact fin J rv q
 |next=>obtain⟨σ',H',J,q⟩:=hs;exact fin (v:=V.non) (u:=fv.none) J rfl q
 |brk=>obtain⟨_,_,_,q⟩:=hs;exact False.elim q
 |cont=>obtain⟨_,_,_,q⟩:=hs;exact False.elim q
theorem okX{x qual:Str}{st:Ga}{f:xv}{fd:Gi}{N ps:List Str}{k:Nat}{sp:Sp}(F:Fun K x qual st f fd)(S:aN N ps (aH st))(len:∀vs H Q E,sp vs H Q E->vs.length=ps.length)
  (lr:∀(jx:fv)(A:Ft)(outer:List Env)(s:Fe)(H:Hp)(vs:List V)(Q:VK)(E:XK),cR k (A.deeper (envOfC qual (aH st) s.heap.objs.size f jx))->HOk P w H s.heap->sp vs H Q E ->
   ∃t,PSs (cxF P w K mg base N qual (aH st) f jx A outer s H E) (fO st) t/\t {nx:=λ_ H'=>Q .non H',rt:=Q} (start N vs) H):bJ P w K mg base CXf (k+1) f fd ps sp:=by
 obtain⟨oc,od,kV,mf,pm,an,jx,ct,nh,rfl,lk,ot⟩:=F.ex;exact KW lk ot S len λA outer s H vs Q E hr hk va=>lr jx A outer s H vs Q E hr hk va
end
section
variable {X:Cx}{x:Str}{pos:Pos}
def qA(mg:Str->Option fv)(x:Str)(n:Int):Prop:=∃t,mg x=some (.int n t)
theorem cW{n:Int}(h:qA X.mg x n)(hg:Gl X x)(hd:(x==("__debug__" : Str))=false:=by decide):PE X (.Name x pos) (tC (.int n)):=by obtain⟨t,h⟩:=h;exact ET (v:=.int n) hg h ⟨t,rfl⟩ hd
theorem eE{a:xv}(h:X.mg x=some (.ref a))(hg:Gl X x)(hd:(x==("__debug__" : Str))=false:=by decide):PE X (.Name x pos) (tC (.ref a)):=ET (v:=.ref a) hg h rfl hd
end
noncomputable def CT2(K:Fg)(a:xv)(ps:List (Int×Int)):Prop:=∃xs,(∀H,SqT K H a xs)/\Paired (λv p=>∀H,C2 K H v p) xs ps
theorem pairs_at{α β:Type}{R:α->β->Prop}:∀{l:List α}{m:List β},Paired R l m->∀{i:Nat}{a:α},l[i]? =some a->∃b,m[i]? =some b/\R a b
 |_,_,.nil,_,_,h=>by simp at h
 |_,_,.cons r _,0,_,h=>by simp at h;subst h;exact⟨_,rfl,r⟩
 |_,_,.cons _ t,i+1,a,h=>by obtain⟨b,h1,h2⟩:=pairs_at t (i:=i) (a:=a) (by simpa using h);exact⟨b,by simpa using h1,h2⟩
theorem gE{α β:Type}{R:α->β->Prop}:∀{l:List α}{m:List β},Paired R l m->∀{i:Nat}{b:β},m[i]? =some b->∃a,l[i]? =some a/\R a b
 |_,_,.nil,_,_,h=>by simp at h
 |_,_,.cons r _,0,_,h=>by simp at h;subst h;exact⟨_,rfl,r⟩
 |_,_,.cons _ t,i+1,b,h=>by obtain⟨a,h1,h2⟩:=gE t (i:=i) (b:=b) (by simpa using h);exact⟨a,by simpa using h1,h2⟩
theorem pairs_len{α β:Type}{R:α->β->Prop}:∀{l:List α}{m:List β},Paired R l m->l.length=m.length
 |_,_,.nil=>rfl
 |_,_,.cons _ t=>by simp[pairs_len t]
theorem bC{α β:Type}{R:α->β->Prop}{a:α}{b:β}(r:R a b):∀{l:List α}{m:List β},Paired R l m->Paired R (l++[a]) (m++[b])
 |_,_,.nil=>.cons r .nil
 |_,_,.cons q t=>.cons q (bC r t)
theorem aM{α β:Type}{R S:α->β->Prop}(f:∀a b,R a b->S a b):∀{l:List α}{m:List β},Paired R l m->Paired S l m
 |_,_,.nil=>.nil
 |_,_,.cons r t=>.cons (f _ _ r) (aM f t)
theorem aQ{xs:List V}{z:Int}{v:V}(h0:0<=z)(h:xs[z.toNat]? =some v):atI xs z=some v:=at_of (j:=z.toNat) (dq h0).symm h
abbrev PI:=Int×Int
abbrev PI3:=Int×Int×Int
noncomputable def LI(H:Hp)(v:V)(ns:List Int):Prop:=∃a,v=.ref a/\H a=some (.lst (ns.map V.int))
noncomputable def LLI(H:Hp)(a:xv)(kn:List (List Int)):Prop:=∃xs,H a=some (.lst xs)/\Paired (LI H) xs kn
noncomputable def LT(H:Hp)(v:V)(ps:List PI):Prop:=∃a xs,v=.ref a/\H a=some (.lst xs)/\Paired (T2 H) xs ps
noncomputable def LLT(H:Hp)(v:V)(ws:List (List PI)):Prop:=∃a xs,v=.ref a/\H a=some (.lst xs)/\Paired (LT H) xs ws
theorem LI.mono{H H':Hp}{v:V}{ns:List Int}(e:a9 H H')(h:LI H v ns):LI H' v ns:=let⟨a,h1,h2⟩:=h;⟨a,h1,e _ _ h2⟩
theorem LT.mono{H H':Hp}{v:V}{ps:List PI}(e:a9 H H')(h:LT H v ps):LT H' v ps:=let⟨a,xs,h1,h2,h3⟩:=h;⟨a,xs,h1,e _ _ h2,aM (λ_ _ q=>q.mono e) h3⟩
theorem LLT.mono{H H':Hp}{v:V}{ws:List (List PI)}(e:a9 H H')(h:LLT H v ws):LLT H' v ws:=let⟨a,xs,h1,h2,h3⟩:=h;⟨a,xs,h1,e _ _ h2,aM (λ_ _ q=>q.mono e) h3⟩
def k2(p:PI):List Key:=[.inl p.1,.inl p.2]
def k3(p:PI3):List Key:=[.inl p.1,.inl p.2.1,.inl p.2.2]
theorem DG{p q:PI}(h:k2 p=k2 q):p=q:=by obtain⟨a,b⟩:=p;obtain⟨c,d⟩:=q;simp[k2]at h;rw[h.1,h.2]
theorem KA{p q:PI3}(h:k3 p=k3 q):p=q:=by obtain⟨a,b,e⟩:=p;obtain⟨c,d,f⟩:=q;simp[k3]at h;rw[h.1,h.2.1,h.2.2]
section
variable {κ:Type} [DecidableEq κ] {kf:κ->List Key} (hk:∀p q,kf p=kf q->p=q)
noncomputable def kvF(kf:κ->List Key)(kvs:List (κ×V)):List (List Key×V):=kvs.map λx=>(kf x.1,x.2)
include hk in
theorem IM(kvs:List (κ×V))(k:κ):tJ (kvF kf kvs) (kf k)=aP kvs k:=by
 unfold kvF;induction kvs with
 |nil=>rfl
 |cons x r ih=>
  rw[bh,cI];by_cases e:x.1=k
  ·rw[ah e,oM (by rw[e])]
  ·rw[af e,oN (λz=>e (hk _ _ z)),ih]
include hk in
theorem CK(kvs:List (κ×V))(k:κ)(v:V):putK (kvF kf kvs) (kf k) v=kvF kf (dM kvs k v):=by
 unfold putK dM kvF;have e1:((kvs.map λx=>(kf x.1,x.2)).any λkv=>decide (kv.1=kf k))=kvs.any λx=>decide (x.1=k):=by
  rw[any_map];congr 1;funext x;simp only[Function.comp];by_cases e:x.1=k
  ·simp[e]
  ·have e':¬kf x.1=kf k:=λz=>e (hk _ _ z)
   simp[e,e']
 rw[e1];split
 ·rw[dt,dt];apply dk;intro x _;simp only[Function.comp];by_cases e:x.1=k
  ·simp[e]
  ·have e':¬kf x.1=kf k:=λz=>e (hk _ _ z)
   simp[e,e']
 ·simp
end
theorem fM{κ:Type}{kf:κ->List Key}(kvs:List (κ×V)):(kvF kf kvs).length=kvs.length:=by simp[kvF]
def D2(H:Hp)(a:xv)(kvs:List (PI×V)):Prop:=H a=some (.dT (kvF k2 kvs))
def R2(H:Hp)(a:xv)(kvs:List (PI×V)):Prop:=Rd H a (.dT (kvF k2 kvs))
def D3(H:Hp)(a:xv)(kvs:List (PI3×V)):Prop:=H a=some (.dT (kvF k3 kvs))
def R3(H:Hp)(a:xv)(kvs:List (PI3×V)):Prop:=Rd H a (.dT (kvF k3 kvs))
theorem D2.rd{H:Hp}{a:xv}{kvs:List (PI×V)}(h:D2 H a kvs):R2 H a kvs:=.inl h
theorem D3.rd{H:Hp}{a:xv}{kvs:List (PI3×V)}(h:D3 H a kvs):R3 H a kvs:=.inl h
theorem R2.mono{H H':Hp}{a:xv}{kvs:List (PI×V)}(e:a9 H H')(h:R2 H a kvs):R2 H' a kvs:=a9.rd e h
theorem R3.mono{H H':Hp}{a:xv}{kvs:List (PI3×V)}(e:a9 H H')(h:R3 H a kvs):R3 H' a kvs:=a9.rd e h
theorem R2.get{H:Hp}{a:xv}{kvs:List (PI×V)}(h:R2 H a kvs){b:xv}{p:PI}(hb:H b=some (.tup [.int p.1,.int p.2])):mG H a (.ref b) (aP kvs p):=
 .inr ⟨_,k2 p,b,h,rfl,hb,(IM (λ_ _=>DG) kvs p).symm⟩
theorem R3.get{H:Hp}{a:xv}{kvs:List (PI3×V)}(h:R3 H a kvs){b:xv}{p:PI3}(hb:H b=some (.tup [.int p.1,.int p.2.1,.int p.2.2])):mG H a (.ref b) (aP kvs p):=
 .inr ⟨_,k3 p,b,h,rfl,hb,(IM (λ_ _=>KA) kvs p).symm⟩
theorem D2.put{H:Hp}{a:xv}{kvs:List (PI×V)}(h:D2 H a kvs){b:xv}{p:PI}(hb:H b=some (.tup [.int p.1,.int p.2]))(v:V)(hl:kvs.length<Fh):O6 H a (.ref b) v (upd H a (.dT (kvF k2 (dM kvs p v)))):=
 .inr ⟨_,k2 p,b,h,rfl,hb,by rw[fM];exact hl,by rw[CK (λ_ _=>DG)]⟩
theorem D3.put{H:Hp}{a:xv}{kvs:List (PI3×V)}(h:D3 H a kvs){b:xv}{p:PI3}(hb:H b=some (.tup [.int p.1,.int p.2.1,.int p.2.2]))(v:V)(hl:kvs.length<Fh):O6 H a (.ref b) v (upd H a (.dT (kvF k3 (dM kvs p v)))):=
 .inr ⟨_,k3 p,b,h,rfl,hb,by rw[fM];exact hl,by rw[CK (λ_ _=>KA)]⟩
theorem a9.put{H0 H:Hp}{a:xv}{o:HO}(e:a9 H0 H)(h:H0 a=none):a9 H0 (L2.upd H a o):=λb u q=>by rw[aB (aI q h)];exact e b u q
theorem sD{h h' base:Fp}:∀{l:List Env},h.FunFrames base l->(∀b∈frs l,∀o,h.get? b=some o->(∀vs,o.data≠ .fields vs)->∃o',h'.get? b=some o'/\o'.data=o.data)->h'.FunFrames base l
 |[],_,_=>trivial
 |env::r,⟨hk,⟨L,o,hf,hn,ho,hd⟩,hr⟩,k=>by
  have e:frs (env::r)=L::frs r:=by unfold frs;rw[fg,hf]
  rw[e]at k;obtain⟨o',h1,h2⟩:=k L (by simp) o ho hd;exact⟨hk,⟨L,o',hf,hn,h1,λvs=>h2▸hd vs⟩,sD hr λb hb=>k b (by simp[hb])⟩
theorem DD{M:Model}{A:Ft}{E:Hf}{s:Fe}{base:Fp}{env:Env}{outer:List Env}{L e:xv}{cls a0 fl:fv}{Q:Unit->Fe->Prop}
  (xl:A.frames=some (env::outer)) (hf:env.frame=some L) (hkb:base.StaysIn s.heap) (qd:base.get? e=none) (hl:s.heap.FunFrames base (env::outer)) (ht:s.heap.TracedAtW base e cls a0 fl)
  (hQ:∀h',Fp.FlyingW base outer e cls a0 h'->s.heap.UpToSlots h'->Q () {s with heap:=h'}):Fi M A (leaving env (.ref e)) Q E s:=by
 by_cases yu:fl=rawInt L
 ·subst yu;unfold leaving;refine aa (wpAny_noteFrame_againW hf ht (wpAny_landsW (l:=env::outer) ⟨hkb,qd,hl,ht⟩ λh' fl' up=>?_));obtain⟨k1,k2,⟨_,_,k3⟩,k4⟩:=fl';exact hQ h' ⟨k1,k2,k3,k4⟩ up
 ·obtain⟨oe,vs,T,oT,ts,he,⟨qt,h0⟩,hd,h1,hnT,hTe,hT,xu,h3⟩:=ht;subst qt;have sz:3<ts.size:=(gj.mp h3).1;have qf:∀b,b≠T->(s.heap.update T (Obj.mapFields (·.setIfInBounds 3 fv.none))).get? b=s.heap.get? b:=λb hb=>Fp.get?_update_other _ _ hb.symm
  have apart:∀b o,s.heap.get? b=some o->(∀ws,o.data≠ .fields ws)->b≠T:=λb o hb nf z=>nf ts (by rw[z,hT]at hb;cases hb;exact xu)
  unfold leaving noteFrame;simp only[hf];refine aa (aa (wpAny_field he hd h1 ?_));rw[ah (by simp:(fv.ref T !=fv.none)=true)];refine aa (wpAny_field hT xu h3 ?_);rw[af (by simpa using yu)];refine aa (wpAny_setField hT xu sz (wpAny_newEntryW xl ?fr hf ((qf e hTe.symm).trans he) ?st qd hd (gj.mp h1).1 h0 λh' left=>?fin));case fr=>exact hl.of_keeps λb o hb nf=>⟨o,(qf b (apart b o hb nf)).trans hb,rfl⟩
  case st=>exact λb o hb=>(qf b λz=>by rw[z,hnT]at hb;cases hb).trans (hkb b o hb)
  case fin=>obtain⟨k1,⟨_,_,k2⟩,k3,k4⟩:=left;exact hQ h' ⟨k1,qd,k2,k3⟩ λb o hb nf=>k4 b o ((qf b (apart b o hb nf)).trans hb) nf
noncomputable abbrev vY(X:Cx)(s:Fe)(H:Hp)(scope:Gj)(ju:Env)(fp:List xv)(EC:xv->Prop):Cx:=
 (X.blk s H scope ju fp).sQ λe s'=>∃ae C,e=.ref ae/\Fly X.stack fp H s ae C s'/\EC C/\∃m,s'.heap.Ns ju.locals m
section
variable {P:Fo}{w:Fw}{K:Fg}{mg:Str->Option fv}{base:Fp}{N:List Str}{qual:Str}{js:Gj}{f:xv}{cd:fv}{A:Ft}{outer:List Env}{s0:Fe}{H0:Hp}{E:XK}
theorem JO{X:Cx}{s:Fe}{H:Hp}{scope:Gj}{ju:Env}{fp:List xv}(hk:HOk X.prog X.w H s.heap){E':fv->Prop}:Passes CXf (vY X s H scope ju fp λC=>E' (.ref C)) (λc _ _=>E' c):=by
 intro jr σ H1 s1 e s' I h;obtain⟨ae,C,rfl,⟨⟨a0,fl⟩,slot,os,bare⟩,hE⟩:=h;have Az:Fp.FlyingW (gR s.heap H (frs X.stack++fp)) X.stack ae (.ref C) a0 s'.heap:=
  W.flyingW_base (λb o q=>by
   obtain⟨z1,z2,z3,_⟩:=stays I hk (ex:=fp) (λ_ z=>z) q;exact iB z1 z2 (by rw[pB];exact z3)) fl
 refine⟨ae,C,rfl,⟨⟨a0,Az⟩,λb hb o q=>?_,os.trans I.os,bare⟩,hE,?_⟩
 ·obtain⟨sl1,q1⟩:=lC I (show b∈frs X.stack from hb) (λz=>I.ok.DY b z hb) q;obtain⟨uk,q2⟩:=slot b hb _ q1;exact⟨uk,q2⟩
 ·obtain⟨m,⟨oL,es,ep,Dn,hdL,r⟩,_⟩:=I.loc;have Bn:ju.locals∉frs X.stack:=λz=>by obtain⟨_,o,ho,_⟩:=I.ok.lU.mem (b:=ju.locals) z;exact absurd (br ho) (not_lt.mpr I.ok.above)
  have hid:k9 (H1 ju.locals)=false:=by have z:H1 ju.locals=none:=I.free;rw[z];rfl
  exact⟨m,oL,es,ep,fl.1 _ _ (iB Dn hid (by rw[pB];exact Bn)),hdL,r⟩
theorem JV(kq:HOk P w H0 s0.heap){jr:Hg}{σ:L2.St}{H3:Hp}{s3:Fe}{fp:List xv}{scope:Gj}{cl:List (Str×xv)}{use:Option (fv->Sem Unit)}{Qf:Hf}{acc e:fv}{s':Fe}
  (I3:Inv (cxF P w K mg base N qual js f cd A outer s0 H0 E) jr σ H3 s3) (yt:∀b∈fp,oI (cxF P w K mg base N qual js f cd A outer s0 H0 E) jr H3 b)
  (hx:∃ae C,e=.ref ae/\Fly (cxF P w K mg base N qual js f cd A outer s0 H0 E).stack fp H3 s3 ae C s'/\E (.ref C) none H0/\∃m,s'.heap.Ns s3.heap.objs.size m):
  notedBy (Fm P w) (cxF P w K mg base N qual js f cd A outer s0 H0 E).A (Gh scope cl s3.heap.objs.size (cxF P w K mg base N qual js f cd A outer s0 H0 E).env)
   (λe s'=>compPost (Fm P w) (cxF P w K mg base N qual js f cd A outer s0 H0 E).A (cxF P w K mg base N qual js f cd A outer s0 H0 E).xe use Qf acc s3.heap.objs.size (.error e) s') e s':=by
 obtain⟨ae,C,rfl,⟨⟨a0,fl⟩,slot,os,bare⟩,hE,m,hn⟩:=hx;have low:∀b o,(gR s0.heap H0 (frs outer++[])).get? b=some o->b<s0.heap.objs.size:=λb o q=>br (AK q).1
 have Az:Fp.FlyingW (gR s0.heap H0 (frs outer++[])) (cxF P w K mg base N qual js f cd A outer s0 H0 E).stack ae (.ref C) a0 s'.heap:=
  W.flyingW_base (λb o q=>by
   obtain⟨z1,z2,z3,_⟩:=stays I3 kq (ex:=[]) (λ_ z=>z) q;refine iB z1 z2 λz=>(ax.mp z).elim z3 λz=>?_
   rcases(yt b z).2.2.2.1 with y|y
   ·exact nomatch y
   ·exact absurd (low b o q) (not_lt.mpr y)) fl
 show Fi (Fm P w) _ (noteFrame (.ref ae) (cxF P w K mg base N qual js f cd A outer s0 H0 E).env) _ _ _
 refine wpAny_looks_onW (L:=s0.heap.objs.size) (outer:=outer) I3.ok.frames rfl Az λh1 xq up1=>?_
 have goal:∃m,h1.Ns s3.heap.objs.size m/\∀h',Fp.SameBut s3.heap.objs.size h1 h'->∀ju:Env,ju.locals=s3.heap.objs.size ->
   Fi (Fm P w) (cxF P w K mg base N qual js f cd A outer s0 H0 E).A (PySem.passOn "comprehension.variables-let-go" (.ref ae) ju:Sem fv) (λ_ _=>False) (cxF P w K mg base N qual js f cd A outer s0 H0 E).xe {s' with heap:=h'}:=by
  have hn1:=up1.ns hn;refine⟨m,hn1,λh2 sb ju _=>?_⟩;obtain⟨oL,es,ep,Dn,hdL,_⟩:=hn1;obtain⟨f1,f2,f3,oe,vs,T,oT,ts,he,hc,hd,h1',hnT,hTe,hT,xu,h3⟩:=xq;have nC:∀b o,h1.get? b=some o->(∃ws,o.data=.fields ws)->b≠s3.heap.objs.size:=λb o q ⟨ws,z⟩ y=>by rw[y,Dn]at q;cases q;rw[hdL]at z;cases z
  have he2:h2.get? ae=some oe:=(sb.2 ae (nC ae oe he ⟨vs,hd⟩)).trans he;have yz:h2.get? T=some oT:=(sb.2 T (nC T oT hT ⟨ts,xu⟩)).trans hT;have sz:3<ts.size:=(gj.mp h3).1;unfold PySem.passOn setFlight;refine aa (wpAny_field he2 hd h1' ?_);rw[af (by simp:¬((fv.ref T==fv.none)=true))];refine aa (aa (wpAny_field he2 hd h1' ?_));rw[ah (by simp:(fv.ref T !=fv.none)=true)];refine wpAny_setField yz xu sz (wpAny_throw ?_);have qf:∀b,b≠T->(h2.update T (Obj.mapFields (·.setIfInBounds 3 (ju.frame.elim fv.none λf=>rawInt f)))).get? b=h2.get? b:=λb hb=>Fp.get?_update_other _ _ hb.symm
  have fr:∀b∈frs (cxF P w K mg base N qual js f cd A outer s0 H0 E).stack,b≠s3.heap.objs.size:=λb hb=>by obtain⟨_,o,q,_⟩:=I3.stack.mem (b:=b) hb;exact cj (br q)
  have nT:∀b o,h1.get? b=some o->(∀ws,o.data≠ .fields ws)->b≠T:=λb o q nf y=>nf ts (by rw[y,hT]at q;cases q;exact xu)
  refine DD (base:=gR s0.heap H0 (frs outer++[])) (L:=s0.heap.objs.size) (outer:=outer) (cls:=.ref C) (a0:=a0) (fl:=ju.frame.elim fv.none λf=>rawInt f) I3.ok.frames rfl ?st f2 ?fr ?tr λh4 fl4 up4=>?fin
  case st=>intro b o q;have l1:=low b o q;have l2:b≠s3.heap.objs.size:=cj (bz l1 I3.sz);rw[qf b λz=>by rw[z,hnT]at q;cases q];exact(sb.2 b l2).trans (f1 b o q)
  case fr=>exact sD f3 λb hb o q nf=>⟨o,(qf b (nT b o q nf)).trans ((sb.2 b (fr b hb)).trans q),rfl⟩
  case tr=>exact⟨oe,vs,T,_,_,(qf ae hTe.symm).trans he2,hc,hd,h1',hnT,hTe,Fp.get?_update_self _ yz (Obj.isFreed_of_fields (Obj.data_mapFields xu _)),Obj.data_mapFields xu _,by simp[sz]⟩
  case fin=>
   refine⟨ae,C,rfl,⟨⟨_,fl4⟩,λb hb o q=>?_,os.trans I3.os,bare⟩,hE⟩;have ve:b∈frs (cxF P w K mg base N qual js f cd A outer s0 H0 E).stack:=by
    show b∈frs (_::outer)
    unfold frs;rw[fg];exact ao _ hb
   obtain⟨sl1,q1⟩:=lC I3 hb (by intro z;exact nomatch z) q;obtain⟨uk,q2⟩:=slot b ve _ q1;obtain⟨o3,q3,nf⟩:=(fl.2.2.1.mem (b:=b) ve).2;rw[q2]at q3;cases q3;obtain⟨Bg,q4⟩:=up1 b _ q2 nf;have q5:=(qf b (nT b _ q4 nf)).trans ((sb.2 b (fr b ve)).trans q4);obtain⟨sl4,q6⟩:=up4 b _ q5 nf;exact⟨sl4,q6⟩
 cases use<;>exact goal
end
section
variable {P:Fo}{w:Fw}{K:Fg}{mg:Str->Option fv}{base:Fp}{N:List Str}{qual:Str}{js:Gj}{f:xv}{cd:fv}{A:Ft}{outer:List Env}{s0:Fe}{H0:Hp}{E:XK}
theorem AW{X:Cx}(hX:X=cxF P w K mg base N qual js f cd A outer s0 H0 E)(kq:HOk P w H0 s0.heap){jr:Hg}{s:Fe}{σ:L2.St}{H:Hp}{Q:VK}{mj tg iter:Fz}{scope:Gj}{own:List (Str×Nat)}{pos ko:Pos}{wi:TI}{g:TG}{te:TE}{use:Option (fv->Sem Unit)}{Qf:Hf}
  (hN:X.N.Nodup) (I:Inv X jr σ H s) (hi:L2.PI X tg iter wi) (ok:qC X.N X.env.scope scope own)
  (hg:∀(s:Fe)(H:Hp)(C:xv)(cl:List (Str×xv))(fp:List xv),PG (vY X s H scope (Gh scope cl C X.env) fp λC=>E (.ref C) none H0) tg g)
  (he:∀(s:Fe)(H:Hp)(C:xv)(cl:List (Str×xv))(fp:List xv),HOk X.prog X.w H s.heap->PE (vY X s H scope (Gh scope cl C X.env) fp λC=>E (.ref C) none H0) mj te) (hs:∀x,foldedSetIterable iter X.env x=pure x)
  (h:tLc wi g IU te (own.map (·.2)) σ H Q)
  (hRR:∀D C s' m H',Inv X jr σ H' s'->Q (.ref D) H'->s'.heap.Ns C m->oI X jr H' C->compPost (Fm X.prog X.w) X.A X.xe use Qf (.ref D) C (.ok .next) s'):
  Fi (Fm X.prog X.w) X.A (comprehension (.ListComp mj [⟨tg,iter,[],0⟩] scope pos) scope X.env ko (newList []) false (eval iter X.env) use) Qf X.xe s:=by
 have lj:∀y∈scope.names,y.2=.free->∃c,X.env.cells.lookup y.1=some c:=λy hy e=>by
  rcases ok.free y hy e with k|k
  ·exact I.ok.has _ (.inl k)
  ·exact I.ok.has _ (.inr k)
 refine wpAny_comprehension_free (use:=use) rfl hs (oB lj) ok.kind (λy hy e=>by rw[ok.uniq y hy,e])
  (thn (hi jr s σ H _ I h) λxv s1 hx=>thn hx λitv s2 h2=>?_)
 obtain⟨it,fp,tn,J,H2,e,I2,T,zj,f2,q⟩:=h2;subst e;refine wpAny_newObj_type (rT ?_) (by show 0<=Fh;decide);generalize hD:s2.heap.objs.size=D;have hDn:H2 D=none:=I2.hok.fresh (iq hD);obtain⟨W,⟨m0,w0⟩,ku⟩:=q D hDn;generalize hs3:({s2 with heap:=s2.heap.push {cls:=.type "list",data:=.seq ([]:List fv).toArray}}:Fe)=s3;have I3:Inv X jr σ (upd H2 D (.lst [])) s3:=by rw[<- hs3];refine I2.laid (t':=s2.toks) (λb o e=>ak _ e) (iq hD) ⟨cn _,[],0,.nil,?_⟩;rw[<- hD];exact az _ rfl
 have h3:s3.heap=s2.heap.push {cls:=.type "list",data:=.seq ([]:List fv).toArray}:=by rw[<- hs3]
 have sz:∀b∈fp,b<s2.heap.objs.size:=λb hb=>by obtain⟨o,e,_⟩:=T.obj _ _ zj b hb;exact br e
 have f3:∀b∈fp,oI X jr (upd H2 D (.lst [])) b/\b<s3.heap.objs.size:=λb hb=>by have ka:=sz b hb;refine⟨⟨?_,(f2 b hb).2⟩,by rw[h3,fo];exact jq ka⟩;rw[aB (by rw[<- hD];exact cj ka)];exact(f2 b hb).1
 have Bf:tn 0 s3.heap:=T.keep _ _ _ zj λb _ o e=>by rw[h3];exact ak _ e
 have I4':=sL I3 ok hN f3;have pg:=hg s3 (upd H2 D (.lst [])) s3.heap.objs.size (Gb (s3.heap.objs.size+1) scope.names (bH X.env.cells scope.names [])) fp;have pe:=he s3 (upd H2 D (.lst [])) s3.heap.objs.size (Gb (s3.heap.objs.size+1) scope.names (bH X.env.cells scope.names [])) fp I3.hok;show codeAny _ _ (.compStart (.ListComp mj [⟨tg,iter,[],0⟩] scope pos) 0 (.ref it) (.ref D) (Gh scope (Gb (s3.heap.objs.size+1) scope.names (bH X.env.cells scope.names [])) s3.heap.objs.size X.env)) (compPost (Fm X.prog X.w) X.A X.xe use Qf (.ref D) s3.heap.objs.size) {s3 with heap:=pushCells (s3.heap.push {cls:=.type "dict",data:=.dict #[]}) scope.names}
 have Cs:∀b∈fp,(upd H2 D (.lst [])) b=none:=λb hb=>(f3 b hb).1.1
 generalize oo:Gb (s3.heap.objs.size+1) scope.names (bH X.env.cells scope.names [])=cl at I4' pg pe ⊢;have qh:∀e s',(vY X s3 (upd H2 D (.lst [])) scope (Gh scope cl s3.heap.objs.size X.env) fp λC=>E (.ref C) none H0).xe e s' ->
   notedBy (Fm X.prog X.w) X.A (Gh scope cl s3.heap.objs.size X.env) (λe s'=>compPost (Fm X.prog X.w) X.A X.xe use Qf (.ref D) s3.heap.objs.size (.error e) s') e s':=λe s' hx=>by
  subst hX;exact JV kq I3 (λb hb=>(f3 b hb).1) hx
 generalize hce:Gh scope cl s3.heap.objs.size X.env=ce at I4' pg pe qh ⊢;have cL:ce.locals=s3.heap.objs.size:=by subst hce;rfl
 have I4:Inv (vY X s3 (upd H2 D (.lst [])) scope ce fp λC=>E (.ref C) none H0) [] (wipe σ (own.map (·.2))) (upd H2 D (.lst [])) {s3 with heap:=pushCells (s3.heap.push {cls:=.type "dict",data:=.dict #[]}) scope.names}:=I4'.sQ _;generalize hH3:upd H2 D (.lst [])=H3 at I3 I4 pg pe w0 Cs f3 qh;generalize hs4:({s3 with heap:=pushCells (s3.heap.push {cls:=.type "dict",data:=.dict #[]}) scope.names}:Fe)=s4 at I4 ⊢;have Ce:tn 0 s4.heap:=T.keep _ _ _ Bf λb _ o e=>by rw[<- hs4];exact pushCells_keeps _ _ _ _ (ak _ e)
 generalize hB:vY X s3 H3 scope ce fp (λC=>E (.ref C) none H0)=B at I4 pg pe qh;have calm:B.calm=true:=by subst hB hX;rfl
 have ny:∀{σ':L2.St}{H':Hp}{s':Fe},Inv B [] σ' H' s'->(∀b∈fp,H' b=none)->∀b∈fp,oI B [] H' b:=λ{σ' H' s'} I' hn b hb=>by subst hB;exact⟨hn b hb,(I'.ok.exf b hb).1,I'.ok.DY b hb,.inl hb,λx c e=>(I'.ok.exf b hb).2 x c e,λp hp=>absurd (show p∈([]:Hg)++[]from hp) (by simp)⟩
 have eP:B.prog=X.prog:=by subst hB;rfl
 have eW:B.w=X.w:=by subst hB;rfl
 have eK:B.K=X.K:=by subst hB;rfl
 have eA:B.A=X.A:=by subst hB;rfl
 have loop:codeAny (Fm X.prog X.w) X.A (.compLoop (.ListComp mj [⟨tg,iter,[],0⟩] scope pos) 0 (.ref it) (.ref D) ce) (compPost (Fm X.prog X.w) X.A X.xe use Qf (.ref D) s3.heap.objs.size) s4:=by
  refine pW (λn s'=>∃i H',Inv B [] (wipe σ (own.map (·.2))) H' s'/\tn i s'.heap/\(∀b∈fp,H' b=none)/\W i n H') ?_ m0 ⟨0,H3,I4,Ce,Cs,w0⟩;rintro n s5 ⟨i,H5,I5,wq,n5,w5⟩;rcases ku i n H5 w5 with⟨stop,qq⟩|⟨go,Nx,hNx,step⟩
  ·have td:=T.done B eP eW eK calm i [] s5 _ H5 (λ_ _=>False) I5 (ny I5 n5) wq stop;rw[eA]at td;refine yG td λr s6 ⟨hr,I6⟩=>?_
   subst hr;have I7:Inv X jr σ H5 s6:=by subst hB;exact I3.FN (ch:=fp) I6.os I6.base I6.hok I6.bare λb hb=>⟨(f3 b hb).1.2.2.2.1,(f3 b hb).1.2.1,(f3 b hb).1.2.2.2.2.1,(f3 b hb).1.2.2.2.2.2⟩
   have nC:H5 s3.heap.objs.size=none:=by subst hB;have z:H5 ce.locals=none:=I6.free;rw[cL]at z;exact z
   obtain⟨m,hn⟩:∃m,s6.heap.Ns s3.heap.objs.size m:=by subst hB;obtain⟨m,hn,_⟩:=I6.loc;have hn:s6.heap.Ns ce.locals m:=hn;rw[cL]at hn;exact⟨m,hn⟩
   exact hRR D s3.heap.objs.size s6 m H5 I7 qq hn (I3.DU (aw _) nC)
  ·have ti:=T.item B eP eW eK calm i [] s5 _ H5 (λ_ _=>False) I5 (ny I5 n5) wq go;rw[eA]at ti;refine yG ti λr s6 ⟨u,hr,h6⟩=>?_
   subst hr;refine yG h6 λ_ s7 ⟨x,H7,I7,r7,y7,zi,n7⟩=>?_
   have I7':=I7.pinned (ny I7 n7) (T.obj _ _ zi);have pg':=pg _ s7 _ H7 x u _ I7' r7 (step x H7 y7);rw[eP,eW,eA]at pg';have ee:B.env=ce:=by subst hB;rfl
   rw[ee]at pg';refine wpAny_mono pg' (λ_ s8 ⟨σ8,H8,I8,Cz,q8⟩=>?_) qh;have fin:∀{s':Fe}{H':Hp},Inv B ([]++qM fp s7.heap) σ8 H' s'->Nx H'->∃m,m<n/\∃i H',Inv B [] (wipe σ (own.map (·.2))) H' s'/\tn i s'.heap/\(∀b∈fp,H' b=none)/\W i m H':=λ{s' H'} I' nx=>by
    obtain⟨m',hm,w'⟩:=hNx H' nx;have um:∀b∈fp,∀o,s7.heap.get? b=some o->s'.heap.get? b=some o/\H' b=none:=λb hb o e=>
     let z:=I'.pin (b,o) (bg _ (bg _ (jZ hb e)))
     ⟨z.1,z.2.1⟩
    have hl:(wipe σ (own.map (·.2))).length=σ8.length:=by rw[<- Cz,iL]
    refine⟨m',hm,i+1,H',(I'.kZ (jr:=[])).weak hl (λj v e=>?_),T.keep _ _ _ zi λb hb o e=>(um b hb o e).1,λb hb=>?_,w'⟩
    ·rw[<- Cz]at e;exact(mH e).1
    ·obtain⟨o,e,_⟩:=T.obj _ _ zi b hb;exact(um b hb o e).2
   refine ag ?_;have q8:(if true=true then te σ8 H8 λy H4=>∃acc,H4 D=some (.lst acc)/\acc.length<Fh/\Nx (upd H4 D (.lst (acc++[y])))else Nx H8):=q8;simp only[if_true]at q8 ⊢;have pe':=pe _ s8 σ8 H8 _ I8 q8;rw[eP,eW,eA,ee]at pe';refine wpAny_mono pe' (λz s10 ⟨yv,H10,I10,r10,acc,Ay,Ab,nx⟩=>?_) qh;have ap:=LL (E:=notedBy (Fm X.prog X.w) X.A ce λe s'=>compPost (Fm X.prog X.w) X.A X.xe use Qf (.ref D) s3.heap.objs.size (.error e) s') (Q:=λ_ s₅=>∃m,m<n/\∃i H',Inv B [] (wipe σ (own.map (·.2))) H' s₅/\tn i s₅.heap/\(∀b∈fp,H' b=none)/\W i m H') I10 Ay Ab r10 λs11 I11=>fin I11 nx
   rw[eP,eW,eA]at ap;exact ap
 exact codeAny_compStart_list loop (T.self X.A 0 _ _ _ Ce loop)
theorem P2(kq:HOk P w H0 s0.heap){mj tg iter:Fz}{scope:Gj}{own:List (Str×Nat)}{pos:Pos}{wi:TI}{g:TG}{te:TE}(hc:(cxF P w K mg base N qual js f cd A outer s0 H0 E).calm=true)(hN:N.Nodup)
  (hi:L2.PI (cxF P w K mg base N qual js f cd A outer s0 H0 E) tg iter wi) (ok:qC N js scope own)
  (hg:∀(s:Fe)(H:Hp)(C:xv)(cl:List (Str×xv))(fp:List xv),PG (vY (cxF P w K mg base N qual js f cd A outer s0 H0 E) s H scope (Gh scope cl C (cxF P w K mg base N qual js f cd A outer s0 H0 E).env) fp λC=>E (.ref C) none H0) tg g)
  (he:∀(s:Fe)(H:Hp)(C:xv)(cl:List (Str×xv))(fp:List xv),HOk P w H s.heap->PE (vY (cxF P w K mg base N qual js f cd A outer s0 H0 E) s H scope (Gh scope cl C (cxF P w K mg base N qual js f cd A outer s0 H0 E).env) fp λC=>E (.ref C) none H0) mj te)
  (hs:∀x,foldedSetIterable iter (cxF P w K mg base N qual js f cd A outer s0 H0 E).env x=pure x:=by intro _;rfl):
  PE (cxF P w K mg base N qual js f cd A outer s0 H0 E) (.ListComp mj [⟨tg,iter,[],0⟩] scope pos) (tLc wi g IU te (own.map (·.2))):=by
 intro jr s σ H Q I h;rw[eval_ListComp];refine AW rfl kq hN I hi ok hg he hs h λD C s' m H' I' q hn f=>⟨m,hn,λyb sb=>?_⟩
 obtain⟨f0,f1,f2,f3,f4,f5⟩:=f;exact⟨.ref D,H',I'.turned (t':=s'.toks) (λb o hb e=>(sb.2 b hb).trans e) f0 f1 f3 f4 f5,rfl,q⟩
theorem wQ(kq:HOk P w H0 s0.heap){i:Nat}{y:Str}{py:Pos}{mj tg iter:Fz}{scope:Gj}{own:List (Str×Nat)}{pos uj:Pos}{wi:TI}{g:TG}{te:TE}(hc:(cxF P w K mg base N qual js f cd A outer s0 H0 E).calm=true)(hN:N.Nodup)(hy:N[i]? =some y)(uz:js.names.lookup y=some .local)
  (hsw:swapsWith (.ListComp mj [⟨tg,iter,[],0⟩] scope pos) (some (.Name y py)) uj.line (cxF P w K mg base N qual js f cd A outer s0 H0 E).env=pure true)
  (hi:L2.PI (cxF P w K mg base N qual js f cd A outer s0 H0 E) tg iter wi) (ok:qC N js scope own)
  (hg:∀(s:Fe)(H:Hp)(C:xv)(cl:List (Str×xv))(fp:List xv),PG (vY (cxF P w K mg base N qual js f cd A outer s0 H0 E) s H scope (Gh scope cl C (cxF P w K mg base N qual js f cd A outer s0 H0 E).env) fp λC=>E (.ref C) none H0) tg g)
  (he:∀(s:Fe)(H:Hp)(C:xv)(cl:List (Str×xv))(fp:List xv),HOk P w H s.heap->PE (vY (cxF P w K mg base N qual js f cd A outer s0 H0 E) s H scope (Gh scope cl C (cxF P w K mg base N qual js f cd A outer s0 H0 E).env) fp λC=>E (.ref C) none H0) mj te)
  (hs:∀x,foldedSetIterable iter (cxF P w K mg base N qual js f cd A outer s0 H0 E).env x=pure x:=by intro _;rfl):
  PS (cxF P w K mg base N qual js f cd A outer s0 H0 E) (.Assign [.Name y py] (.ListComp mj [⟨tg,iter,[],0⟩] scope pos) uj) (CC (tLc wi g IU te (own.map (·.2))) (jJ i)):=by
 generalize hX:cxF P w K mg base N qual js f cd A outer s0 H0 E=X at*;have Ej:X.N.Nodup:=by subst hX;exact hN
 have ue:X.N[i]? =some y:=by subst hX;exact hy
 have Cw:X.env.scope.names.lookup y=some .local:=by subst hX;exact uz
 have ok':qC X.N X.env.scope scope own:=by subst hX;exact ok
 intro jr s σ H D I h;rw[exec_Assign_Name_used _ _ _ _ hsw];refine aa (wpAny_standAt (aa ?_));show Fi _ X.A (do let _<- comprehension (.ListComp mj [⟨tg,iter,[],0⟩] scope pos) scope X.env (firstIterPos [⟨tg,iter,[],0⟩] pos) (newList []) false (eval iter X.env) (some (assign (.Name y py) X.env))) _ _ s
 have h:tLc wi g IU te (own.map (·.2)) σ H (λx H1=>jJ i x σ H1 D.nx):=h;refine aa (thn (AW (Qf:=λ_ s'=>SP X jr D .next s') hX.symm kq Ej I hi ok' hg (λs H C cl fp hk=>he s H C cl fp (by subst hX;exact hk)) hs h λL C s' m H' I' q hn f=>?_) λ_ s' hq=>ag (ag hq));show Fi _ _ (assign (.Name y py) X.env (.ref L)) _ _ _
 refine wpAny_assign_Name (qH (v:=V.ref L) I' Ej ue (.inl Cw) rfl (λs2 I2 ⟨a,sb,ha⟩=>?_) (.inr Cw));obtain⟨f0,f1,f2,f3,f4,f5⟩:=f;have haC:C≠a:=by
  rcases ha with z|z
  ·rw[z];exact f1
  ·exact λe=>f4 y a z e.symm
 refine⟨m,hn.sameBut sb haC,λh3 sb3=>?_⟩;exact⟨_,H',I2.turned (t':=s2.toks) (λb o hb e=>(sb3.2 b hb).trans e) f0 f1 f3 f4 f5,q⟩
end
theorem T2.upd{H:Hp}{v:V}{p:Int×Int}{D:xv}{xs:List V}{o:HO}(h:T2 H v p)(hD:H D=some (.lst xs)):T2 (L2.upd H D o) v p:=by obtain⟨a,e,q⟩:=h;exact⟨a,e,by rw[aB (fK q hD (by intro z;cases z))];exact q⟩
theorem T3.upd{H:Hp}{v:V}{p:Int×Int×Int}{D:xv}{xs:List V}{o:HO}(h:T3 H v p)(hD:H D=some (.lst xs)):T3 (L2.upd H D o) v p:=by obtain⟨a,e,q⟩:=h;exact⟨a,e,by rw[aB (fK q hD (by intro z;cases z))];exact q⟩
theorem LT.upd{H:Hp}{b D:xv}{zs:List PI}{xs:List V}{o:HO}(h:LT H (.ref b) zs)(hD:H D=some (.lst xs))(n:b≠D):LT (L2.upd H D o) (.ref b) zs:=by obtain⟨a,ys,e,q,pr⟩:=h;cases e;exact⟨b,ys,rfl,by rw[aB n];exact q,aM (λ_ _ z=>z.upd hD) pr⟩
theorem LLI.apart{H:Hp}{p:xv}{xs:List V}(hp:H p=some (.lst xs)){v:V}(hv:v∈xs){row:List Int}(h:LI H v row):∃b,v=.ref b/\b≠p/\H b=some (.lst (row.map V.int)):=by obtain⟨b,rfl,q⟩:=h;refine⟨b,rfl,λz=>?_,q⟩;rw[z,hp]at q;have q:=HO.lst.inj (Option.some.inj q);rw[q]at hv;obtain⟨n,_,e⟩:=au.mp hv;cases e
theorem fJ{α β:Type}{R:α->β->Prop}:∀{l:List α}{m:List β},Paired R l m->Paired R l.dropLast m.dropLast
 |_,_,.nil=>.nil
 |_,_,.cons _ .nil=>.nil
 |_,_,.cons r (.cons q t)=>.cons r (fJ (.cons q t))
theorem mM{α β:Type}{R:α->β->Prop}:∀{l:List α}{m:List β},Paired R l m->Paired (λa b=>a∈l/\b∈m/\R a b) l m
 |_,_,.nil=>.nil
 |_,_,.cons r t=>.cons ⟨by simp,by simp,r⟩ (aM (λ_ _ ⟨h1,h2,h3⟩=>⟨ao _ h1,ao _ h2,h3⟩) (mM t))
theorem pC{α:Type}{a:α}:∀{l:List α},a∈l.dropLast->a∈l
 |[],h=>by cases h
 |[_],h=>by cases h
 |x::y::r,h=>by
  rcases aq.mp h with rfl|h
  ·simp
  ·exact ao _ (pC h)
theorem KU{K:Fg}{a:xv}{xs:List V}{g:TG}{tb:TS}{D:Ends}{σ:L2.St}{H:Hp}(Pv:Nat->L2.St->Hp->Prop)(h0:Pv 0 σ H)(hl:∀i σ H,i<=xs.length->Pv i σ H->SqL K H a xs)
  (hs:∀i x σ H T,xs[i]? =some x->Pv i σ H->H T=none->g (.ref T) σ (upd H T (.tup [.int (i:Nat),x])) λσ2 H2=>tb {D with nx:=Pv (i+1),ct:=Pv (i+1),bk:=D.nx} σ2 H2) (hd:∀σ H,Pv xs.length σ H->D.nx σ H):
  ∃W:Nat->Nat->L2.St->Hp->Prop,(∃m,W 0 m σ H)/\∀i m σ H,W i m σ H ->
   ((Ite K a).stop i H/\D.nx σ H)\/((Ite K a).go i H/\∃N:L2.St->Hp->Prop,(∀σ' H',N σ' H'->∃m',m'<m/\W (i+1) m' σ' H')/\∀x H',(Ite K a).yld i H x H'->g x σ H' λσ2 H2=>tb {D with nx:=N,ct:=N,bk:=D.nx} σ2 H2):=by
 refine⟨λi m σ H=>m=xs.length - i/\i<=xs.length/\Pv i σ H,⟨xs.length,by simp,cn _,h0⟩,?_⟩;rintro i m σ H ⟨rfl,hi,p⟩;have q:=hl i σ H hi p;by_cases ka:i<xs.length
 ·refine .inr ⟨⟨xs,xs[i],q,by simp[ka]⟩,Pv (i+1),λσ' H' p'=>⟨xs.length - (i+1),Hc,rfl,ka,p'⟩,λx H' y=>?_⟩;obtain⟨T,z,rfl,hT,rfl,y⟩:=y;exact hs i z σ H T (y xs q) p hT
 ·have e:i=xs.length:=Hc
  subst e;exact .inl ⟨⟨xs,q,aw _⟩,hd σ H p⟩
theorem lV{d:xv}{od:Obj}{kvs:List (List Key×V)}{g:TG}{tb:TS}{D:Ends}{σ:L2.St}{H:Hp}(Pv:Nat->L2.St->Hp->Prop)(h0:Pv 0 σ H)(hl:∀i σ H,Pv i σ H->H d=some (.frz od (.dT kvs)))
  (hs:∀i k v q σ H,kvs[i]? =some (k,v)->H q=some (.tup (k.map kV))->Pv i σ H->g (.ref q) σ H λσ2 H2=>tb {D with nx:=Pv (i+1),ct:=Pv (i+1),bk:=D.nx} σ2 H2) (hd:∀σ H,Pv kvs.length σ H->D.nx σ H):
  ∃W:Nat->Nat->L2.St->Hp->Prop,(∃m,W 0 m σ H)/\∀i m σ H,W i m σ H ->
   ((C0 d od kvs).stop i H/\D.nx σ H)\/((C0 d od kvs).go i H/\∃N:L2.St->Hp->Prop,(∀σ' H',N σ' H'->∃m',m'<m/\W (i+1) m' σ' H')/\∀x H',(C0 d od kvs).yld i H x H'->g x σ H' λσ2 H2=>tb {D with nx:=N,ct:=N,bk:=D.nx} σ2 H2):=by
 refine⟨λi m σ H=>m=kvs.length - i/\i<=kvs.length/\Pv i σ H,⟨kvs.length,by simp,cn _,h0⟩,?_⟩;rintro i m σ H ⟨rfl,hi,p⟩;have q:=hl i σ H p;by_cases ka:i<kvs.length
 ·refine .inr ⟨⟨q,ka⟩,Pv (i+1),λσ' H' p'=>⟨kvs.length - (i+1),Hc,rfl,ka,p'⟩,λx H' y=>?_⟩;obtain⟨rfl,k,v,b,hk,rfl,hb⟩:=y;exact hs i k v b σ H' hk hb p
 ·have e:i=kvs.length:=Hc
  subst e;exact .inl ⟨⟨q,aw _⟩,hd σ H p⟩
theorem N5{d:xv}{od:Obj}{kvs:List (List Key×V)}{g:TG}{tt:TT}{te:TE}{vs:List Nat}{σ:L2.St}{H1:Hp}{D:xv}{Qd:Hp->Prop}(Pv:Nat->Hp->Prop)(h0:Pv 0 (upd H1 D (.lst [])))(hl:∀i H,Pv i H->H d=some (.frz od (.dT kvs)))
  (hs:∀i k v q H,kvs[i]? =some (k,v)->H q=some (.tup (k.map kV))->Pv i H->g (.ref q) (wipe σ vs) H λσ2 H2=>wipe σ2 vs=wipe σ vs/\tt σ2 H2 λb H3=>
   if b=true then te σ2 H3 λy H4=>∃acc,H4 D=some (.lst acc)/\acc.length<Fh/\Pv (i+1) (upd H4 D (.lst (acc++[y])))else Pv (i+1) H3) (hd:∀H,Pv kvs.length H->Qd H):
  ∃W:Nat->Nat->Hp->Prop,(∃m,W 0 m (upd H1 D (.lst [])))/\∀i m H,W i m H ->
   ((C0 d od kvs).stop i H/\Qd H)\/((C0 d od kvs).go i H/\∃Nx:Hp->Prop,(∀H',Nx H'->∃m',m'<m/\W (i+1) m' H')/\∀x H',(C0 d od kvs).yld i H x H'->g x (wipe σ vs) H' λσ2 H2=>wipe σ2 vs=wipe σ vs/\tt σ2 H2 λb H3=>
    if b=true then te σ2 H3 λy H4=>∃acc,H4 D=some (.lst acc)/\acc.length<Fh/\Nx (upd H4 D (.lst (acc++[y])))else Nx H3):=by
 refine⟨λi m H=>m=kvs.length - i/\i<=kvs.length/\Pv i H,⟨kvs.length,by simp,cn _,h0⟩,?_⟩;rintro i m H ⟨rfl,hi,p⟩;have q:=hl i H p;by_cases ka:i<kvs.length
 ·refine .inr ⟨⟨q,ka⟩,Pv (i+1),λH' p'=>⟨kvs.length - (i+1),Hc,rfl,ka,p'⟩,λx H' y=>?_⟩;obtain⟨rfl,k,v,b,hk,rfl,hb⟩:=y;exact hs i k v b H' hk hb p
 ·have e:i=kvs.length:=Hc
  subst e;exact .inl ⟨⟨q,aw _⟩,hd H p⟩
theorem a9.unlock{H H2:Hp}{d:xv}{od:Obj}{u:HO}(h:H d=some u)(e:a9 (L2.upd H d (.frz od u)) H2):a9 H (L2.upd H2 d u):=λb o q=>by
 by_cases hb:b=d
 ·subst hb;rw[a8];rw[h]at q;exact q
 ·rw[aB hb];exact e b o (by rw[aB hb];exact q)
theorem T2.sR{H:Hp}{v:V}{p:Int×Int}{D:xv}{u o:HO}(h:T2 H v p)(hD:H D=some u)(hu:∀xs,u≠ .tup xs):T2 (L2.upd H D o) v p:=by obtain⟨a,e,q⟩:=h;exact⟨a,e,by rw[aB (fK q hD (λz=>hu _ z.symm))];exact q⟩
theorem T3.sR{H:Hp}{v:V}{p:Int×Int×Int}{D:xv}{u o:HO}(h:T3 H v p)(hD:H D=some u)(hu:∀xs,u≠ .tup xs):T3 (L2.upd H D o) v p:=by obtain⟨a,e,q⟩:=h;exact⟨a,e,by rw[aB (fK q hD (λz=>hu _ z.symm))];exact q⟩
theorem LJ{xs:List V}{k:Nat}{v:V}(hk:k<xs.length)(h:xs[if k=0 then xs.length - 1 else k - 1]? =some v):atI xs ((k:Int) - 1)=some v:=by
 by_cases h0:k=0
 ·subst h0;rw[ah rfl]at h;unfold atI ixN;rw[af Hc,ah Hc];show xs[(((0:Nat):Int) - 1+(xs.length:Int)).toNat]? =some v
  rw[show(((0:Nat):Int) - 1+(xs.length:Int)).toNat=xs.length - 1 by omega];exact h
 ·rw[af h0]at h;exact aQ Hc (by rw[show((k:Int) - 1).toNat=k - 1 by omega];exact h)
def CS(C:List (Nat×Nat)):List (PI×V):=C.map λc=>(iP c,.bl true)
theorem n4(C:List (Nat×Nat)):(CS C).map (·.1)=C.map iP:=by simp[CS]
theorem gO{a b:Nat×Nat}(h:iP a=iP b):a=b:=by unfold iP at h;have h1:=congrArg Prod.fst h;have h2:=congrArg Prod.snd h;simp at h1 h2;exact Prod.ext Hc Hc
theorem FT(C:List (Nat×Nat))(c:Nat×Nat)(h:c∉C):dM (CS C) (iP c) (.bl true)=CS (C++[c]):=by
 rw[gI]
 ·simp[CS]
 ·rw[n4];intro z;obtain⟨d,hd,e⟩:=au.mp z;exact h (gO e▸hd)
theorem rF(C:List (Nat×Nat)):(CS C).length=C.length:=by simp[CS]
theorem QJ(C:List (Nat×Nat))(q:PI):(aP (CS C) q).isSome=true↔q∈C.map iP:=by rw[aV,n4]
end L3
namespace L3
open PySem PySem.Spec PySem.Calls PyProof.Rows L2
structure kR(h:Fp)(d:xv)(o:Obj)(es:Array Gd)(ep:Nat):Prop where
 at_:h.get? d=some o
 ex:o.ExactDict
 dat:o.data=.dict es ep
theorem kR.ty{s:Fe}{d:xv}{o:Obj}{es:Array Gd}{ep:Nat}(e:kR s.heap d o es ep):s.TypeIs (.ref d) "dict" :=⟨o,e.at_,e.ex.1⟩
theorem kR.to{h h':Fp}{d:xv}{o:Obj}{es:Array Gd}{ep:Nat}(e:kR h d o es ep)(k:∀q,h.get? d=some q->h'.get? d=some q):kR h' d o es ep:=⟨k _ e.at_,e.ex,e.dat⟩
section
variable {X:Cx}{jr:Hg}{σ:L2.St}{H:Hp}{s:Fe}{a:xv}{kvs:List (List Key×V)}
theorem pR(I:Inv X jr σ H s)(e:Rd H a (.dT kvs)):(a==Fy)=false/\kvs.length<=Fh/\∃o es ep,kR s.heap a o es ep/\es.size=kvs.length/\
  ∀(i:Nat)(en:Gd),es[i]? =some en->∃k v q,kvs[i]? =some (k,v)/\en.key=.ref q/\H q=some (.tup (k.map kV))/\RelV v en.val:=by
 obtain⟨z,hs,xs,kt,o,es,ep,ho,hx,kx,hes,_,_⟩:=pS I.hok e;refine⟨hs,z,o,es,ep,⟨ho,hx,kx⟩,?_,λi en qd=>?_⟩
 ·rw[size_of_entries hes,<- Paired.length kt]
 ·rw[entry_at hes i]at qd;cases hxs:xs[i]? with
  |none=>rw[hxs]at qd;cases qd
  |some x=>rw[hxs]at qd;obtain⟨⟨k,v⟩,hk,e1,e2,e3⟩:=gE kt hxs;cases qd;exact⟨k,v,x.2.1,hk,rfl,e2,e3⟩
end
section
variable {prog:Fo}{w:Fw}{A:Ft}{E:Hf}{s:Fe}{d:xv}{o:Obj}{es:Array Gd}{ep:Nat}
theorem D8(hs:(d==Fy)=false):MeetsIn prog w (Builtin.«dict.__len__» ⟨[.ref d],[]⟩) λ_ R s=>∃o es ep,kR s.heap d o es ep/\R (.ok (.ret (.int es.size s.toks))) {s with toks:=s.toks+1}:=
 .of_wp λA R s q=>by
  obtain⟨o,es,ep,e,hR⟩:=q;show Fi _ _ (dictSize d>>=λ_=>_) _ _ s
  delta dictSize
  exact aa (aa (wpAny_dictEntries e.at_ e.dat (ag (show Fi _ _ (Builtin.Dict.pendingCount d>>=λ_=>_) _ _ s from aa (wpAny_pendingCount_other hs (wpAny_ret_mkInt (by rw[Nat.add_zero];exact hR)))))))
theorem GR{Q:Hf}(hs:(d==Fy)=false)(e:kR s.heap d o es ep)(hf:(es.size:Int)<2^63)(hQ:Q (.int es.size (s.toks+1)) {s with toks:=s.toks+1+1}):
  Fi (Fm prog w) A (Builtin.«len» ⟨[.ref d],[]⟩) (λfin s'=>∃r,fin=.done (.ret r)/\Q r s') E s:=by
 delta Builtin.«len»
 refine aa (m:=oneArg "len" _) (ag (aa (m:=callSpecial? (.ref d) (Str.ofString "__len__")) (wpAny_callSpecial?_slot (name:=Str.ofString "__len__") e.ty F.slot_dict_len (call_meetsIn F.slot_dict_len e.ty F.entry_dict_len (F.args_dict_len_1 _) (D8 hs) ⟨o,es,ep,e,?_⟩))));show Fi _ _ _ _ _ {s with toks:=s.toks+1}
 refine aa (wpAny_holding (ag (aa (wpAny_letGo ?_))));have n1:¬(((es.size:Nat):Int)<0):=Hc
 have n2:¬(((es.size:Nat):Int)>=2^63):=Hc
 show Fi _ _ (if((es.size:Nat):Int)<0 then _ else if((es.size:Nat):Int)>=2^63 then _ else _) _ _ _
 rw[af n1,af n2];exact aa (wpAny_mkInt (ag ⟨_,rfl,hQ⟩))
theorem OG(hh:A.handled=none)(I:xv)(jw:d≠I)(hx:o.ExactDict)(kx:o.data=.dict es ep):Walks prog w A I [I,d] [I] es.size (λi v=>∃en,es[i]? =some en/\v=en.key) (λi h=>h.IsKeyIter I d i es.size ep/\kR h d o es ep) where
 sub:=λb hb=>by rw[iz]at hb;rw[hb];exact ay
 frame:=λ_ _ _ st k=>⟨st.1.at λq e=>k I ay q e,st.2.to λq e=>k d (ao _ ay) q e⟩
 item:=λi s Q E hi st hQ=>by
  have he:es[i]? =some es[i]:=fx hi;refine iY st.1 st.2.at_ kx rfl he λh' it' sb=>?_
  exact hQ _ h' s.toks ⟨_,he,rfl⟩ ⟨it',st.2.to λq e=>(sb.2 d jw).trans e⟩ λb q hb e=>(sb.2 b (λz=>hb (z▸ay))).trans e
 done:=λs Q E st hQ=>gX hh st.1 st.2.at_ kx rfl (aw _) λh' eb=>hQ h' s.toks λb q hb e=>eb b q (λz=>hb (z▸ay)) e
 self:=λ_ _ _ _ st hQ=>wpAny_pyIter_keyiter st.1 hQ
theorem R0(hs:(d==Fy)=false)(hx:o.ExactDict)(kx:o.data=.dict es ep):W.KdlSrc prog w "dict" d d es.size (λi v=>∃en,es[i]? =some en/\v=en.key) (λh=>kR h d o es ep) where
 type:=λ_ e=>e.ty
 there:=λ_ e=>⟨br e.at_,br e.at_⟩
 keep:=λ_ _ e k=>e.to λq z=>k d (.inl rfl) q z
 notList:=Hd
 notTuple:=Hd
 hint:=λ_ _ _ _ e hq=>W.kdl_hint_dict e.ty hq
 iter:=λA s hh e=>⟨_,_,λ_ _ hq=>mU hs e.at_ e.ex e.dat hq,OG hh _ (cj (br e.at_)) hx kx,⟨⟨_,az _ rfl,rfl,rfl⟩,e.to λq z=>ak _ z⟩⟩
end
noncomputable def mF(H:Hp)(qs:List V)(kvs:List (List Key×V)):Prop:=Paired (λv (kv:List Key×V)=>∃q,v=.ref q/\H q=some (.tup (kv.1.map kV))) qs kvs
theorem F1{H:Hp}{kvs:List (List Key×V)}:∀{us:List fv},us.length=kvs.length->(∀(j:Nat)(u:fv),us[j]? =some u->∃k v q,kvs[j]? =some (k,v)/\u=.ref q/\H q=some (.tup (k.map kV)))->∃qs,Vals qs us/\mF H qs kvs:=by
 induction kvs with
 |nil=>intro us hl _;exact⟨[],by rw[fm hl];exact .nil,.nil⟩
 |cons kv r ih=>
  intro us hl hu;match us,hl with
  |u::us,hl=>
   obtain⟨k,v,q,e1,e2,e3⟩:=hu 0 u rfl;obtain⟨qs,h1,h2⟩:=ih (us:=us) (by simpa using hl) λj x hx=>by simpa using hu (j+1) x (by simpa using hx)
   have e1:kv=(k,v):=by simpa using e1
   exact⟨.ref q::qs,.cons e2 h1,.cons ⟨q,rfl,by rw[e1];exact e3⟩ h2⟩
section
variable {X:Cx}
theorem mZ:nL X (.builtin "len") (λxs H Q=>∃a kvs,xs=[V.ref a]/\Rd H a (.dT kvs)/\Q (.int kvs.length) H):=by intro jr s σ H xs us Q I r h;obtain⟨a,kvs,rfl,ha,q⟩:=h;obtain⟨u,rfl,ru⟩:=vals1 r;cases ru;obtain⟨hs,hz,o,es,ep,e,sz,_⟩:=pR I ha;have hn:=uO;exact Calls.call_function_entry kind_len plain_len entry_len (args_len1 _) (GR hs e (by rw[sz];omega) ⟨.int kvs.length,H,I.tok _,⟨_,by rw[sz]⟩,q⟩)
theorem E7(hc:X.calm=true):nL X (.type "list") (λxs H Q=>∃a kvs,xs=[V.ref a]/\Rd H a (.dT kvs)/\∀l qs,H l=none->mF H qs kvs->Q (.ref l) (upd H l (.lst qs))):=by
 intro jr s σ H xs us Q I r h;obtain⟨a,kvs,rfl,ha,q⟩:=h;obtain⟨u,rfl,ru⟩:=vals1 r;cases ru;obtain⟨hs,hz,o,es,ep,e,sz,en⟩:=pR I ha;refine W.kdl_call (R0 hs e.ex e.dat) (I.ok.hd hc) e (by rw[sz];exact hz) λh' tk acc c kp hl it=>?_
 obtain⟨qs,v1,v2⟩:=F1 (H:=H) (kvs:=kvs) (us:=acc.toList) (by rw[dm,it.1,sz]) λj x hx=>by obtain⟨n,hn,e2⟩:=it.2 j x (by rw[<- gw];exact hx);obtain⟨k,v,p,e3,e4,e5,_⟩:=en j n hn;exact⟨k,v,p,e3,e2.trans e4,e5⟩
 have kc:qs.length<=Fh:=by rw[pairs_len v2];exact hz
 exact⟨.ref s.heap.objs.size,_,I.laid (a:=s.heap.objs.size) (o:=.lst qs) kp (aw _) ⟨kc,acc.toList,c,v1,by rw[Array.toArray_toList];exact hl⟩,rfl,q _ qs (I.hok.fresh (aw _)) v2⟩
end
end L3
namespace L3
open PySem PySem.Spec PyProof.Rows L2
theorem C1(C:List (Nat×Nat))(q:PI):(aP (CS C) q).isSome=decide (q∈iW C):=by rw[df,QJ,decide_eq_true_iff];rfl
theorem oQ{i:Nat}{x:V}(h:([.int 0,.int 1,.int 2,.int 3]:List V)[i]? =some x):i<4/\x=.int (i:Nat):=by
 have hi:i<4:=(ar.mp h).1;refine⟨hi,?_⟩;have cs:i=0\/i=1\/i=2\/i=3:=Hc
 rcases cs with rfl|rfl|rfl|rfl<;>(cases h;rfl)
theorem not_true{b:Bool}(h:¬b=true):b=false:=by simpa using h
def vR(H:Hp)(p:xv):Nat:=match H p with|some (.lst xs)=>xs.length|_=>0
def n6(H:Hp)(p:xv):Nat:=match H p with|some (.dT kvs)=>kvs.length|_=>0
theorem mT{H:Hp}{p:xv}{xs:List V}(h:H p=some (.lst xs)):vR H p=xs.length:=by unfold vR;rw[h]
theorem EY{H:Hp}{p:xv}{kvs:List (List Key×V)}(h:H p=some (.dT kvs)):n6 H p=kvs.length:=by unfold n6;rw[h]
theorem AV{H:Hp}{p:xv}{kvs:List (PI×V)}(h:D2 H p kvs):n6 H p=kvs.length:=by rw[EY h,fM]
theorem K5{H:Hp}{p:xv}{kvs:List (PI3×V)}(h:D3 H p kvs):n6 H p=kvs.length:=by rw[EY h,fM]
theorem HW(xs:List V):HX xs none (some 1)=xs.take 1:=by
 unfold HX;cases xs with
 |nil=>rfl
 |cons x r=>
  have e:HT.sIx (x::r).length (x::r).length (some 1)=1:=by simp[HT.sIx]
  have e0:HT.sIx (x::r).length 0 none=0:=by simp[HT.sIx]
  rw[e,e0];rfl
theorem AZ{H:Hp}{qs:List V}{kvs:List (PI×V)}(h:mF H qs (kvF k2 kvs)):Paired (T2 H) qs (kvs.map (·.1)):=by
 unfold mF kvF at h;induction kvs generalizing qs with
 |nil=>cases h;exact .nil
 |cons x r ih=>
  rw[bh]at h;cases h with
  |cons h t=>exact .cons h (ih t)
theorem uR{kvs:List (PI×V)}{i:Nat}{k:List Key}{v:V}(h:(kvF k2 kvs)[i]? =some (k,v)):∃p,kvs[i]? =some (p,v)/\k=k2 p:=by
 unfold kvF at h;rw[bc]at h;cases e:kvs[i]? with
 |none=>rw[e]at h;cases h
 |some x=>rw[e]at h;cases h;exact⟨x.1,rfl,rfl⟩
theorem DE{kvs:List (PI3×V)}{i:Nat}{k:List Key}{v:V}(h:(kvF k3 kvs)[i]? =some (k,v)):∃p,kvs[i]? =some (p,v)/\k=k3 p:=by
 unfold kvF at h;rw[bc]at h;cases e:kvs[i]? with
 |none=>rw[e]at h;cases h
 |some x=>rw[e]at h;cases h;exact⟨x.1,rfl,rfl⟩
def IV{κ:Type}(l:List (κ×Int)):List (κ×V):=l.map λx=>(x.1,V.int x.2)
theorem tF{κ:Type}(l:List (κ×Int)):(IV l).map (·.1)=l.map (·.1):=by simp[IV]
theorem fX{κ:Type}(l:List (κ×Int)):(IV l).length=l.length:=by simp[IV]
theorem dN{κ:Type}[DecidableEq κ](k:κ):∀l:List (κ×Int),aP (IV l) k=(aP l k).map V.int
 |[]=>rfl
 |x::r=>by
  show aP ((x.1,V.int x.2)::IV r) k=_
  rw[cI,cI,dN k r];by_cases e:x.1=k
  ·rw[ah e,ah e];rfl
  ·rw[af e,af e]
theorem vI{κ:Type}[DecidableEq κ](k:κ)(v:Int)(l:List (κ×Int)):dM (IV l) k (.int v)=IV (dM l k v):=by
 unfold dM;have e:((IV l).any λx=>decide (x.1=k))=l.any λx=>decide (x.1=k):=by unfold IV;rw[any_map];rfl
 rw[e];split
 ·unfold IV;rw[dt,dt];apply dk;intro x _;simp only[Function.comp];split<;>rfl
 ·simp[IV]
theorem LQ{κ:Type}[DecidableEq κ](k:κ)(l:List (κ×Int)):(aP (IV l) k).isSome=(aP l k).isSome:=by rw[dN];cases aP l k<;>rfl
theorem a9.both{H H1:Hp}{c:xv}{x:HO}(e:a9 H H1):a9 (L2.upd H c x) (L2.upd H1 c x):=λb o h=>by
 by_cases hb:b=c
 ·subst hb;rw[a8]at h ⊢;exact h
 ·rw[aB hb]at h ⊢;exact e b o h
theorem fV{H:Hp}{c h:xv}{o:HO}{u:HO}(hc:H c=some u)(hh:H h=none):(L2.upd H c o) h=none:=by rw[aB (aI hc hh).symm];exact hh
def But(a:xv)(H H':Hp):Prop:=∀b u,b≠a->H b=some u->H' b=some u
theorem But.refl(a:xv)(H:Hp):But a H H:=λ_ _ _ h=>h
theorem But.trans{a:xv}{H H1 H2:Hp}(x:But a H H1)(y:But a H1 H2):But a H H2:=λb u n h=>y b u n (x b u n h)
theorem a9.but{a:xv}{H H':Hp}(e:a9 H H'):But a H H':=λb u _ h=>e b u h
theorem But.here{a:xv}{H H1:Hp}{o:HO}(x:But a H H1):But a H (L2.upd H1 a o):=λb u n h=>by rw[aB n];exact x b u n h
theorem But.put{a x:xv}{H H1:Hp}{o:HO}(e:But a H H1)(h:H x=none):But a H (L2.upd H1 x o):=λb u n q=>by rw[aB (aI q h)];exact e b u n q
theorem T2.but{a:xv}{H H':Hp}{v:V}{p:PI}{u:HO}(h:T2 H v p)(e:But a H H')(ha:H a=some u)(hu:∀xs,u≠ .tup xs):T2 H' v p:=by obtain⟨b,rfl,q⟩:=h;exact⟨b,rfl,e b _ (fK q ha (λz=>hu _ z.symm)) q⟩
theorem But.same{a:xv}{H0 H H':Hp}(e:But a H H')(s:a9 H0 H)(ha:H0 a=none):a9 H0 H':=λb u q=>e b u (aI q ha) (s b u q)
theorem mQ{p:Prop}{i:Decidable p}(h:(!@decide p i)=true):¬p:=λz=>by rw[decide_eq_true z]at h;cases h
theorem jE{p:Prop}{i:Decidable p}(h:¬(!@decide p i)=true):p:=by
 by_cases z:p
 ·exact z
 ·rw[decide_eq_false z]at h;exact absurd rfl h
def KS{κ:Type}(l:List κ):List (κ×V):=l.map λp=>(p,V.bl true)
theorem zO{κ:Type}(l:List κ):(KS l).map (·.1)=l:=by simp[KS,Function.comp_def]
theorem EE{κ:Type}(l:List κ):(KS l).length=l.length:=by simp[KS]
theorem LO{κ:Type}[DecidableEq κ](l:List κ)(k:κ):(aP (KS l) k).isSome=decide (k∈l):=by rw[df,aV,zO,decide_eq_true_iff]
theorem O5{κ:Type}[DecidableEq κ]{l:List κ}{k:κ}(h:k∉l):dM (KS l) k (.bl true)=KS (l++[k]):=by rw[gI _ (by rw[zO];exact h)];simp[KS]
def ixs(l:List Int):List (Int ⊕ List Nat):=l.map Sum.inl
def leI(a b:List Int):Prop:=lexLt itemOrd (ixs b) (ixs a)=false
abbrev e9:Nat->Bool:=λ_=>false
theorem n9:∀{ks:List Int}{us:List fv}(i:Nat),Vals (ks.map V.int) us->tupItems e9 i us=some (ixs ks)
 |[],us,i,r=>by rw[je]at r;cases r;rfl
 |k::ks,us,i,r=>by
  rw[bh]at r;cases r with
  |cons h t=>
   obtain⟨tk,rfl⟩:=h;show(if e9 i=true then none else(tupItems e9 (i+1) _).map (Sum.inl k::·))=_
   rw[af (show¬e9 i=true from bp),n9 (i+1) t];rfl
section
variable {X:Cx}{jr:Hg}{σ:L2.St}{H:Hp}{s:Fe}
theorem PU(I:Inv X jr σ H s){b:xv}{ks:List Int}(h:H b=some (.tup (ks.map V.int))):G.tupKeyC s.heap e9 (.ref b)=some (ixs ks):=by
 obtain⟨its,rv,⟨o,ho,hc,n,hd⟩,_⟩:=I.tuple (SqT.of (K:=X.K) h);have e1:G.isTupObj s.heap (.ref b)=true:=by
  show(match s.heap.get? b with|some o=>(match o.cls with| .type n=>n== "tuple" |_=>false)|none=>false)=true
  rw[ho];show(match o.cls with| .type n=>n== "tuple" |_=>false)=true
  rw[hc];rfl
 have e2:tupKey s.heap e9 (.ref b)=some (ixs ks):=by
  show(match s.heap.get? b with|some o=>(match o.data with| .seq xs _=>tupItems e9 0 xs.toList|_=>none)|none=>none)=_
  rw[ho];show(match o.data with| .seq xs _=>tupItems e9 0 xs.toList|_=>none)=_
  rw[hd];exact n9 0 rv
 unfold G.tupKeyC;rw[ah e1,e2]
theorem OI(I:Inv X jr σ H s){b:xv}{ks:List Int}(h:H b=some (.tup (ks.map V.int)))(jw:ks≠[]):∃f,TupOf s.heap e9 (.ref b) f:=by
 obtain⟨its,rv,⟨o,ho,hc,n,hd⟩,_⟩:=I.tuple (SqT.of (K:=X.K) h);cases ks with
 |nil=>exact absurd rfl jw
 |cons k ks=>
  rw[bh]at rv;cases rv with
  |cons r t=>obtain⟨tk,rfl⟩:=r;exact⟨.int k tk,b,o,_,n,rfl,ho,hc,hd,rfl,λ_=>⟨k,tk,rfl⟩,λz=>nomatch z⟩
theorem EG(I:Inv X jr σ H s){kf:xv->List Int}:∀{bs as:List xv},Paired (λb a=>H b=some (.tup ((kf a).map V.int))) bs as->(∀a∈as,kf a≠[])->∃fs,TupsOf s.heap e9 (bs.map fv.ref) fs/\fs.length=bs.length
 |_,_,.nil,_=>⟨[],.nil,rfl⟩
 |_,_,.cons h t,jw=>by
  obtain⟨fs,h1,h2⟩:=EG I t λa ha=>jw a (ao _ ha)
  obtain⟨f,hf⟩:=OI I h (jw _ ay);exact⟨f::fs,.cons hf h1,by rw[bo,bo,h2]⟩
end
def rr(p:xv×xv):Keyed:=(.ref p.1,.ref p.2)
def adr:fv->xv
 | .ref a=>a
 |_=>0
def un(p:Keyed):xv×xv:=(adr p.1,adr p.2)
theorem tG:∀(bs as:List xv),(bs.map fv.ref).zip (as.map fv.ref)=(bs.zip as).map rr
 |[],as=>rfl
 |b::bs,[]=>rfl
 |b::bs,a::as=>by
  show(fv.ref b,fv.ref a)::(bs.map fv.ref).zip (as.map fv.ref)=rr (b,a)::(bs.zip as).map rr
  rw[tG bs as];rfl
theorem x6{α β:Type}{R:α->β->Prop}:∀{l:List α}{m:List β},Paired R l m->∀p∈l.zip m,R p.1 p.2
 |_,_,.nil,p,h=>by cases h
 |_,_,.cons r t,p,h=>by
  rcases aq.mp h with rfl|h
  ·exact r
  ·exact x6 t p h
theorem EF{α β:Type}:∀{l:List α}{m:List β},l.length=m.length->(l.zip m).map (·.2)=m
 |[],[],_=>rfl
 |a::l,b::m,h=>by
  show b::(l.zip m).map (·.2)=b::m
  rw[EF (by simpa using h)]
theorem J7{h:Fp}{kf:xv->List Int}{bs as:List xv}{xs:Array Keyed}(hl:bs.length=as.length)(hk:∀p∈bs.zip as,G.tupKeyC h e9 (.ref p.1)=some (ixs (kf p.2)))
  (hp:xs.Perm ((bs.map fv.ref).toArray.zip (as.map fv.ref).toArray)) (hs:SortedToK (G.tupKindC h e9) xs xs.size):
  ∃out:List xv,(xs.map (·.2)).toList=out.map fv.ref/\out.Perm as/\out.Pairwise λa b=>leI (kf a) (kf b):=by
 have hp2:xs.toList.Perm ((bs.zip as).map rr):=by have:=Array.perm_iff_toList_perm.mp hp;rw[ksk_zip,List.toList_toArray,tG]at this;exact this
 have e0:xs.toList=(xs.toList.map un).map rr:=by
  rw[dt]
  conv=>lhs;rw[<- map_id xs.toList]
  apply dk;intro p hpm;obtain⟨q,_,rfl⟩:=au.mp (hp2.mem_iff.mp hpm);rfl
 have Dl:(xs.toList.map un).Perm (bs.zip as):=by
  have:=hp2.map un;rw[dt]at this;have e:(bs.zip as).map (un∘rr)=bs.zip as:=by
   conv=>rhs;rw[<- map_id (bs.zip as)]
   rfl
  rw[e]at this;exact this
 refine⟨(xs.toList.map un).map (·.2),?_,?_,?_⟩
 ·rw[Array.toList_map]
  conv=>lhs;rw[e0]
  rw[dt,dt,dt,dt];rfl
 ·have:=Dl.map (·.2);rw[EF hl]at this;exact this
 ·rw[gm,List.pairwise_iff_getElem];intro i j hi hj hij;have tw:i<xs.size:=by simpa using hi
  have Aq:j<xs.size:=by simpa using hj
  have q:=hs i j (le_of_lt hij) Aq;have kk:∀(n:Nat)(hn:n<xs.size)(Bo:n<(xs.toList.map un).length),KK (G.tupKindC h e9) xs n=ixs (kf ((xs.toList.map un)[n].2)):=by
   intro n hn Bo;have hm:(xs.toList.map un)[n]∈bs.zip as:=Dl.mem_iff.mp (List.getElem_mem Bo);have vz:=hk _ hm;have ex:xs[n]=rr ((xs.toList.map un)[n]):=by
    have h1:xs.toList[n]'(by simpa using hn)=rr ((xs.toList.map un)[n]):=by
     have:xs.toList[n]? =((xs.toList.map un).map rr)[n]? :=by rw[<- e0]
     rw[cc (by simpa using hn),bc,cc Bo]at this;exact Option.some.inj this
    rw[<- h1];simp
   show(match xs[n]? with|some p=>((G.tupKindC h e9).keyOf p.1).getD (G.tupKindC h e9).dflt|none=>(G.tupKindC h e9).dflt)=_
   rw[fx hn,ex];show(G.tupKeyC h e9 (.ref _)).getD []=_
   rw[vz];rfl
  rw[kk i tw hi,kk j Aq hj]at q;exact q
section
variable {X:Cx}{jr:Hg}{σ:L2.St}{H:Hp}{s:Fe}{k:Nat}{f:xv}{fd:Gi}{par:Str}{sp:Sp}
theorem OV{Q:VK}{us:List fv}{vs:List V}(F:bJ X.prog X.w X.K X.mg X.base CX0 k f fd [par] sp)(hr:cR k X.A.in1.in1)(hb:Binds X.K fd [par] [])(I:Inv X jr σ H s)(r:Vals vs us)(h:sp vs H Q E0):
  Fi (Fm X.prog X.w) X.A.in1.in1 (call (.ref f) us) (EP X jr σ Q) (λ_ _=>False) s:=by
 have hl:(us++[]).length=[par].length:=by rw[di,<- r.length];exact F.len _ _ _ _ h
 refine wpAny_call (codeAny_mono (F.run X.A.in1.in1 X.stack s H ⟨us,[]⟩ (us++[]) vs Q E0 hr I.L4.in1.in1 (hb s us I.kIn hl) (by rw[di];exact r) h) λo s' hq=>?_);cases o with
 |error e=>exact hq.elim
 |ok fl=>
  cases fl with
  |ret u=>exact I.after hq
  |next=>exact hq.elim
  |brk=>exact hq.elim
  |cont=>exact hq.elim
theorem IT{L kS:xv}{od:Obj}{e1:Nat}{ks:List V}{out:List xv}{st:SortSt}{P:PySem.Fin->Fe->Prop}(I:Inv X jr σ H s)(hL:H L=some (.frz od (.lst [])))(hn:∀o' u',X.H_0 L≠some (.frz o' u'))(ho:od=seqObj "list" #[] e1)
  (hK:H kS=some (.lst ks)) (jw:kS≠L) (eo:((arrOf st).map (·.2)).toList=out.map fv.ref) (hz:out.length<=Fh) (hf:failedOf st=none)
  (h:∀s',Inv X jr σ (upd (upd (upd H kS (.lst [])) L (.lst [])) L (.lst (out.map V.ref))) s'->P (.done (.ret .none)) s'):Fi (Fm X.prog X.w) X.A.in1.in1 (ksk_tail L false e1 (.ref kS) st) P X.xe s:=by
 obtain⟨zk,itk,nk,rk,lk,ek⟩:=I.AR hK;have I1:=I.DB (t':=s.toks) (its':=[]) (f:=λ_=>#[]) hK ek rfl .nil (cn _);have El:(upd H kS (.lst [])) L=some (.frz od (.lst [])):=by rw[aB jw.symm];exact hL
 have eL:(s.heap.update kS (Obj.mapSeq λ_=>#[])).get? L=some (seqObj "list" #[] e1):=by rw[<- ho];exact(I1.hok L _ El).1
 have I2:=I1.unlock El hn;have eo2:(arrOf st).map (·.2)=(out.map fv.ref).toArray:=by rw[<- eo,Array.toArray_toList]
 have rv:∀l:List xv,Vals (l.map V.ref) (l.map fv.ref):=λl=>by
  induction l with
  |nil=>exact .nil
  |cons a l ih=>exact .cons rfl ih
 have I3:=I2.DB (t':=s.toks) (its:=[]) (its':=out.map fv.ref) (f:=λ_=>if false=true then((arrOf st).map (·.2)).reverse else(arrOf st).map (·.2)) a8 eL (by rw[af bp];exact eo2) (rv out) (by rw[ai];exact hz);unfold ksk_tail;dsimp only;refine aa (listUpdate_at ek rfl ?_ (by rw[bj,<- lk];exact zk) (cn _));refine aa (wpAny_letGo (aa (seqEpoch_at eL rfl ?_)));refine aa (listUpdate_at eL rfl ?_ (cn _) (by rw[af bp,eo2,bj,ai];omega));rw[hf];simp only[bne_self_eq_false,dc,if_false];exact ag (h _ I3)
end
section
variable {X:Cx}{jr:Hg}{σ:L2.St}{H:Hp}{s:Fe}{k:Nat}{f:xv}{fd:Gi}{par:Str}{sp:Sp}{kf:xv->List Int}
theorem wB:∀l:List xv,Vals (l.map V.ref) (l.map fv.ref)
 |[]=>.nil
 |_::l=>.cons rfl (wB l)
theorem NP{L kS:xv}{od:Obj}{e1:Nat}{bs as:List xv}{P:PySem.Fin->Fe->Prop}(I:Inv X jr σ H s)(hL:H L=some (.frz od (.lst [])))(hn:∀o' u',X.H_0 L≠some (.frz o' u'))(ho:od=seqObj "list" #[] e1)
  (hK:H kS=some (.lst (bs.map V.ref))) (jw:kS≠L) (hp:Paired (λb a=>H b=some (.tup ((kf a).map V.int))) bs as) (hk:∀a∈as,kf a≠[]) (hz:as.length<=Fh)
  (h:∀(out:List xv)(s':Fe),out.Perm as->(out.Pairwise λa b=>leI (kf a) (kf b))->Inv X jr σ (upd (upd (upd H kS (.lst [])) L (.lst [])) L (.lst (out.map V.ref))) s'->P (.done (.ret .none)) s'):
  Fi (Fm X.prog X.w) X.A.in1.in1 (ksk_end L false (as.map fv.ref).toArray e1 (.ref kS) (bs.map fv.ref).toArray) P X.xe s:=by
 have hl:=pairs_len hp;have ng:∀p∈bs.zip as,G.tupKeyC s.heap e9 (.ref p.1)=some (ixs (kf p.2)):=λp hm=>PU I (x6 hp p hm)
 have zs:((bs.map fv.ref).toArray.zip (as.map fv.ref).toArray).size=as.length:=by rw[Array.size_zip,bj,bj,ai,ai,hl,Nat.min_self]
 have fin:∀st:SortSt,(arrOf st).Perm ((bs.map fv.ref).toArray.zip (as.map fv.ref).toArray)->SortedToK (G.tupKindC s.heap e9) (arrOf st) (arrOf st).size->failedOf st=none->Fi (Fm X.prog X.w) X.A.in1.in1 (ksk_tail L false e1 (.ref kS) st) P X.xe s:=by intro st h1 h2 h3;obtain⟨out,e,pm,pw⟩:=J7 hl ng h1 h2;exact IT I hL hn ho hK jw e (by rw[pm.length_eq];exact hz) h3 λs' I'=>h out s' pm pw I'
 unfold ksk_end;dsimp only;simp only[dc,if_false];by_cases h2:(as.map fv.ref).toArray.size<2
 ·rw[ah h2,ah h2];refine aa (ag ?_);rw[StateT.run_pure];refine aa (ag (fin (SortSt.mk' general' ((bs.map fv.ref).toArray.zip (as.map fv.ref).toArray) #[] 7 none) (Array.Perm.refl _) ?_ rfl));intro i j hij hj;have hj2:j<((bs.map fv.ref).toArray.zip (as.map fv.ref).toArray).size:=hj;rw[zs]at hj2;rw[bj,ai]at h2;have e:i=j:=Hc
  rw[e];exact KeyOrd.kle_refl _
 ·rw[af h2,af h2];rw[bj,ai]at h2;obtain⟨fs,ht,yu⟩:=EG I hp hk;refine aa (tup_kind Hc ht ?_);refine aa (wpAny_mono (G.wpS_sortRunsSt (κ:=G.tupKindC s.heap e9) (kd:=tuples' true) (a₀:=(bs.map fv.ref).toArray.zip (as.map fv.ref).toArray) (st:=SortSt.mk' (tuples' true) ((bs.map fv.ref).toArray.zip (as.map fv.ref).toArray) #[] 7 none)
   (Q:=λ_ st=>(arrOf st).Perm ((bs.map fv.ref).toArray.zip (as.map fv.ref).toArray)/\SortedToK (G.tupKindC s.heap e9) (arrOf st) (arrOf st).size/\failedOf st=none)
   (G.tupC_ltAt true (G.KeepsTups.refl _)) (λp hm=>?_) ⟨Array.Perm.refl _,rfl,rfl⟩ rfl (Stable.refl _) (by rw[zs];omega) λst a1 a2 a3 _=>⟨a1,by rw[a1.size_eq];exact a3,a2⟩) ?_ λ_ _ e=>e)
  ·rw[ksk_zip,List.toList_toArray,tG]at hm;obtain⟨q,hq,rfl⟩:=au.mp hm;exact⟨_,ng q hq⟩
  ·rintro⟨⟨⟩,st⟩ s' ⟨rfl,h1,h3,h4⟩;exact fin st h1 h3 h4
theorem J9{L kS:xv}{od:Obj}{e1:Nat}{as:List xv}{P:PySem.Fin->Fe->Prop}{H0:Hp}(F:bJ X.prog X.w X.K X.mg X.base CX0 k f fd [par] sp)(hr:cR k X.A.in1.in1)(hb:Binds X.K fd [par] [])(I:Inv X jr σ H s)
  (hL:H0 L=some (.frz od (.lst []))) (hn:∀o' u',X.H_0 L≠some (.frz o' u')) (ho:od=seqObj "list" #[] e1) (Ad:a9 H0 H) (hK0:H0 kS=none) (hK:H kS=some (.lst [])) (hk:∀a∈as,kf a≠[]) (hz:as.length<=Fh)
  (ku:∀a∈as,∀H2,a9 H0 H2->sp [.ref a] H2 (λr H3=>a9 H2 H3/\∃b,r=.ref b/\H3 b=some (.tup ((kf a).map V.int))) E0)
  (h:∀(out:List xv)(H':Hp)(s':Fe),out.Perm as->(out.Pairwise λa b=>leI (kf a) (kf b))->(∀b u,b≠L->H0 b=some u->H' b=some u)->H' L=some (.lst (out.map V.ref))->Inv X jr σ H' s'->P (.done (.ret .none)) s'):
  Fi (Fm X.prog X.w) X.A.in1.in1 (ksk_rest L (.ref f) false (as.map fv.ref).toArray e1 (.ref kS)) P X.xe s:=by
 have jw:kS≠L:=(aI hL hK0).symm;unfold ksk_rest;refine aa (wpAny_rule ?_);rw[List.forIn_toArray];refine aa (ksk_fold (λi s'=>∃(H':Hp)(bs:List xv),Inv X jr σ H' s'/\a9 H0 H'/\H' kS=some (.lst (bs.map V.ref))/\Paired (λb a=>H' b=some (.tup ((kf a).map V.int))) bs (as.take i)) (as.map fv.ref) 0 s ⟨H,[],I,Ad,hK,.nil⟩ ?_ ?_)
 ·rintro j x s' hx ⟨H',bs,I',s2,h2,pr⟩;rw[Nat.zero_add]at pr ⊢;rw[bc]at hx;obtain⟨a,ha,rfl⟩:∃a,as[j]? =some a/\x=.ref a:=by
   cases e:as[j]? with
   |none=>rw[e]at hx;cases hx
   |some a=>rw[e]at hx;exact⟨a,rfl,(Option.some.inj hx).symm⟩
  have hj:j<as.length:=(ar.mp ha).1;refine aa (wpAny_attempt (wpAny_mono (OV F hr hb I' (vs:=[.ref a]) (.cons rfl .nil) (ku a (ba ha) H' s2)) (λv s3 q=>?_) λ_ _ z=>z.elim));obtain⟨v',H3,I3,rel,s3',b,rfl,hb3⟩:=q;cases rel;have h3:=s3' _ _ h2;obtain⟨zk,itk,nk,rk,lk,ek⟩:=I3.AR h3;have lb:=pairs_len pr;rw[bx]at lb;rw[ai]at lk;have eik:=jU rk;dsimp only;refine aa (listUpdate_at ek rfl ?_ (by rw[bj];omega) (by rw[Array.size_push,bj];omega));have I4:=I3.DB (t':=s3.toks) (its:=itk) (its':=itk++[.ref b]) (f:=(·.push (.ref b))) (ys:=(bs++[b]).map V.ref) h3 ek (by simp) (by rw[cf];exact rk.append (.cons rfl .nil)) (by rw[ai,aj];simp;omega);refine ag ⟨rfl,_,bs++[b],I4,a9.put (a9.trans s2 s3') hK0,a8,?_⟩;have yn:∀(b':xv)(xs:List V),H3 b'=some (.tup xs)->(upd H3 kS (.lst ((bs++[b]).map V.ref))) b'=some (.tup xs):=λb' xs e=>by rw[aB (fK e h3 (by intro z;cases z))];exact e
  rw[take_snoc ha];exact bC (R:=λb' a'=>(upd H3 kS (.lst ((bs++[b]).map V.ref))) b'=some (.tup ((kf a').map V.int))) (yn _ _ hb3) (aM (λb' a' e=>yn _ _ (s3' _ _ e)) pr)
 ·rintro s' ⟨H',bs,I',s2,h2,pr⟩;rw[Nat.zero_add,ai,bf (aw _)]at pr;obtain⟨zk,itk,nk,rk,lk,ek⟩:=I'.AR h2;have eik:=jU rk;subst eik;refine aa (listItems_at ek rfl ?_);refine NP I' (s2 _ _ hL) hn ho h2 jw pr hk hz λout s3 pm pw I3=>h out _ s3 pm pw (λb u nb e=>?_) a8 I3
  rw[aB nb,aB nb,aB (aI e hK0)];exact s2 _ _ e
theorem IY{L:xv}{as:List xv}{P:PySem.Fin->Fe->Prop}(F:bJ X.prog X.w X.K X.mg X.base CX0 k f fd [par] sp)(hr:cR k X.A.in1.in1)(hb:Binds X.K fd [par] [])(I:Inv X jr σ H s)
  (hL:H L=some (.lst (as.map V.ref))) (hk:∀a∈as,kf a≠[])
  (ku:∀a∈as,∀H2,But L H H2->sp [.ref a] H2 (λr H3=>a9 H2 H3/\∃b,r=.ref b/\H3 b=some (.tup ((kf a).map V.int))) E0)
  (h:∀(out:List xv)(H':Hp)(s':Fe),out.Perm as->(out.Pairwise λa b=>leI (kf a) (kf b))->But L H H'->H' L=some (.lst (out.map V.ref))->Inv X jr σ H' s'->P (.done (.ret .none)) s'):
  Fi (Fm X.prog X.w) X.A.in1.in1 (ksk_tree L (.ref f) false) P X.xe s:=by
 obtain⟨z,its,n,r,hl,e⟩:=I.AR hL;have ei:=jU r;subst ei;rw[ai]at z;have I1:=I.DB (t':=s.toks) (its':=[]) (f:=λ_=>#[]) hL e rfl .nil (cn _);obtain⟨e1,he1⟩:∃e1,(s.heap.update L (Obj.mapSeq λ_=>#[])).get? L=some (seqObj "list" #[] e1):=⟨_,get?_update_seq e λ_=>#[]⟩
 have hn:=I1.x9 a8 trivial;obtain⟨od,I2⟩:=I1.lock a8 trivial;have eod:od=seqObj "list" #[] e1:=by have q:=(I2.hok L _ a8).1;rw[he1]at q;exact(Option.some.inj q).symm
 have b2:But L H (upd (upd H L (.lst [])) L (.frz od (.lst []))):=((But.refl L H).here).here;have hL2:(upd (upd H L (.lst [])) L (.frz od (.lst []))) L=some (.frz od (.lst [])):=a8;generalize (upd (upd H L (.lst [])) L (.frz od (.lst [])))=H2 at I2 b2 hL2;unfold ksk_tree;refine aa (listItems_at e rfl ?_);refine aa (listUpdate_at e rfl ?_ (by rw[bj,ai];exact z) (cn _));refine aa (seqEpoch_at he1 rfl ?_);refine aa (wpAny_newTuple ?_ (by rw[List.toList_toArray,ai];exact z));have I3:Inv X jr σ H2 {s with heap:=(s.heap.update L (Obj.mapSeq λ_=>#[])).push {cls:=.type "tuple",data:=.seq (as.map fv.ref).toArray.toList.toArray}}:=I2.kept (t':=s.toks) λb u q=>ak _ q
 refine aa (wpAny_newList ?_ (cn _));refine wpAny_holding ?_;have fr:=I3.fresh;have I4:=I3.VQ (t':=s.toks) (ys:=[]) (its:=[]) .nil (cn _);refine J9 F hr hb I4 hL2 hn eod (a9.upd fr) fr a8 hk z (λa ha H3 s3=>ku a ha H3 (b2.trans (a9.but s3))) λout H' s' pm pw bt hL' I'=>h out H' s' pm pw (b2.trans bt) hL' I'
end
section
variable {prog:Fo}{w:Fw}{A:Ft}{E:Hf}{s:Fe}{d:xv}{o:Obj}{es:Array Gd}{ep:Nat}
theorem LH{Q:List fv->Fe->Prop}(hs:(d==Fy)=false)(hh:A.handled=none)(e:kR s.heap d o es ep)(hz:es.size<=Fh)
  (h:∀(vs:List fv) h' tk,vs.length=es.size->(∀(j:Nat)(v:fv),vs[j]? =some v->∃en,es[j]? =some en/\v=en.key)->(∀b q,s.heap.get? b=some q->h'.get? b=some q)->Q vs {s with heap:=h',toks:=tk}):Fi (Fm prog w) A (collect (.ref d)) Q E s:=by
 have hd:d<s.heap.objs.size:=br e.at_
 delta collect
 refine aa (wpAny_runValue (codeAny_builtin entry_proto_collect' ?_));show Fi _ _ (newList []>>=λl=>again (.builtin "list.__iadd__" ⟨[l,.ref d],[]⟩)) _ _ s
 refine aa (wpAny_newList (ag ⟨Code.quiet_builtin _ (by decide+kernel),codeAny_builtin entry_list_iadd' ?_⟩) (cn _));have e2:kR (s.heap.push {cls:=.type "list",data:=.seq #[]}) d o es ep:=e.to λq z=>ak _ z
 have hS:(s.heap.push {cls:=.type "list",data:=.seq #[]}).get? s.heap.objs.size=some {cls:=.type "list",data:=.seq #[] 0}:=az _ rfl;rw[Ft.under_plainId (show plainId "list.__iadd__" =true by decide+kernel) _];show Fi _ _ (Builtin.List.listExtendWith (.ref s.heap.objs.size) (.ref d) (.ref s.heap.objs.size)) _ _ {s with heap:=s.heap.push {cls:=.type "list",data:=.seq #[]}}
 refine W.kdl_extend (R:=λr s'=>match r with| .ok (.ret v)=>Fi (Fm prog w) A (match v with| .ref a=>(do let o<- load a;match o.data with| .seq xs _=>pure xs.toList|_=>unsupported "internal:collect")|_=>unsupported "internal:collect") Q E s'| .ok _=>False| .error e=>E e s') (s:={s with heap:=s.heap.push {cls:=.type "list",data:=.seq #[]}}) (R0 hs e.ex e.dat) hh e2 s.heap.objs.size (jj hd) (jj hd) (.ref s.heap.objs.size) 0 hS (λh' tk acc c kp hl it=>?_) hz;show Fi (Fm prog w) A (load s.heap.objs.size>>= _) Q E _
 refine aa (wpAny_load hl ?_);refine ag (h acc.toList h' tk (by rw[dm];exact it.1) (λj v z=>it.2 j v (by rw[<- gw];exact z)) λb q z=>?_);exact kp b q (cj (br z)) (ak _ z)
end
section
variable {X:Cx}{jr:Hg}{σ:L2.St}{H:Hp}{s:Fe}{k:Nat}{f:xv}{fd:Gi}{par:Str}{sp:Sp}{kf:xv->List Int}
theorem tR{l:xv}{as:List xv}{Q:VK}(F:bJ X.prog X.w X.K X.mg X.base CX0 k f fd [par] sp)(hr:cR k X.A.in1.in1)(hb:Binds X.K fd [par] [])(I:Inv X jr σ H s)(hz:as.length<=Fh)
  (col:∀Q':List fv->Fe->Prop,(∀h' tk,(∀b q,s.heap.get? b=some q->h'.get? b=some q)->Q' (as.map fv.ref) {s with heap:=h',toks:=tk})->Fi (Fm X.prog X.w) X.A.in1 (collect (.ref l)) Q' X.xe s)
  (hk:∀a∈as,kf a≠[]) (ku:∀a∈as,∀H2,a9 H H2->sp [.ref a] H2 (λr H3=>a9 H2 H3/\∃b,r=.ref b/\H3 b=some (.tup ((kf a).map V.int))) E0)
  (h:∀(L:xv)(out:List xv)(H':Hp),H L=none->out.Perm as->(out.Pairwise λa b=>leI (kf a) (kf b))->a9 H H'->H' L=some (.lst (out.map V.ref))->Q (.ref L) H'):
  Fi (Fm X.prog X.w) X.A (call (.builtin "sorted") [.ref l] [(Str.ofString "key",.ref f)]) (EP X jr σ Q) X.xe s:=by
 refine call_function_entry_kw kind_sorted plain_sorted entry_sorted (ksk_s1 _ _) ?_
 delta Builtin.«sorted»
 refine aa (m:=checkCount "sorted" 1 1 _) (ag (aa (col _ λh1 Cb k1=>?_)));refine aa (wpAny_newList ?_ (by rw[ai];exact hz));have I1:Inv X jr σ H {s with heap:=h1,toks:=Cb}:=I.kept k1;have fr:=I1.fresh;have I2:=I1.VQ (t':=Cb) (wB as) (by rw[ai];exact hz);have Dd:({s with heap:=h1.push {cls:=.type "list",data:=.seq (as.map fv.ref).toArray},toks:=Cb}:Fe).TypeIs (.ref h1.objs.size) "list" :=⟨_,az _ rfl,rfl⟩;refine aa (wpAny_holding (wpAny_call_entry_kw slot_list_sort Dd entry_list_sort ?_ (ksk_l1 _ _)));show Fi (Fm X.prog X.w) X.A.in1.in1 (Builtin.«list.sort» ⟨[.ref h1.objs.size],[(Str.ofString "key",.ref f)]⟩) _ _ _
 rw[ksk_t1];refine IY F hr hb I2 a8 hk (λa ha H2 b2=>ku a ha H2 (But.same b2 (a9.upd fr) fr)) λout H' s' pm pw bt hL I'=>?_
 exact⟨_,rfl,ag ⟨_,rfl,.ref h1.objs.size,H',I',rfl,h _ out H' fr pm pw (But.same bt (a9.upd fr) fr) hL⟩⟩
end
noncomputable def QQ(K:Fg)(sp:Sp)(t:TA):TE:=λσ H Q=>t σ H λvs H1=>∃(l:xv)(as:List xv)(kf:xv->List Int),vs=[.ref l]/\SqL K H1 l (as.map V.ref)/\(∀a∈as,kf a≠[])/\
 (∀a∈as,∀H2,a9 H1 H2->sp [.ref a] H2 (λr H3=>a9 H2 H3/\∃b,r=.ref b/\H3 b=some (.tup ((kf a).map V.int))) E0)/\
 ∀(L:xv)(out:List xv)(H':Hp),H1 L=none->out.Perm as->(out.Pairwise λa b=>leI (kf a) (kf b))->a9 H1 H'->H' L=some (.lst (out.map V.ref))->Q (.ref L) H'
noncomputable def ON(sp:Sp)(t:TA):TE:=λσ H Q=>t σ H λvs H1=>∃(d:xv)(kvs:List (List Key×V)),vs=[.ref d]/\Rd H1 d (.dT kvs)/\∀as:List xv,mF H1 (as.map V.ref) kvs->∃kf:xv->List Int,(∀a∈as,kf a≠[])/\
 (∀a∈as,∀H2,a9 H1 H2->sp [.ref a] H2 (λr H3=>a9 H2 H3/\∃b,r=.ref b/\H3 b=some (.tup ((kf a).map V.int))) E0)/\
 ∀(L:xv)(out:List xv)(H':Hp),H1 L=none->out.Perm as->(out.Pairwise λa b=>leI (kf a) (kf b))->a9 H1 H'->H' L=some (.lst (out.map V.ref))->Q (.ref L) H'
theorem xF{H:Hp}:∀{qs:List V}{kvs:List (List Key×V)},mF H qs kvs->∃as:List xv,qs=as.map V.ref
 |_,_,.nil=>⟨[],rfl⟩
 |_,_,.cons ⟨q,e,_⟩ t=>by obtain⟨as,rfl⟩:=xF t;exact⟨q::as,by rw[e];rfl⟩
section
variable {X:Cx}{k:Nat}{y par:Str}{sp:Sp}{e:Fz}{ta:TA}{p p2 p3 pos:Pos}
theorem wX{Qs:VK->List V->Hp->Prop}(hg:Gl X "sorted")(hm:X.mg "sorted" =none)(hy:Gl X y){f:xv}(Dx:X.mg y=some (.ref f))(ha:PA X [e] ta)(Ef:(y==("__debug__" : Str))=false)
  (run:∀(jr:Hg)(s:Fe)(σ:L2.St)(H:Hp)(vs:List V)(us:List fv)(Q:VK),Inv X jr σ H s->Vals vs us->Qs Q vs H->Fi (Fm X.prog X.w) X.A (call (.builtin "sorted") us [(Str.ofString "key",.ref f)]) (EP X jr σ Q) X.xe s)
  (h1:backTo pos (Fq [e] X.env)=(false,eval e X.env)::backTo pos (Fq [] X.env)) (h2:(backTo pos (Fq [e] X.env)).any (·.1)=false):
  PE X (.Call (.Name "sorted" p) [e] [⟨some "key",.Name y p2,p3⟩] pos) (λσ H Q=>ta σ H (Qs Q)):=by
 intro jr s σ H Q I h;refine wpAny_Call_Name_kw (qS I hg hm (show bootBuiltins "sorted" =some (.builtin "sorted") by rfl) ?_);refine callWith_kw (thn (ha pos jr s σ H (Qs Q) I h) λus s1 ⟨vs,H1,I1,r,q⟩=>?_) h1 h2;refine kws_cons (k6 I1 hy Dx (kws_nil ?_) Ef);exact run jr _ σ H1 vs us Q I1 r q
theorem uB(D:aO X.prog X.w X.K X.mg X.base CX0 k y [par] sp)(hr:cR (k+2) X.A)(hg:Gl X "sorted")(hm:X.mg "sorted" =none)(hy:Gl X y)(ha:PA X [e] ta)(Ef:(y==("__debug__" : Str))=false:=by decide)
  (h1:backTo pos (Fq [e] X.env)=(false,eval e X.env)::backTo pos (Fq [] X.env):=by rfl) (h2:(backTo pos (Fq [e] X.env)).any (·.1)=false:=by rfl):
  PE X (.Call (.Name "sorted" p) [e] [⟨some "key",.Name y p2,p3⟩] pos) (QQ X.K sp ta):=by
 obtain⟨f,fd,F,Dx,hkf,hb⟩:=D.ex;refine wX (Qs:=λQ vs H1=>∃(l:xv)(as:List xv)(kf:xv->List Int),vs=[.ref l]/\SqL X.K H1 l (as.map V.ref)/\(∀a∈as,kf a≠[])/\(∀a∈as,∀H2,a9 H1 H2->sp [.ref a] H2 (λr H3=>a9 H2 H3/\∃b,r=.ref b/\H3 b=some (.tup ((kf a).map V.int))) E0)/\
  ∀(L:xv)(out:List xv)(H':Hp),H1 L=none->out.Perm as->(out.Pairwise λa b=>leI (kf a) (kf b))->a9 H1 H'->H' L=some (.lst (out.map V.ref))->Q (.ref L) H') hg hm hy Dx ha Ef (λjr s σ H vs us Q I r q=>?_) h1 h2
 obtain⟨l,as,kf,rfl,hs,hk,ku,fin⟩:=q;obtain⟨u,rfl,ru⟩:=vals1 r;cases ru;obtain⟨its,rv,pl,hz⟩:=I.list hs;have ei:=jU rv;subst ei;rw[ai]at hz;refine tR F (hr.in1.in1) hb I hz (λQ' q=>collect_list pl.isList (q _ s.toks λb o z=>?_) (by rw[ai];exact hz)) hk ku fin;rw[Fp.get?_update_ne _ _ _ _ (cj (br z))];exact ak _ z
theorem JI(hc:X.calm=true)(D:aO X.prog X.w X.K X.mg X.base CX0 k y [par] sp)(hr:cR (k+2) X.A)(hg:Gl X "sorted")(hm:X.mg "sorted" =none)(hy:Gl X y)(ha:PA X [e] ta)(Ef:(y==("__debug__" : Str))=false:=by decide)
  (h1:backTo pos (Fq [e] X.env)=(false,eval e X.env)::backTo pos (Fq [] X.env):=by rfl) (h2:(backTo pos (Fq [e] X.env)).any (·.1)=false:=by rfl):
  PE X (.Call (.Name "sorted" p) [e] [⟨some "key",.Name y p2,p3⟩] pos) (ON sp ta):=by
 obtain⟨f,fd,F,Dx,hkf,hb⟩:=D.ex;refine wX (Qs:=λQ vs H1=>∃(d:xv)(kvs:List (List Key×V)),vs=[.ref d]/\Rd H1 d (.dT kvs)/\∀as:List xv,mF H1 (as.map V.ref) kvs->∃kf:xv->List Int,(∀a∈as,kf a≠[])/\(∀a∈as,∀H2,a9 H1 H2->sp [.ref a] H2 (λr H3=>a9 H2 H3/\∃b,r=.ref b/\H3 b=some (.tup ((kf a).map V.int))) E0)/\
  ∀(L:xv)(out:List xv)(H':Hp),H1 L=none->out.Perm as->(out.Pairwise λa b=>leI (kf a) (kf b))->a9 H1 H'->H' L=some (.lst (out.map V.ref))->Q (.ref L) H') hg hm hy Dx ha Ef (λjr s σ H vs us Q I r q=>?_) h1 h2
 obtain⟨d,kvs,rfl,hd,q⟩:=q;obtain⟨u,rfl,ru⟩:=vals1 r;cases ru;obtain⟨hs,hz,o,es,ep,en,sz,qd⟩:=pR I hd;obtain⟨qs,uf⟩:∃qs:List V,Vals qs (es.toList.map (·.key))/\mF H qs kvs:=F1 (by rw[ai,dm,sz]) λj u hu=>by
  rw[bc,gw]at hu;cases e:es[j]? with
  |none=>rw[e]at hu;cases hu
  |some n=>rw[e]at hu;obtain⟨k,v,q,a1,a2,a3,_⟩:=qd j n e;exact⟨k,v,q,a1,by rw[<- a2];exact(Option.some.inj hu).symm,a3⟩
 obtain⟨as,rfl⟩:=xF uf.2;obtain⟨kf,hk,ku,fin⟩:=q as uf.2;have ei:=jU uf.1;have sg:as.length=es.size:=by have:=congrArg List.length ei;rw[ai,ai,dm]at this;exact this.symm
 refine tR F (hr.in1.in1) hb I (by rw[sg,sz];exact hz) (λQ' q=>LH hs (I.ok.hd hc) en (by rw[sz];exact hz) λvs h' tk hl hv kp=>?_) hk ku fin;have ev:vs=as.map fv.ref:=by
  rw[<- ei];apply List.ext_getElem?;intro j;cases e:vs[j]? with
  |none=>have:=jm.mp e;rw[jm.mpr (by rw[ai,dm,<- hl];exact this)]
  |some v=>obtain⟨n,hn,rfl⟩:=hv j v e;rw[bc,gw,hn];rfl
 rw[ev];exact q h' tk kp
end
noncomputable def pairOf(H:Hp)(a:xv):PI:=match H a with|some (.tup [.int x,.int y])=>(x,y)|_=>(0,0)
def gJ(H:Hp)(a:xv):List Int:=[(pairOf H a).2,(pairOf H a).1]
theorem mO{H:Hp}{a:xv}{p:PI}(h:H a=some (.tup [.int p.1,.int p.2])):pairOf H a=p:=by unfold pairOf;rw[h]
theorem MZ{H:Hp}{a b:xv}(h:leI (gJ H a) (gJ H b)):eX (pairOf H a) (pairOf H b):=by unfold leI gJ ixs at h;generalize pairOf H a=p at h ⊢;generalize pairOf H b=q at h ⊢;unfold eX;simp[PyProof.Rows.lexLt,itemLt]at h;omega
theorem uC{H:Hp}:∀{as:List xv}{ps:List PI},Paired (T2 H) (as.map V.ref) ps->ps=as.map (pairOf H)
 |[],ps,h=>by cases h;rfl
 |a::as,ps,h=>by
  rw[bh]at h;cases h with
  |cons t r=>obtain⟨b,e,hb⟩:=t;cases e;rw[bh,mO hb,<- uC r]
theorem tY{H:Hp}:∀{as:List xv},(∀a∈as,T2 H (.ref a) (pairOf H a))->Paired (T2 H) (as.map V.ref) (as.map (pairOf H))
 |[],_=>.nil
 |a::as,h=>.cons (h a ay) (tY λb hb=>h b (ao _ hb))
theorem AD{H:Hp}{as:List xv}{ps:List PI}(h:Paired (T2 H) (as.map V.ref) ps):∀a∈as,T2 H (.ref a) (pairOf H a):=by
 induction as generalizing ps with
 |nil=>intro a ha;cases ha
 |cons b as ih=>
  rw[bh]at h;cases h with
  |cons t r=>
   intro a ha;rcases aq.mp ha with rfl|ha
   ·obtain⟨c,e,hc⟩:=t;cases e;exact⟨a,rfl,by rw[mO hc];exact hc⟩
   ·exact ih r a ha
theorem lB{H:Hp}{as out:List xv}{ps:List PI}(h:Paired (T2 H) (as.map V.ref) ps)(hp:out.Perm as)(hs:out.Pairwise λa b=>leI (gJ H a) (gJ H b)):
  ∃ys,Paired (T2 H) (out.map V.ref) ys/\ys.Perm ps/\ys.Pairwise eX:=by
 have ht:=AD h;refine⟨out.map (pairOf H),tY λa ha=>ht a (hp.mem_iff.mp ha),?_,?_⟩
 ·rw[uC h];exact hp.map _
 ·rw[gm];exact hs.imp λz=>MZ z
def dP(p:PI):PyData:=.tuple [.int p.1,.int p.2]
def dW(w:List PI):PyData:=.list (w.map dP)
def dWs(ws:List (List PI)):PyData:=.list (ws.map dW)
theorem a0N{K:Fg}{H:Hp}{v:V}{p:PI}(h:T2 H v p):Dp K H v (dP p):=by obtain⟨a,rfl,ha⟩:=h;exact .tup (SqT.of ha) (.cons (.int _) (.cons (.int _) .nil))
theorem E1{K:Fg}{H:Hp}{α:Type}{R:V->α->Prop}{f:α->PyData}(hf:∀v a,R v a->Dp K H v (f a)):∀{xs:List V}{ys:List α},Paired R xs ys->vJ K H xs (ys.map f)
 |_,_,.nil=>.nil
 |_,_,.cons r t=>.cons (hf _ _ r) (E1 hf t)
theorem a0M{K:Fg}{H:Hp}{v:V}{w:List PI}(h:LT H v w):Dp K H v (dW w):=by obtain⟨a,xs,rfl,ha,pr⟩:=h;exact .lst (SqL.of ha) (E1 (λ_ _ t=>a0N t) pr)
theorem OE{K:Fg}{H:Hp}{v:V}{ws:List (List PI)}(h:LLT H v ws):Dp K H v (dWs ws):=by obtain⟨a,xs,rfl,ha,pr⟩:=h;exact .lst (SqL.of ha) (E1 (λ_ _ t=>a0M t) pr)
theorem nZ{α:Type}[DecidableEq α]{f:α->PyData}(hf:∀a b,PyData.eqv (f a) (f b)=decide (a=b)):∀xs ys:List α,PyData.eqvAll (xs.map f) (ys.map f)=decide (xs=ys)
 |[],[]=>by simp[PyData.eqvAll]
 |[],_::_=>by simp[PyData.eqvAll]
 |_::_,[]=>by simp[PyData.eqvAll]
 |x::xs,y::ys=>by rw[bh,bh,PyData.eqvAll,hf,nZ hf xs ys];rw[df];simp
theorem W2(a b:PI):PyData.eqv (dP a) (dP b)=decide (a=b):=by unfold dP;simp only[PyData.eqv,PyData.eqvAll,Bool.and_true];rw[df];simp[Prod.ext_iff]
theorem W0(a b:List PI):PyData.eqv (dW a) (dW b)=decide (a=b):=by unfold dW;rw[PyData.eqv];exact nZ W2 a b
theorem Q4(a b:List (List PI)):PyData.eqv (dWs a) (dWs b)=decide (a=b):=by unfold dWs;rw[PyData.eqv];exact nZ W0 a b
theorem yZ{α:Type}{f:α->PyData}(hf:∀a,PyData.canLay0 (f a)=true):∀xs:List α,PyData.canLayAll0 (xs.map f)=true
 |[]=>by simp[PyData.canLayAll0]
 |x::xs=>by rw[bh,PyData.canLayAll0,hf,yZ hf xs];rfl
theorem r8{α:Type}{f:α->PyData}{n:Nat}(hf:∀a,PyData.depth (f a)<=n):∀xs:List α,PyData.depthAll (xs.map f)<=n
 |[]=>by simp[PyData.depthAll]
 |x::xs=>by rw[bh,PyData.depthAll];have h1:=hf x;have h2:=r8 hf xs;omega
theorem wH(ws:List (List PI)):SeqAt.shaped (dWs ws)=true:=by
 have l1:∀p,PyData.canLay0 (dP p)=true:=λp=>by simp[dP,PyData.canLay0,PyData.canLayAll0]
 have l2:∀w,PyData.canLay0 (dW w)=true:=λw=>by unfold dW;rw[PyData.canLay0];exact yZ l1 w
 have d1:∀p,PyData.depth (dP p)<=1:=λp=>by simp[dP,PyData.depth,PyData.depthAll]
 have d2:∀w,PyData.depth (dW w)<=2:=λw=>by unfold dW;rw[PyData.depth];have:=r8 d1 w;omega
 unfold SeqAt.shaped dWs;rw[PyData.canLay0,yZ l2 ws,PyData.depth];have:=r8 d2 ws;simp;omega
end L3
namespace L3
open PySem PySem.Spec PySem.Calls PyProof.Rows L2
section
variable {prog:Fo}{w:Fw}{A:Ft}{E:Hf}{s:Fe}{d:xv}{o:Obj}{es:Array Gd}{ep:Nat}
theorem yV(hs:(d==Fy)=false):MeetsIn prog w (Builtin.«dict.items» ⟨[.ref d],[]⟩) (λ_ R s=>(∃o es ep,kR s.heap d o es ep)/\R (.ok (.ret (.ref s.heap.objs.size))) {s with heap:=s.heap.push {cls:=.type "dict_items",data:=.fields #[.ref d]}}):=
 .of_wp λA R s q=>by
  obtain⟨⟨o,es,ep,e⟩,hR⟩:=q
  delta Builtin.«dict.items»
  refine aa (show Fi _ _ (Builtin.Dict.noArgs _ _) _ _ s from ?_)
  delta Builtin.Dict.noArgs
  refine aa (wpAny_notOrdered_dict e.ty (show Fi _ _ (pure d) _ _ s from ag (show Fi _ _ (Builtin.Dict.showsAll d>>=λ_=>_) _ _ s from ?_)))
  delta Builtin.Dict.showsAll
  rw[af (show¬(d==Fy)=true by rw[hs];exact bp)];exact aa (ag (aa (wpAny_newObj_type (ag ⟨_,rfl,hR⟩))))
theorem B0{v:xv}{Q:Hf}(hv:s.heap.IsItemsView v d)(e:kR s.heap d o es ep)
  (hQ:Q (.ref s.heap.objs.size) {s with heap:=s.heap.push {cls:=.type "dict_itemiterator",data:=.fields #[.none,.bool false,.ref d,.int 0 0,.int es.size 0,.int ep 0,.none,.none]}}):Fi (Fm prog w) A (pyIter (.ref v)) Q E s:=by
 obtain⟨vo,v1,v2,v3⟩:=id hv;refine wpAny_pyIter_slot hv.typeIs F.slot_dict_items_iter (wpAny_call_entry F.slot_dict_items_iter hv.typeIs F.entry_dict_items_iter (show Fi _ _ (Builtin.«dict_items.__iter__» _) _ _ _ from ?_) (F.args_dict_items_iter_1 _))
 delta Builtin.«dict_items.__iter__»
 refine aa (ag (aa (show Fi _ _ (Builtin.Dict_items.dictOf _) _ _ _ from ?_)))
 delta Builtin.Dict_items.dictOf
 refine aa (wpAny_field v1 v3 (x:=.ref d) rfl (ag (aa (show Fi _ _ (Builtin.Dict_items.newIterator _ _) _ _ _ from ?_))))
 delta Builtin.Dict_items.newIterator
 refine aa (wpAny_dictEntries e.at_ e.dat (aa (wpAny_dictEpoch e.at_ e.dat ?_)));have own:Builtin.Dict_items.ownsTuple "dict_itemiterator" =true:=Hi
 simp only[own,if_true];refine wpAny_newObj_type (ag ⟨_,rfl,"dict_itemiterator",_,⟨_,az _ rfl,rfl⟩,F.slot_dict_itemiterator_next.lookup,(by simpa[rawInt,Builtin.Dict_items.ownedTupleFields]using hQ)⟩) ?_;simp only[sizeOk,Builtin.Dict_items.ownedTupleFields,bj,aj,bo,fh,sizeLine_eq]<;>omega
theorem D0{it:xv}{i:Nat}{en:Gd}{k0 v0:fv}{Q:Option fv->Fe->Prop}(km:IsItemIter s.heap it d i es.size ep k0 v0)(e:kR s.heap d o es ep)(hx:es[i]? =some en)
  (hQ:∀h',IsItemIterOut h' it d (i+1) es.size ep en.key en.val s.heap.objs.size->h'.get? s.heap.objs.size=some {cls:=.type "tuple",data:=.seq #[en.key,en.val]}->h'.objs.size=s.heap.objs.size+1->(∀b q,b≠it->s.heap.get? b=some q->h'.get? b=some q)->Q (some (.ref s.heap.objs.size)) {s with heap:=h'}):
  Fi (Fm prog w) A (pyNext (.ref it)) Q E s:=by
 obtain⟨g0,gn,dr,tk,os⟩:=s;have ty:Fe.TypeIs ⟨g0,gn,dr,tk,os⟩ (.ref it) "dict_itemiterator" :=⟨_,km,rfl⟩
 delta pyNext
 refine aa (wpAny_attempt (wpAny_callSpecial?_slot (name:=Str.ofString "__next__") ty F.slot_dict_itemiterator_next (wpAny_call_entry F.slot_dict_itemiterator_next ty F.entry_dict_itemiterator_next ?_ (F.args_dict_itemiterator_next_1 _))));refine aa (ag (aa (aa ?_)));first|refine aa (wpAny_typeNameOfWhole_itemiter ty (ag (aa (wpAny_fieldsOf km rfl ?_))))|refine aa (wpAny_typeNameOf_itemiter ty (ag (aa (wpAny_fieldsOf km rfl ?_))))
 have own:Builtin.Dict_items.ownsTuple "dict_itemiterator" =true:=Hi
 simp only[own,if_true];show Fi _ _ (if(fv.ref d==fv.none)=true then _ else _) _ _ ⟨g0,gn,dr,tk,os⟩
 have nn:¬((fv.ref d==fv.none)=true):=bp;rw[af nn];refine aa (ag (aa (wpAny_dictEntries e.at_ e.dat ?_)));rw[af (show¬ _ by simp)];refine aa (ag (aa (wpAny_dictEpoch e.at_ e.dat ?_)));rw[af (show¬ _ by simp)];obtain⟨lt,qd⟩:=gj.mp hx;have i0:¬((i:Int)<0):=Hc
 refine ag ?_;simp only[i0,if_false,dz,fx lt,qd];refine aa ?_;first|refine aa (wpAny_typeNameOfWhole_itemiter ty (ag (aa (wpAny_isOneOf_itemiter ty ?_))))|refine aa (wpAny_typeNameOf_itemiter ty (ag (aa (wpAny_isOneOf_itemiter ty ?_))))
 show Fi _ _ (setField (.ref it) 3 (rawInt ((i:Int)+1))>>=λ_=>_) _ _ ⟨g0,gn,dr,tk,os⟩
 refine aa (wpAny_setField_rec km (by simp) λg1 a1 b1=>?_);replace b1:Fp.SameBut it g0 g1:=b1;replace a1:IsItemIter g1 it d (i+1) es.size ep k0 v0:=by
  have ei:((i+1:Nat):Int)=(i:Int)+1:=Hc
  show _=_
  rw[ei];simpa[rawInt]using a1
 have ty1:Fe.TypeIs ⟨g1,gn,dr,tk,os⟩ (.ref it) "dict_itemiterator" :=⟨_,a1,rfl⟩;refine aa (wpAny_holding (aa (wpAny_isOneOf_itemiter ty1 (aa (wpAny_isOneOf_itemiter ty1 ?_)))));show Fi _ _ (Builtin.Dict_items.pairFromOwner (.ref it) 6 en.key en.val) _ _ ⟨g1,gn,dr,tk,os⟩
 delta Builtin.Dict_items.pairFromOwner
 refine aa (wpAny_newTuple ?_);have a2:IsItemIter (g1.push {cls:=.type "tuple",data:=.seq #[en.key,en.val]}) it d (i+1) es.size ep k0 v0:=ak _ a1;have z1:g1.objs.size=g0.objs.size:=b1.1;have il:it<g0.objs.size:=br km;have t2:(g1.push {cls:=.type "tuple",data:=.seq #[en.key,en.val]}).get? g0.objs.size=some {cls:=.type "tuple",data:=.seq #[en.key,en.val]}:=by rw[<- z1];exact az _ rfl
 have z2:(g1.push {cls:=.type "tuple",data:=.seq #[en.key,en.val]}).objs.size=g0.objs.size+1:=by rw[fo,z1]
 have k2:∀b q,b≠it->g0.get? b=some q->(g1.push {cls:=.type "tuple",data:=.seq #[en.key,en.val]}).get? b=some q:=λb q hb z=>ak _ (b1.extBut b q hb z)
 show Fi _ _ (Builtin.Dict_items.ownedTupleIsFree (.ref it)>>=λ_=>_) _ _ ⟨g1.push {cls:=.type "tuple",data:=.seq #[en.key,en.val]},gn,dr,tk,os⟩
 rw[z1];generalize (g1.push {cls:=.type "tuple",data:=.seq #[en.key,en.val]})=g2 at a2 t2 z2 k2 ⊢;refine aa (show Fi _ _ (Builtin.Dict_items.ownedTupleIsFree _) _ _ _ from ?_)
 delta Builtin.Dict_items.ownedTupleIsFree
 refine aa (wpAny_field a2 rfl (x:=.none) rfl (ag ?_));simp only[if_true];refine aa (wpAny_field a2 rfl (x:=k0) rfl (aa (wpAny_field a2 rfl (x:=v0) rfl ?_)));refine aa (wpAny_setField_rec a2 (by simp) λg3 a3 b3=>?_);replace b3:Fp.SameBut it g2 g3:=b3;replace a3:IsItemIter g3 it d (i+1) es.size ep en.key v0:=a3;refine aa (wpAny_setField_rec a3 (by simp) λg4 a4 b4=>?_);replace b4:Fp.SameBut it g3 g4:=b4;replace a4:IsItemIter g4 it d (i+1) es.size ep en.key en.val:=a4;refine aa (wpAny_setField_rec a4 (by simp) λg5 a5 b5=>?_);replace b5:Fp.SameBut it g4 g5:=b5;replace a5:IsItemIterOut g5 it d (i+1) es.size ep en.key en.val g0.objs.size:=a5;refine aa (wpAny_setField_rec a5 (by simp) λg6 a6 b6=>?_);replace b6:Fp.SameBut it g5 g6:=b6;replace a6:IsItemIterOut g6 it d (i+1) es.size ep en.key en.val g0.objs.size:=a6;have kp:∀b q,b≠it->g2.get? b=some q->g6.get? b=some q:=λb q hb z=>b6.extBut b q hb (b5.extBut b q hb (b4.extBut b q hb (b3.extBut b q hb z)))
 refine aa (wpAny_letGo (ag (ag ⟨_,rfl,ag (hQ g6 a6 (kp _ _ (jj il) t2) ?_ λb q hb z=>kp b q hb (k2 b q hb z))⟩)));show g6.objs.size=g0.objs.size+1
 rw[b6.1,b5.1,b4.1,b3.1,z2]
end
section
variable {prog:Fo}{w:Fw}{A:Ft}{E:Hf}{s:Fe}{d:xv}{o:Obj}{es:Array Gd}{ep:Nat}
theorem DH{it:xv}{i:Nat}{k0 v0:fv}{Q:Option fv->Fe->Prop}(hh:A.handled=none)(km:IsItemIter s.heap it d i es.size ep k0 v0)(e:kR s.heap d o es ep)(As:es.size<=i)
  (hQ:∀h',Fp.ExtBut it s.heap h'->Q none {s with heap:=h'}):Fi (Fm prog w) A (pyNext (.ref it)) Q E s:=by
 have ty:s.TypeIs (.ref it) "dict_itemiterator" :=⟨_,km,rfl⟩
 delta pyNext
 refine aa (wpAny_attempt (wpAny_callSpecial?_slot (name:=Str.ofString "__next__") ty F.slot_dict_itemiterator_next (wpAny_call_entry F.slot_dict_itemiterator_next ty F.entry_dict_itemiterator_next ?_ (F.args_dict_itemiterator_next_1 _))));refine aa (ag (aa (aa ?_)));first|refine aa (wpAny_typeNameOfWhole_itemiter ty (ag (aa (wpAny_fieldsOf km rfl ?_))))|refine aa (wpAny_typeNameOf_itemiter ty (ag (aa (wpAny_fieldsOf km rfl ?_))))
 have own:Builtin.Dict_items.ownsTuple "dict_itemiterator" =true:=Hi
 simp only[own,if_true];show Fi _ _ (if(fv.ref d==fv.none)=true then _ else _) _ _ s
 have nn:¬((fv.ref d==fv.none)=true):=bp;rw[af nn];refine aa (ag (aa (wpAny_dictEntries e.at_ e.dat ?_)));rw[af (show¬ _ by simp)];refine aa (ag (aa (wpAny_dictEpoch e.at_ e.dat ?_)));rw[af (show¬ _ by simp)];have i0:¬((i:Int)<0):=Hc
 refine ag ?_;simp only[i0,if_false,dz,getElem?_eq_none As];refine aa ?_;first|refine aa (wpAny_typeNameOfWhole_itemiter ty (ag (show Fi _ _ (setField (.ref it) 2 .none>>=λ_=>_) _ _ s from aa (wpAny_setField km rfl (by simp) ?_))))|refine aa (wpAny_typeNameOf_itemiter ty (ag (show Fi _ _ (setField (.ref it) 2 .none>>=λ_=>_) _ _ s from aa (wpAny_setField km rfl (by simp) ?_))))
 show Fi _ _ (newExc (.type "StopIteration") []>>= _) _ _ _
 refine aa ?_;simp only[newExc,newTuple];refine aa (wpAny_newObj_type ?_ (by size_fits));refine aa (m:=firstArgMember _ _) (wpAny_of_eq (a:=fv.none) (by first|rfl|(simp only[firstArgMember];rfl)) ?_);refine wpAny_newObj_type ?_ (by size_fits);simp only[raiseNew];refine aa (wpAny_handled ?_);rw[show A.in1.handled=none from hh];refine aa (ag (wpAny_throw ?_));refine aa (wpAny_isInstance (T:= "StopIteration") (b:=true) ⟨_,az _ rfl,rfl⟩ isSubtype_stop ?_);exact ag (hQ _ (((Fp.SameBut.update ..).extBut.push _).push _))
end
noncomputable def LP(d:xv)(o:Obj)(kvs:List (List Key×V)):It:=
 ⟨λi H=>H d=some (.frz o (.dT kvs))/\i<kvs.length,λi H x H'=>∃T k v q,kvs[i]? =some (k,v)/\H q=some (.tup (k.map kV))/\x=.ref T/\H T=none/\H'=upd H T (.tup [.ref q,v]),λi H=>H d=some (.frz o (.dT kvs))/\kvs.length<=i⟩
section
variable {P:Fo}{w:Fw}{K:Fg}{d:xv}{o:Obj}{es:Array Gd}{ep:Nat}
theorem BM{X:Cx}{jr:Hg}{σ:L2.St}{H:Hp}{s:Fe}{kvs:List (List Key×V)}(I:Inv X jr σ H s)(h:H d=some (.frz o (.dT kvs)))(qc:o.data=.dict es ep):kR s.heap d o es ep/\es.size=kvs.length/\∀(i:Nat)(en:Gd),es[i]? =some en->∃k v q,kvs[i]? =some (k,v)/\en.key=.ref q/\H q=some (.tup (k.map kV))/\RelV v en.val:=by
 obtain⟨_,_,o',ub,uc,e,sz,en⟩:=pR I (.inr ⟨o,h⟩);have e0:=(I.hok d _ h).1;have eo:o'=o:=by have:=e.at_;rw[e0]at this;exact(Option.some.inj this).symm
 subst eo;obtain⟨rfl,rfl⟩:=kH qc e.dat;exact⟨e,sz,en⟩
theorem zT{kvs:List (List Key×V)}{my:List Fz}{kk:Nat}{nv:Pos}(it:xv)(qc:o.data=.dict es ep):Turn P w K (.Tuple my kk nv) (LP d o kvs) [it] it (λi h=>∃k0 v0,IsItemIter h it d i kvs.length ep k0 v0) where
 mem:=by simp
 obj:=λi h st b hb=>by
  have e:b=it:=by simpa using hb
  subst e;obtain⟨_,_,e⟩:=st;exact⟨_,e,λv z=>nomatch z⟩
 keep:=λi h h' st k=>let⟨k0,v0,e⟩:=st;⟨k0,v0,k it (by simp) _ e⟩
 item:=by
  intro X hP hw hK hc i jr s σ H E I hf st hg;subst hP hw hK;obtain⟨hd,hi⟩:=hg;obtain⟨e,sz,wj⟩:=BM I hd qc;obtain⟨k0,v0,he⟩:=st;rw[<- sz]at he hi;obtain⟨k,v,q,vy,ng,hq,rv⟩:=wj i es[i] (fx hi);have ka:it<s.heap.objs.size:=br he;refine D0 he e (fx hi) λh' ho hT hz hk=>?_
  refine⟨_,rfl,wpAny_letOwnedTupleGo_items (s:={s with heap:=h'}) ho λyb he' sb=>?_⟩;have yz:yb.get? s.heap.objs.size=some {cls:=.type "tuple",data:=.seq #[es[i].key,es[i].val]}:=(sb.2 _ (jj ka)).trans hT;have new:cS X.prog X.w (upd H s.heap.objs.size (.tup [.ref q,v])) yb s.heap.objs.size (.tup [.ref q,v]):=⟨by show 2<=Fh;decide,[es[i].key,es[i].val],.cons ng (.cons rv .nil),⟨_,yz,rfl,_,rfl⟩⟩;have I1:Inv X jr σ (upd H s.heap.objs.size (.tup [.ref q,v])) {s with heap:=yb}:=I.wC (t':=s.toks) (ch:=[it]) (λb ob hb z=>(sb.2 b (by simpa using hb)).trans (hk b ob (by simpa using hb) z)) hf (aw _) new;refine⟨.ref s.heap.objs.size,_,I1,rfl,⟨_,k,v,q,vy,hq,rfl,I.hok.fresh (aw _),rfl⟩,⟨_,_,by rw[<- sz];exact he'⟩,λb hb=>?_⟩;have eb:b=it:=by simpa using hb
  rw[eb,aB (cj ka)];exact(hf it (by simp)).1
 done:=by intro X hP hw hK hc i jr s σ H E I hf st hg;subst hP hw hK;obtain⟨hd,hi⟩:=hg;obtain⟨f0,f1,f2,f3,f4,f5⟩:=hf it (by simp);obtain⟨e,sz,wj⟩:=BM I hd qc;obtain⟨k0,v0,he⟩:=st;rw[<- sz]at he hi;exact DH (I.ok.hd hc) he e hi λh' eb=>⟨rfl,I.turned (t':=s.toks) (λb ob hb z=>eb b ob hb z) f0 f1 f3 f4 f5⟩
 self:=λA i s Q E st h=>let⟨_,_,e⟩:=st;W.kcp_self e h
end
noncomputable def NB(td:TE):TI:=λσ H R=>td σ H λx H1=>∃d o kvs,x=.ref d/\H1 d=some (.frz o (.dT kvs))/\R (LP d o kvs) H1
section
variable {X:Cx}{e:Fz}{td:TE}{kz jy:Pos}
theorem wW{my:List Fz}{kk:Nat}{nv:Pos}(he:PE X e td)(om:attributeBase e "items" X.env (eval e X.env)=eval e X.env:=by rfl)(qm:(kz.endLine==jy.line)=true:=by rfl):L2.PI X (.Tuple my kk nv) (.Call (.Attribute e "items" kz) [] [] jy) (NB td):=by
 intro jr s σ H R I h;refine wpAny_Call_method (T:= "dict") (id:= "dict.items") om rfl qm F.plainAttrs_dict F.slot_dict_items F.type_dict_items (thn (he jr s σ H _ I h) λu s1 ⟨x,H1,I1,rx,d,o,kvs,ex,hd,q⟩=>?_);subst ex;obtain rfl:u=fv.ref d:=rx;obtain⟨hs,_,o',es,ep,en,sz,_⟩:=pR I1 (.inr ⟨o,hd⟩);have eo:o'=o:=by have:=en.at_;rw[(I1.hok d _ hd).1]at this;exact(Option.some.inj this).symm
 subst eo;refine⟨en.ty,λb z=>by cases z;exact⟨o',en.at_,en.ex.2.1⟩,?_⟩;have I2:Inv X jr σ H1 {s1 with heap:=s1.heap.push {cls:=.type "dict_items",data:=.fields #[.ref d]}}:=I1.kept (t':=s1.toks) λb ob q=>ak _ q
 have en2:kR (s1.heap.push {cls:=.type "dict_items",data:=.fields #[.ref d]}) d o' es ep:=en.to λq z=>ak _ z
 have fin:Fi (Fm X.prog X.w) X.A (pyIter (.ref s1.heap.objs.size)) (PIE X jr σ (.Tuple my kk nv) R) X.xe {s1 with heap:=s1.heap.push {cls:=.type "dict_items",data:=.fields #[.ref d]}}:=by refine B0 ⟨_,az _ rfl,rfl,rfl⟩ en2 (yQ (tk:=s1.toks) I2 _ (zT _ en.dat) ⟨.none,.none,?_⟩ q);rw[<- sz];exact az _ rfl
 show Fi _ _ (callWith jy (.builtin "dict.items") [.ref d] [] []) _ X.xe s1
 exact method_meetsIn F.slot_dict_items F.entry_dict_items rfl (PySem.evalArgs_none ⟨rfl,en.ty,F.args_dict_items_1 _,_,yV hs,⟨o',es,ep,en⟩,fin⟩)
end
theorem xK{d:xv}{od:Obj}{kvs:List (List Key×V)}{g:TG}{tb:TS}{D:Ends}{σ:L2.St}{H:Hp}(Pv:Nat->L2.St->Hp->Prop)(h0:Pv 0 σ H)(hl:∀i σ H,Pv i σ H->H d=some (.frz od (.dT kvs)))
  (hs:∀i k v q T σ H,kvs[i]? =some (k,v)->H q=some (.tup (k.map kV))->H T=none->Pv i σ H->g (.ref T) σ (upd H T (.tup [.ref q,v])) λσ2 H2=>tb {D with nx:=Pv (i+1),ct:=Pv (i+1),bk:=D.nx} σ2 H2) (hd:∀σ H,Pv kvs.length σ H->D.nx σ H):
  ∃W:Nat->Nat->L2.St->Hp->Prop,(∃m,W 0 m σ H)/\∀i m σ H,W i m σ H ->
   ((LP d od kvs).stop i H/\D.nx σ H)\/((LP d od kvs).go i H/\∃N:L2.St->Hp->Prop,(∀σ' H',N σ' H'->∃m',m'<m/\W (i+1) m' σ' H')/\∀x H',(LP d od kvs).yld i H x H'->g x σ H' λσ2 H2=>tb {D with nx:=N,ct:=N,bk:=D.nx} σ2 H2):=by
 refine⟨λi m σ H=>m=kvs.length - i/\i<=kvs.length/\Pv i σ H,⟨kvs.length,by simp,cn _,h0⟩,?_⟩;rintro i m σ H ⟨rfl,hi,p⟩;have q:=hl i σ H p;by_cases ka:i<kvs.length
 ·refine .inr ⟨⟨q,ka⟩,Pv (i+1),λσ' H' p'=>⟨kvs.length - (i+1),Hc,rfl,ka,p'⟩,λx H' y=>?_⟩;obtain⟨T,k,v,b,hk,hb,rfl,hT,rfl⟩:=y;exact hs i k v b T σ H hk hb hT p
 ·have e:i=kvs.length:=Hc
  subst e;exact .inl ⟨⟨q,aw _⟩,hd σ H p⟩
section
variable {prog:Fo}{w:Fw}{A:Ft}{E:Hf}
abbrev TK(prog:Fo)(w:Fw):HeapKind prog w (List Key):=tupleKind (bX prog w)
theorem z6{h0 h:Fp}{ks:List Key}{a:xv}(k:∀b q,h0.get? b=some q->h.get? b=some q)(x:(TK prog w).is h0 ks a):(TK prog w).is h ks a:=by obtain⟨o,its,n,ho,r⟩:=x;exact⟨o,its,n,k _ _ ho,r⟩
theorem v8{h h':Fp}{S:xv}{acc:List (List Key×xv×fv)}(m:h.DictOfH (TK prog w) S acc)(hS:∀q,h.get? S=some q->h'.get? S=some q)(hk:∀x∈acc,(TK prog w).is h' x.1 x.2.1):h'.DictOfH (TK prog w) S acc:=by obtain⟨o,es,ep,a1,a2,a3,a4,_,a6⟩:=m;exact⟨o,es,ep,hS _ a1,a2,a3,a4,hk,a6⟩
noncomputable def EL(acc rest:List (List Key×xv×fv)):List (List Key×xv×fv):=rest.foldl (λa q=>storedH a q.1 q.2.1 q.2.2) acc
theorem CD(acc:List (List Key×xv×fv))(k:List Key)(a:xv)(v:fv):(storedH acc k a v).length<=acc.length+1:=by unfold storedH;split<;>simp
theorem OB{R:Result->Fe->Prop}{S I l:xv}{items:Array fv}{res:fv}{h0:Fp}(hh:A.handled=none)(hu:A.in1.units<cLine)(hIS:S≠I)(rj:h0.IsList l items)(hS0:∀b q,h0.get? b=some q->b≠S)(hI0:∀b q,h0.get? b=some q->b≠I):
  ∀(rest:List (List Key×xv×fv))(i:Nat)(acc:List (List Key×xv×fv))(ix:Int)(t:Tok)(s:Fe),items.size=i+rest.length->acc.length+rest.length<=Fh->(∀x∈acc,(TK prog w).is h0 x.1 x.2.1) ->
   (∀(j:Nat)(q:List Key×xv×fv),rest[j]? =some q->∃b:xv,items[i+j]? =some (.ref b)/\IsTup h0 b #[.ref q.2.1,q.2.2]/\(TK prog w).is h0 q.1 q.2.1) ->
   (∀b q,h0.get? b=some q->s.heap.get? b=some q)->s.heap.IsListIter I l i->s.heap.DictOfH (TK prog w) S acc ->
   (∀h' tk,h'.DictOfH (TK prog w) S (EL acc rest)->(∀b q,h0.get? b=some q->h'.get? b=some q)->R (.ok (.ret res)) {s with heap:=h',toks:=tk}) ->
   codeAny (Fm prog w) A (.builtin "dict.update.loop" ⟨[.ref S,.ref I,.int ix t,res],[]⟩) R s
 |[],i,acc,ix,t,s,hsz,hln,hacc,ht,k0,km,hm,hR=>by
  have hl:s.heap.IsList l items:=rj.at λq z=>k0 _ _ z
  refine codeAny_builtin zS ?_;rw[Ft.under_plainId l8 _];show Fi _ A.in1 (pyNext (.ref I)>>= _) _ _ s
  refine aa (wpAny_pyNext_list_end (A:=A.in1) hh km hl (by first|exact getElem?_eq_none (iq hsz)|(simp at hsz;simp;omega)) λh' he=>?_);show Fi _ A.in1 (Builtin.Dict.addKeywords S []>>= _) _ _ _
  have k1:∀b q,h0.get? b=some q->h'.get? b=some q:=λb q z=>he b q (hI0 b q z) (k0 b q z)
  exact aa (ag (ag (hR h' s.toks (v8 hm (λq z=>he S q hIS z) λx hx=>z6 k1 (hacc x hx)) k1)))
 |q::rest,i,acc,ix,t,s,hsz,hln,hacc,ht,k0,km,hm,hR=>by
  obtain⟨b,hb,htup,hk⟩:=ht 0 q rfl;have hl:s.heap.IsList l items:=rj.at λq z=>k0 _ _ z
  rw[bo]at hsz hln;refine codeAny_builtin zS ?_;rw[Ft.under_plainId l8 _];show Fi _ A.in1 (pyNext (.ref I)>>= _) _ _ s
  refine aa (wpAny_pyNext_list_item (x:=.ref b) km hl (by simpa using hb) λh1 hit1 hs1=>?_);have k1:∀b q,h0.get? b=some q->h1.get? b=some q:=λb q z=>(hs1.2 b (hI0 b q z)).trans (k0 b q z)
  have hm1:h1.DictOfH (TK prog w) S acc:=v8 hm (λq z=>(hs1.2 S hIS).trans z) λx hx=>z6 k1 (hacc x hx)
  obtain⟨o,ho,hc,n,hd⟩:=id htup;have Dq:=k1 _ _ ho;show Fi _ A.in1 (holding [fv.ref b] _>>= _) _ _ _
  refine aa (wpAny_holding (aa (wpAny_tryCatch ?_)));unfold Builtin.Dict.pairItems;refine aa (wpAny_typeOf (T:= "tuple") ⟨o,Dq,hc⟩ ?_);rw[ah (by first|decide|rfl|simp)];refine aa (wpAny_seqItems Dq hd (ag ?_));show Fi _ A.in1 (holding [fv.ref q.2.1,q.2.2] (dictSet S (.ref q.2.1) q.2.2)) _ _ _
  refine wpAny_holding (wpAny_dictSet_heap (knd:=TK prog w) (k:=q.1) hu (z6 k1 hk) hm1 (λh2 hm2 tm=>?_) Hc);have k2:∀b q,h0.get? b=some q->h2.get? b=some q:=λb q z=>(tm.2 b (hS0 b q z)).trans (k1 b q z)
  refine ag ⟨plainId_quiet l8 _,OB (items:=items) hh hu hIS rj hS0 hI0 rest (i+1) (storedH acc q.1 q.2.1 q.2.2) (ix+1) 0 _ (show items.size=i+1+rest.length by omega) ?_ (λx hx=>?_) (λj q' e=>?_) k2 ?_ hm2 λh' tk xw k=>hR h' tk xw k⟩
  ·have z:=CD acc q.1 q.2.1 q.2.2;omega
  ·unfold storedH at hx;split at hx
   ·obtain⟨y,hy,rfl⟩:=au.mp hx;unfold putAt;split
    ·exact hacc y hy
    ·exact hacc y hy
   ·rcases ax.mp hx with hx|hx
    ·exact hacc x hx
    ·rw[iz.mp hx];exact hk
  ·obtain⟨b',a1,a2,a3⟩:=ht (j+1) q' (by simpa using e);exact⟨b',by rw[show i+1+j=i+(j+1) by omega];exact a1,a2,a3⟩
  ·exact hit1.at λo' e=>(tm.2 I (Ne.symm hIS)).trans e
theorem BO{s:Fe}{l:xv}{ol:Obj}{items:Array fv}{n:Nat}{prs:List (List Key×xv×fv)}{Q:Hf}(hh:A.handled=none)(hu:A.in1.in1.units<cLine)(hl:s.heap.get? l=some ol)(hc:ol.cls=.type "list")(hd:ol.dict=none)
  (kx:ol.data=.seq items n) (hsz:items.size=prs.length) (hln:prs.length<=Fh)
  (ht:∀(j:Nat)(q:List Key×xv×fv),prs[j]? =some q->∃b:xv,items[j]? =some (.ref b)/\IsTup s.heap b #[.ref q.2.1,q.2.2]/\(TK prog w).is s.heap q.1 q.2.1)
  (h:∀h' tk,h'.DictOfH (TK prog w) s.heap.objs.size (EL [] prs)->(∀b o,s.heap.get? b=some o->h'.get? b=some o)->Q (.ref s.heap.objs.size) {s with heap:=h',toks:=tk}):
  Fi (Fm prog w) A (call (.type "dict") [.ref l]) Q E s:=by
 refine callType_codes (Q₁:=λobj s₁=>obj=.ref s.heap.objs.size/\s₁={s with heap:=s.heap.push {cls:=.type "dict",data:=.dict #[]}}) PySem.F.kt_called_dict (PySem.F.kt_typeCall_dict_1 _) PySem.F.entry_dict_init (kt_code_dict_new _ ⟨rfl,rfl⟩) ?_;rintro obj s₁ ⟨rfl,rfl⟩;have vb:(s.heap.push {cls:=.type "dict",data:=.dict #[]}).DictOfH (TK prog w) s.heap.objs.size []:=Fp.DictOfH.new s.heap;have k0:∀b o,s.heap.get? b=some o->(s.heap.push {cls:=.type "dict",data:=.dict #[]}).get? b=some o:=λb o e=>ak _ e
 refine⟨vb.typeIs,PySem.F.args_dict_init_2 _ _,?_⟩;unfold Builtin.«dict.__init__»;refine aa ?_;unfold Builtin.Dict.selfAndRest;refine aa (wpAny_notOrdered_dict vb.typeIs ?_);show Fi _ _ (pure (s.heap.objs.size,[fv.ref l])) _ _ _
 refine ag ?_;show Fi _ _ (Builtin.Dict.updateFrom "dict.__init__" s.heap.objs.size (.ref l) [] .none) _ _ _
 unfold Builtin.Dict.updateFrom;refine aa (wpAny_typeOf (T:= "list") ⟨ol,k0 _ _ hl,hc⟩ ?_);rw[ah (by first|decide|rfl|simp)];refine aa (GN (k0 _ _ hl) hc kx hd hh λh1 Cb hk1=>?_);rw[ah (show(none:Option fv).isNone=true from rfl)];refine aa (wpAny_rule ?_);have hl1:h1.IsList l items:=⟨ol,hk1 _ _ (k0 _ _ hl),hc,n,kx⟩;have hS1:s.heap.objs.size<h1.objs.size:=by have e:(s.heap.push {cls:=.type "dict",data:=.dict #[]}).get? s.heap.objs.size=some {cls:=.type "dict",data:=.dict #[]}:=az _ rfl;exact br (hk1 _ _ e)
 refine aa (wpAny_pyIter_list hl1 ?_);have k2:∀b o,h1.get? b=some o->(h1.push {cls:=.type "list_iterator",data:=.fields #[.ref l,.int 0 0]}).get? b=some o:=λb o e=>ak _ e
 have kk:∀b o,s.heap.get? b=some o->(h1.push {cls:=.type "list_iterator",data:=.fields #[.ref l,.int 0 0]}).get? b=some o:=λb o e=>k2 _ _ (hk1 _ _ (k0 _ _ e))
 have key:=OB (prog:=prog) (w:=w) (A:=A.in1) (R:=wants (λr s₂=>r=.none/\Q (.ref s.heap.objs.size) s₂) E) (S:=s.heap.objs.size) (I:=h1.objs.size) (l:=l) (items:=items) (res:=fv.none) (h0:=s.heap) hh hu (cj hS1)
  ⟨ol,hl,hc,n,kx⟩ (λb q z=>cj (br z)) (λb q z=>cj (Nat.lt_trans (br z) hS1)) prs 0 [] 0 0
  {s with heap:=h1.push {cls:=.type "list_iterator",data:=.fields #[.ref l,.int 0 0]},toks:=Cb} (by rw[hsz,Nat.zero_add]) (by rw[fh,Nat.zero_add];exact hln) (λx hx=>nomatch hx)
  (λj q e=>by rw[Nat.zero_add];exact ht j q e) kk ⟨_,az _ rfl,rfl,rfl⟩ (v8 vb (λq z=>k2 _ _ (hk1 _ _ z)) λx hx=>nomatch hx)
  (λh' tk xw k=>⟨rfl,h h' tk xw k⟩)
 first
  |exact ag ⟨plainId_quiet l8 _,key⟩
  |exact aa (ag (ag ⟨plainId_quiet l8 _,key⟩))
end
noncomputable def lE(kvs more:List (List Key×V)):List (List Key×V):=more.foldl (λacc kv=>putK acc kv.1 kv.2) kvs
theorem FR{H:Hp}:∀{more:List (List Key×V)}{prs:List (List Key×xv×fv)}{kvs:List (List Key×V)}{acc:List (List Key×xv×fv)},KT H more prs->KT H kvs acc->KT H (lE kvs more) (EL acc prs)
 |_,_,_,_,.nil,r=>r
 |kv::_,q::_,kvs,acc,.cons ⟨e1,e2,e3⟩ t,r=>by
  show KT H (lE (putK kvs kv.1 kv.2) _) (EL (storedH acc q.1 q.2.1 q.2.2) _)
  refine FR t ?_;have:=r.put kv.1 e2 e3;rw[e1]at this ⊢;exact this
theorem wO:∀(more kvs:List (List Key×V)),(lE kvs more).length<=kvs.length+more.length
 |[],kvs=>by simp[lE]
 |kv::r,kvs=>by
  have h1:=wO r (putK kvs kv.1 kv.2);have h2:=lQ kvs kv.1 kv.2;show(lE (putK kvs kv.1 kv.2) r).length<=_
  rw[bo];omega
section
variable {X:Cx}
theorem E8(Eh:X.calm=true)(hu:X.A.units+2<cLine):nL X (.type "dict") (λxs H Q=>∃(a:xv)(ps:List xv)(kvs:List (List Key×V)),xs=[.ref a]/\SqL X.K H a (ps.map V.ref)/\Paired (λp (kv:List Key×V)=>∃q,H p=some (.tup [.ref q,kv.2])/\H q=some (.tup (kv.1.map kV))) ps kvs/\
  ∀p,H p=none->Q (.ref p) (upd H p (.dT (lE [] kvs)))):=by
 intro jr s σ H xs us Q I r h;obtain⟨a,ps,kvs,ex,hq,hp,h⟩:=h;subst ex;obtain⟨u,eu,rx⟩:=vals1 r;subst eu;cases rx;obtain⟨its,rv,pl,hz⟩:=I.list hq;have ei:=jU rv;subst ei;rw[ai]at hz;have hpr:∀{ps:List xv}{kvs:List (List Key×V)},Paired (λp (kv:List Key×V)=>∃q,H p=some (.tup [.ref q,kv.2])/\H q=some (.tup (kv.1.map kV))) ps kvs ->
   ∃prs:List (List Key×xv×fv),KT H kvs prs/\prs.length=ps.length/\∀(j:Nat)(q:List Key×xv×fv),prs[j]? =some q->∃b,ps[j]? =some b/\IsTup s.heap b #[.ref q.2.1,q.2.2]/\(TK X.prog X.w).is s.heap q.1 q.2.1:=by
  intro ps kvs hp;induction hp with
  |nil=>exact⟨[],.nil,rfl,λj q e=>by simp at e⟩
  | @cons p kv ps kvs hq t ih=>
   obtain⟨prs,r1,r2,r3⟩:=ih;obtain⟨b,hb1,Bs⟩:=hq;obtain⟨its,rv,ht,_⟩:=I.tuple (SqT.of (K:=X.K) hb1);obtain⟨u,y,ei,ru,ry⟩:=vals2 rv;subst ei;cases (show u=fv.ref b from ru);refine⟨(kv.1,b,y)::prs,.cons ⟨rfl,Bs,ry⟩ r1,by rw[bo,bo,r2],λj q e=>?_⟩;cases j with
   |zero=>have e':(kv.1,b,y)=q:=Option.some.inj e;subst e';exact⟨p,rfl,ht,lS I.hok Bs⟩
   |succ j=>obtain⟨c,e1,e2,e3⟩:=r3 j q (by simpa using e);exact⟨c,by simpa using e1,e2,e3⟩
 obtain⟨prs,rel,hl,hpr⟩:=hpr hp;obtain⟨o,n,ho,hc,hd,kx⟩:=pl;refine BO (prs:=prs) (I.ok.hd Eh) hu ho hc hd kx (by simp[hl]) (by rw[hl];exact hz) (λj q' e=>?_) λh' tk xw k=>?_
 ·obtain⟨b,e1,e2,e3⟩:=hpr j q' e;exact⟨b,by simp[e1],e2,e3⟩
 ·have hm:(s.heap.objs.size==Fy)=false:=beq_eq_false_iff_ne.mpr (jj I.big);have kc:(lE [] kvs).length<=Fh:=by have h1:=wO kvs [];have h2:=pairs_len hp;rw[fh]at h1;omega
  have kt:=FR rel (.nil:KT H [] []);obtain⟨q,es,ep,qw,h2,h3,h4,_,h5⟩:=xw;refine⟨.ref s.heap.objs.size,_,I.laid (a:=s.heap.objs.size) (o:=.dT (lE [] kvs)) k (aw _) ⟨kc,hm,_,kt.keeps λc ys ec=>?_,q,es,ep,qw,h2,h3,h4,h5⟩,rfl,h _ (I.hok.fresh (aw _))⟩;rw[aB (aI ec (I.hok.fresh (aw _)))];exact ec
end
end L3
namespace L3
open PySem PySem.Spec PyProof.Rows L2
theorem uW{A:Ft}{k:Nat}(hr:cR k A):A.units+2<cLine:=ir (Nat.add_le_add_left (by decide:2<=64) _) hr.units
theorem yH{H:Hp}:∀{xs:List V}{ps:List PI},Paired (T2 H) xs ps->∃as:List xv,xs=as.map V.ref
 |_,_,.nil=>⟨[],rfl⟩
 |_,_,.cons ⟨a,e,_⟩ t=>by obtain⟨as,rfl⟩:=yH t;exact⟨a::as,by rw[e];rfl⟩
theorem BF{α:Type}{l:List α}{i:Nat}{x:α}(h:l[i]? =some x):i<l.length:=(ar.mp h).1
theorem A7{κ:Type}[DecidableEq κ]{kf:κ->List Key}(hk:∀p q,kf p=kf q->p=q):∀(more kvs:List (κ×V)),lE (kvF kf kvs) (kvF kf more)=kvF kf (cO kvs more)
 |[],kvs=>rfl
 |x::r,kvs=>by
  show lE (putK (kvF kf kvs) (kf x.1) x.2) (kvF kf r)=kvF kf (cO (dM kvs x.1 x.2) r)
  rw[CK hk,A7 hk r]
theorem GD{L:List PI}(h:L.Nodup):lE [] (kvF k2 (KS L))=kvF k2 (KS L):=by have e:=A7 (kf:=k2) (λ_ _=>DG) (KS L) [];rw[RM.rC (KS L) [] (by rw[zO];exact h) (by intro k _ z;cases z),nil_append]at e;exact e
def cnt(σ:L2.St)(i:Nat):Nat:=match σ[i]? with|some (some (.int k))=>k.toNat|_=>0
theorem T2.W5{a:xv}{H H':Hp}{v:V}{p:PI}{kvs:List (PI×V)}(h:T2 H v p)(e:But a H H')(ha:D2 H a kvs):T2 H' v p:=h.but e ha (by intro _ z;cases z)
theorem N6{α:Type}{ws:List α}{q:α}{n:Nat}(hn:ws.length=n)(hq:ws[n - 1]? =some q):ws=ws.dropLast++[q]:=by
 subst hn;have jw:ws≠[]:=by intro z;rw[z]at hq;cases hq
 have e:=(jc jw).symm;rw[List.getLast_eq_getElem]at e;have e2:=(ar.mp hq).2;rw[e2]at e;exact e
noncomputable def LS(H:Hp)(a:xv)(ts:List PI3):Prop:=∃xs,H a=some (.lst xs)/\Paired (T3 H) xs ts
noncomputable def LLS(H:Hp)(a:xv)(Fs:List (List PI3)):Prop:=∃bs:List xv,H a=some (.lst (bs.map V.ref))/\Paired (LS H) bs Fs
theorem LS.mono{H H':Hp}{a:xv}{ts:List PI3}(e:a9 H H')(h:LS H a ts):LS H' a ts:=let⟨xs,h1,h2⟩:=h;⟨xs,e _ _ h1,aM (λ_ _ q=>q.mono e) h2⟩
theorem LS.upd{H:Hp}{b D:xv}{ts:List PI3}{xs:List V}{o:HO}(h:LS H b ts)(hD:H D=some (.lst xs))(n:b≠D):LS (L2.upd H D o) b ts:=by obtain⟨ys,q,pr⟩:=h;exact⟨ys,by rw[aB n];exact q,aM (λ_ _ z=>z.upd hD) pr⟩
theorem rQ{α β:Type}{R:α->β->Prop}:∀{l:List α}{m:List β}{b:β},Paired R l (m++[b])->∃l' a,l=l'++[a]/\Paired R l' m/\R a b
 |_,[],_,.cons r .nil=>⟨[],_,rfl,.nil,r⟩
 |_,_::m,_,.cons r t=>by obtain⟨l',a,e,h1,h2⟩:=rQ (m:=m) t;exact⟨_::l',a,by rw[e];rfl,.cons r h1,h2⟩
end L3
namespace L3
open PySem PySem.Spec PySem.Calls PyProof.Rows L2
section
variable {M:Model}{A:Ft}{E:Hf}
variable {nm q nm' q':Str}{C N C' N':xv}{bs bm bs' bm':List fv}{hdct yx:Bool}{sn sn':List Str}{sub Cd:List fv}{ab ab':Bool}{col Ez:Option Bool}{dd wm:Option xv}{k0 k1 k2 k3 k5 l0 l1 l2 l3 l5:Option fv}{mh ur:String}
theorem vP{h:Fp}{g:Array GenState}{d:Drawn}{t:Nat}{os:OsState}{e:xv}{oe:Obj}{Q:Bool->Fe->Prop}
  (hC:h.get? C=some (excClassObj nm q C N bs bm hdct sn sub ab col dd k0 k1 k2 k3 k5 mh)) (hD:h.get? C'=some (excClassObj nm' q' C' N' bs' bm' yx sn' Cd ab' Ez wm l0 l1 l2 l3 l5 ur))
  (he:h.get? e=some oe) (qt:oe.cls=.ref C) (om:bm'.contains (.type "BaseException")=true) (hno:(fv.ref C::bm).contains (.ref C')=false) (hq:Q false ⟨h,g,d,t,os⟩):Fi M A (excMatches (.ref e) (.ref C')) Q E ⟨h,g,d,t,os⟩:=by
 have hcB:(fv.ref C'::bm').contains (.type "BaseException")=true:=by rw[List.contains_cons,om,Bool.or_true]
 have f:=tc_notTuple;unfold excMatches
 repeat (first|(with_reducible refine wpAny_loadPart_at he ?_;rw[qt])|with_reducible refine wpAny_loadPart_at hD ?_|(with_reducible refine wpAny_isSubtype_exc hD ?_;rw[hcB])|(with_reducible refine wpAny_isSubtype_exc hC ?_;rw[hno])|wp_step)
 exact hq
end
noncomputable def cxL(P:Fo)(w:Fw)(K:Fg)(mg:Str->Option fv)(base:Fp)(N:List Str)(qual:Str)(scope:Gj)(f:xv)(cd:fv)(cl:List (Str×xv))(A:Ft)(outer:List Env)(s:Fe)(H:Hp)(E:XK):Cx where
 prog:=P
 w:=w
 K:=K
 mg:=mg
 base:=base
 A:=A.deeper (W.envX qual scope s.heap.objs.size f cd cl)
 N:=N
 s_0:=s
 H_0:=H
 env:=W.envX qual scope s.heap.objs.size f cd cl
 outer:=outer
 stack:=W.envX qual scope s.heap.objs.size f cd cl::outer
 ex:=[]
 calm:=true
 fn:=λ_=>false
 pn:=[]
 xe:=λe s'=>Fi (Fm P w) (A.deeper (W.envX qual scope s.heap.objs.size f cd cl)) (leaving (W.envX qual scope s.heap.objs.size f cd cl) e) (λ_ zo=>CXf outer H s E e zo) (λe' zo=>CXf outer H s E e' zo) s'
section
variable {P:Fo}{w:Fw}{K:Fg}{mg:Str->Option fv}{base:Fp}{N:List Str}{qual:Str}{scope:Gj}{f:xv}{cd:fv}{cl:List (Str×xv)}{A:Ft}{outer:List Env}{s:Fe}{H:Hp}{E:XK}
theorem R8(kq:HOk P w H s.heap):Passes CXf (cxL P w K mg base N qual scope f cd cl A outer s H E) (λc _ _=>E c none H):=by
 intro jr σ H1 s1 e s' I h;obtain⟨ae,C,rfl,⟨⟨a0,fl⟩,sl,os,bare⟩,hE⟩:=h;have Az:Fp.FlyingW (gR s.heap H (frs outer++[])) (cxL P w K mg base N qual scope f cd cl A outer s H E).stack ae (.ref C) a0 s'.heap:=
  W.flyingW_base (λb o q=>by
   obtain⟨z1,z2,z3,_⟩:=stays I kq (ex:=[]) (λ_ z=>z) q;exact iB z1 z2 (by rw[pB];exact z3)) fl
 refine wpAny_leaves_onW (L:=s.heap.objs.size) (outer:=outer) I.ok.frames rfl Az λh2 fl3 up=>?_
 refine⟨ae,C,rfl,⟨⟨_,fl3⟩,λb hb o q=>?_,os.trans I.os,bare⟩,hE⟩;have ve:b∈frs (cxL P w K mg base N qual scope f cd cl A outer s H E).stack:=by
  show b∈frs (_::outer)
  unfold frs;rw[fg];exact ao _ hb
 obtain⟨sl1,q1⟩:=lC I hb (by intro z;exact nomatch z) q;obtain⟨uk,q2⟩:=sl b ve _ q1;obtain⟨o3,q3,nf⟩:=(fl.2.2.1.mem (b:=b) ve).2;rw[q2]at q3;cases q3;obtain⟨Bg,q4⟩:=up b _ q2 nf;exact⟨Bg,q4⟩
theorem N7{k:Nat}{name:Str}{params:Arguments}{body:Fz}{pm Bw:fv}{c':xv}{Q:VK}{te:TE}{vs:List V}(hr:cR (k+1) A)(e0:qB P w K mg base A outer s H)
  (ho:s.heap.get? f=some (W.kla_obj name qual params body scope cl pm c' Bw)) (ot:s.heap.CodeRec (.ref c') qual) (qu:bindArgs (W.kla_fn name qual params body scope cl pm (.ref c') Bw) ⟨[],[]⟩=pure [])
  (hk:scope.kind=.function) (hco:scope.isCoroutine=false) (hgen:scope.isGenerator=false) (hnc:∀x∈scope.names,x.2≠ .cell) (hnl:∀x,scope.names.lookup x≠some .local) (hN:vs.length=N.length)
  (inj:∀x y c,cl.lookup x=some c->cl.lookup y=some c->x=y) (has:∀x,scope.names.lookup x=some .free->∃c,cl.lookup x=some c)
  (oo:∀x c,cl.lookup x=some c->H c=none/\∃v,s.heap.IsCell c v) (hv:∀(i:Nat)(x:Str)(v:V),N[i]? =some x->vs[i]? =some v->scope.names.lookup x=some .free->∃c u,cl.lookup x=some c/\RelV v u/\s.heap.IsCell c (some u))
  (Dk:cR k (A.deeper (W.envX qual scope s.heap.objs.size f (.ref c') cl))->HOk P w H s.heap->PE (cxL P w K mg base N qual scope f (.ref c') cl A outer s H E) body te) (hq:te (vs.map some) H Q):
  codeAny (Fm P w) A (.call (.ref f) ⟨[],[]⟩) (CR CXf outer P w H s Q E) s:=by
 have zw:s.heap.NoLimit:=e0.mod.nolimit.keeps λb o e=>(e0.bs b o e).1
 refine W.kla_callFunE hr.depth ho rfl hco hgen rfl ot ?_;rw[qu];refine ag (wpAny_newFunctionEnv hnc (λx hx=>nomatch hx) (λh1 hns hsb=>?_) hk);have kp:∀b o,s.heap.get? b=some o->h1.get? b=some o:=λb o e=>(hsb.2 b (cj (br e))).trans (ak _ e)
 refine⟨zw.keeps kp,?_⟩;show codeAny _ _ (.expr body (W.envX qual scope s.heap.objs.size f (.ref c') cl)) _ _
 have cat:∀{c:xv}{v:Option fv},s.heap.IsCell c v->h1.IsCell c v:=λ⟨o,e,d⟩=>⟨o,kp _ _ e,d⟩
 have I:Inv (cxL P w K mg base N qual scope f (.ref c') cl A outer s H E) [] (vs.map some) H {s with heap:=h1,toks:=s.toks+([]:List (Str×fv)).length}:=by
  refine⟨⟨e0.mod,hk,rfl,rfl,aw _,inj,λx hx=>?_,λx c hx=>(nomatch hx),λ_=>hr.hd,Ft.frames_deeper e0.frames,.inr ⟨rfl,rfl⟩,λb z=>(nomatch z),e0.bs,e0.bsz,λb _ _ z=>(nomatch z),λb z=>(nomatch z),e0.lU,e0.frf⟩,
   rfl,e0.bare,Un.kept kp,⟨_,hns,λi x v h1 h2 h3=>?_⟩,λx c e=>?_,e0.hok.fresh (aw _),λx c e=>(oo x c e).1,λp hp=>(nomatch hp),e0.hok.kept kp,by rw[ai];exact hN⟩
  ·rcases hx with hx|hx
   ·exact absurd rfl (hnc _ (PySem.mem_of_lookup (show scope.names.lookup x=some .cell from hx)))
   ·exact has x hx
  ·have e2:vs[i]? =some v:=by
    rw[bc]at h2;cases e:vs[i]? with
    |none=>rw[e]at h2;cases h2
    |some z=>rw[e]at h2;cases h2;rfl
   rcases h3 with h3|h3|h3
   ·exact absurd h3 (hnl x)
   ·exact absurd rfl (hnc _ (PySem.mem_of_lookup (show scope.names.lookup x=some .cell from h3)))
   ·obtain⟨c,u,a1,a2,a3⟩:=hv i x v h1 e2 h3;exact⟨u,a2,.inr ⟨.inr h3,c,a1,cat a3⟩⟩
  ·obtain⟨v,hcv⟩:=(oo x c e).2;exact⟨v,cat hcv⟩
 refine W.kla_codeExpr (wpAny_mono (Dk (hr.deeper _) e0.hok [] _ (vs.map some) H Q I hq) (λu s' h=>?_) λe s' h=>h);obtain⟨v,H',J,rv,q⟩:=h;exact⟨v,H',J.os,J.bare,J.base,J.hok,rv,q⟩
end
def Flat(H:Hp):Prop:=∀b,H b=none\/∃o u,H b=some (.frz o u)
def cxE(X:Cx)(xe:Hf):Cx:={X with xe:=xe}
noncomputable def cxM(X:Cx)(e:fv)(xe:Hf):Cx:={X with A:=X.A.mark (some e),calm:=false,xe:=xe}
section
variable {X:Cx}{jr:Hg}{σ:L2.St}{H:Hp}{s:Fe}{e:fv}{xe:Hf}
theorem N9(I:Inv X jr σ H s):Inv (cxE X xe) jr σ H s:=by obtain⟨⟨o1,o2,o3,o4,o5,o6,o7,o8,o9,Cm,o11,o12,o13,o14,o15,o16,o17,o18⟩,i1,i2,i3,i4,i5,i6,i7,i8,i9,Aa⟩:=I;exact⟨⟨o1,o2,o3,o4,o5,o6,o7,o8,o9,Cm,o11,o12,o13,o14,o15,o16,o17,o18⟩,i1,i2,i3,i4,i5,i6,i7,i8,i9,Aa⟩
theorem DM(I:Inv (cxE X xe) jr σ H s):Inv X jr σ H s:=by obtain⟨⟨o1,o2,o3,o4,o5,o6,o7,o8,o9,Cm,o11,o12,o13,o14,o15,o16,o17,o18⟩,i1,i2,i3,i4,i5,i6,i7,i8,i9,Aa⟩:=I;exact⟨⟨o1,o2,o3,o4,o5,o6,o7,o8,o9,Cm,o11,o12,o13,o14,o15,o16,o17,o18⟩,i1,i2,i3,i4,i5,i6,i7,i8,i9,Aa⟩
theorem F4(I:Inv X jr σ H s):Inv (cxM X e xe) jr σ H s:=by obtain⟨⟨o1,o2,o3,o4,o5,o6,o7,o8,o9,Cm,o11,o12,o13,o14,o15,o16,o17,o18⟩,i1,i2,i3,i4,i5,i6,i7,i8,i9,Aa⟩:=I;exact⟨⟨o1,o2,o3,o4,o5,o6,o7,o8,λz=>(nomatch z),Cm,o11,o12,o13,o14,o15,o16,o17,o18⟩,i1,i2,i3,i4,i5,i6,i7,i8,i9,Aa⟩
theorem DL(ok:X.Ok)(I:Inv (cxM X e xe) jr σ H s):Inv X jr σ H s:=by obtain⟨_,i1,i2,i3,i4,i5,i6,i7,i8,i9,Aa⟩:=I;exact⟨ok,i1,i2,i3,i4,i5,i6,i7,i8,i9,Aa⟩
theorem B2(I:Inv X jr σ H s)(fl:Flat H){C ae:xv}{a0:fv}{s2:Fe}(hf:Fp.FlyingW (gR s.heap H (frs X.stack++[])) X.stack ae (.ref C) a0 s2.heap)
  (sl:∀b∈frs X.stack,∀o,s.heap.get? b=some o->∃sl,s2.heap.get? b=some {o with slots:=sl}) (os:s2.os=s.os) (bare:AllBare s2.gens):Inv X jr σ H s2:=by
 have st:∀b o,s.heap.get? b=some o->b∉frs X.stack->s2.heap.get? b=some o:=λb o e hb=>hf.1 b o (iB e (by rcases fl b with q|⟨o,u,q⟩<;>rw[q]<;>rfl) (by rw[pB];exact hb))
 have un:Un (frs X.stack) [] H H s.heap s2.heap:=
  ⟨λb o e _ hb _=>st b o e hb,λb o e _ hb _=>sl b hb o e,λ_ _ _ n _=>n,λb o e _=>by
   by_cases hb:b∈frs X.stack
   ·obtain⟨sl,q⟩:=sl b hb o e;exact⟨_,q⟩
   ·exact⟨_,st b o e hb⟩,λ_ _ q=>q,λ_ _ _ q=>q,λ_ ps q=>⟨#[],by rw[q];simp⟩⟩
 refine I.FN os un (λa o e=>?_) bare (λb z=>(nomatch z));have na:a∉frs X.stack:=λz=>by have:=I.yI a z;rw[this]at e;cases e
 refine(I.hok a o e).oP (λb u hb q=>?_) (λb z=>z) (λb xs z=>z);rcases hb with rfl|hb
 ·exact st b u q na
 ·rcases fl b with z|⟨_,_,z⟩<;>rw[z]at hb<;>cases hb
theorem tS{h:Fp}{l:List Env}{base h1 h2:Fp}(fr:h1.FunFrames base l)(sl:∀b∈frs l,∀o,h.get? b=some o->∃sl,h1.get? b=some {o with slots:=sl})(up:h1.UpToSlots h2):
  ∀b∈frs l,∀o,h.get? b=some o->∃sl,h2.get? b=some {o with slots:=sl}:=λb hb o q=>by
 obtain⟨uk,q2⟩:=sl b hb o q;obtain⟨o3,q3,nf⟩:=(fr.mem (b:=b) hb).2;rw[q2]at q3;cases q3;obtain⟨Bg,q4⟩:=up b _ q2 nf;exact⟨Bg,q4⟩
end
structure HD where
 x:Str
 C:xv
 k:Int
 np:Pos
 p1:Pos
 p2:Pos
 p3:Pos
 p4:Pos
 pos:Pos
noncomputable def HD.st(d:HD):Ga:=.Return (some (.List [.UnaryOp .USub (.Constant (.int d.k) 0 d.p1) d.p2] d.p3)) d.p4
def HD.h(d:HD):ExceptHandler:=.ExceptHandler (some (.Name d.x d.np)) none [d.st] d.pos
noncomputable def iJ(base:Fp)(C:xv):Prop:=∃(nm q:Str)(N:xv)(bs bm:List fv)(hdct:Bool)(sn:List Str)(sub:List fv)(ab:Bool)(col:Option Bool)(dd:Option xv)(k0 k1 k2 k3 k5:Option fv)(mh:String),
 base.get? C=some (excClassObj nm q C N bs bm hdct sn sub ab col dd k0 k1 k2 k3 k5 mh)/\bm.contains (.type "BaseException")=true/\∀D,bm.contains (.ref D)=false
structure a0Y(X:Cx)(d:HD):Prop where
 bound:X.mg d.x=some (.ref d.C)
 gl:Gl X d.x
 cl:iJ X.base d.C
 nd:(d.x==("__debug__" : Str))=false
section
variable {X:Cx}{jr:Hg}{σ:L2.St}{H:Hp}{s:Fe}{e C:xv}{Q:Flow->Fe->Prop}{E:Hf}
theorem sC(I:Inv X jr σ H s)(hx:iJ X.base C)(he:∃oe,s.heap.get? e=some oe/\oe.cls=.ref C):
  ∀(l:List HD),(∀d∈l,a0Y X d)->(∃d∈l,d.C=C) ->
   (∀d∈l,d.C=C->∀E',Fi (Fm X.prog X.w) (X.A.mark (some (.ref e))) (setFlight (.ref e) none) (λ_ s1=>Fi (Fm X.prog X.w) (X.A.mark (some (.ref e))) (execs [d.st] X.env) Q E' s1) E' s) ->
   Fi (Fm X.prog X.w) X.A (handleBy (.ref e) X.env (l.map HD.h)) Q E s
 |[],_,wc,_=>by obtain⟨d,hd,_⟩:=wc;exact(nomatch hd)
 |d::r,hok,wc,km=>by
  have ih:=sC I hx he r (λd hd=>hok d (ao _ hd));obtain⟨oe,xp,qt⟩:=he;have D:=hok d ay;obtain⟨nm,q,N,bs,bm,hdct,sn,sub,ab,col,dd,k0,k1,k2,k3,k5,mh,hC,hb,hn⟩:=hx;obtain⟨nm',q',N',bs',bm',yx,sn',Cd,ab',Ez,wm,l0,l1,l2,l3,l5,ur,hC',rn,vd⟩:=D.cl;refine wpAny_handleBy_cons (codeAny_handlers_test (k6 (F4 (e:=.ref e) (xe:=λ_ _=>False) I) D.gl D.bound ?_ D.nd)) (by intro q;cases q);by_cases hdc:d.C=C
  ·have hC2:=I.bk _ _ hC';have so:oe.cls=.ref d.C:=by rw[qt,hdc]
   exact wpAny_excMatches_sub_self (h:=s.heap) (g:=s.gens) hC2 xp so rn (codeAny_handlers_suite (km d ay hdc _))
  ·refine vP (h:=s.heap) (g:=s.gens) (I.bk _ _ hC) (I.bk _ _ hC') xp qt rn ?_ ?_
   ·rw[List.contains_cons,hn];simp[hdc]
   ·refine ih ?_ λd hd=>km d (ao _ hd)
    obtain⟨d2,h2,h3⟩:=wc;rcases aq.mp h2 with rfl|h2
    ·exact absurd h3 hdc
    ·exact⟨d2,h2,h3⟩
end
section
variable {P:Fo}{w:Fw}{K:Fg}{mg:Str->Option fv}{base:Fp}
theorem O1{k:Nat}{f fl:xv}{name qual:Str}{params:Arguments}{body:List Ga}{scope:Gj}{dV kV mf pm jx ct oc:fv}{an od:Option xv}{nh:Array (Option fv)}{A:Ft}{outer:List Env}{s:Fe}{H:Hp}{Q:VK}{E:XK}{l:List HD}{d0:HD}{r0:List HD}{p1 p2 p3 p4:Pos}
  (lk:K.lookup f=some ⟨oc,od,.func (W.fnOf name qual params body scope dV kV mf pm an jx ct),nh⟩) (ot:W.codeIn K jx qual=true) (S:aN ["tell"] ["tell"] scope) (Ap:scope.names.lookup ("tell" : Str)=some NameKind.local)
  (lr:body=[.Try [.Return (some (.Call (.Name "tell" p1) [] [] p2)) p3] (l.map HD.h) [] [] p4]) (hl:l=d0::r0)
  (hr:cR (k+1) A) (e0:qB P w K mg base A outer s H) (hb:BindsTo s (W.fnOf name qual params body scope dV kV mf pm an jx ct) ⟨[.ref fl],[]⟩ ([("tell" : Str)].zip [.ref fl])) (flat:Flat H)
  (hd:∀d∈l,mg d.x=some (.ref d.C)/\scope.names.lookup d.x=some .globalImplicit/\iJ base d.C/\(d.x==("__debug__" : Str))=false)
  (yu:W.FnAt fl s.heap) (hH:H fl=none) (hno:fl∉frs outer)
  (Ei:∀(A1:Ft)(rf:List Env)(s1:Fe),cR k A1->qB P w K mg base A1 rf s1 H->(∀b o,s.heap.get? b=some o->H b=none->b∉frs outer->s1.heap.get? b=some o) ->
   codeAny (Fm P w) A1 (.call (.ref fl) ⟨[],[]⟩) (CR CXf rf P w H s1 Q (λc _ _=>∃C,c=.ref C/\(∃d∈l,d.C=C)/\∀d∈l,d.C=C->∀p,H p=none->Q (.ref p) (upd H p (.lst [.int (-d.k)])))) s1):
  codeAny (Fm P w) A (.call (.ref f) ⟨[.ref fl],[]⟩) (CR CXf outer P w H s Q E) s:=by
 have KX:K.In s.heap:=e0.mod.kin.keeps λb o e=>(e0.bs b o e).1
 have zw:s.heap.NoLimit:=e0.mod.nolimit.keeps λb o e=>(e0.bs b o e).1
 have qp:∀y∈[("tell" : Str)].zip [fv.ref fl],scope.names.lookup y.1=some .local\/(scope.names.lookup y.1=some .cell/\((Gb (s.heap.objs.size+1) scope.names []).lookup y.1).isSome=true):=λ⟨n,v⟩ hy=>by
  rcases S.par n (of_mem_zip hy).1 with q|q
  ·exact .inl q
  ·exact .inr ⟨q,W.cellsFrom_some _ _ _ (.inl q)⟩
 refine codeAny_call_function hr.depth (KX _ _ lk) rfl S.co S.gen rfl (W.codeRec_of KX ot) (hb _ _ _ _ ?_);refine wpAny_newFunctionEnv_cells S.kind qp λenv he s1 x=>?_
 subst he;refine⟨zw.keeps x.toInCall.keep,codeAny_func ?_⟩;have I:Inv (cxF P w K mg base ["tell"] qual scope f jx A outer s H E) [] (start ["tell"] [.ref fl]) H s1:=qU S hr.hd e0 rfl (.cons rfl .nil) x;have Af:=hr.deeper (envOfC qual scope s.heap.objs.size f jx);let X:=cxF P w K mg base ["tell"] qual scope f jx A outer s H E
 have main:Fi (Fm P w) X.A (execs body X.env) (SP X [] {nx:=λ_ _=>False,rt:=Q}) X.xe s1:=by
  rw[lr,hl];have after:∀(f:Flow)(s1:Fe),SP X [] {nx:=λ_ _=>False,rt:=Q} f s1->(match f with| .next=>Fi (Fm P w) X.A (execs [] X.env) (SP X [] {nx:=λ_ _=>False,rt:=Q}) X.xe s1|f=>SP X [] {nx:=λ_ _=>False,rt:=Q} f s1):=λf s1 q=>by
   cases f with
   |next=>exact wpAny_execs_nil q
   |ret v=>exact q
   |brk=>exact q
   |cont=>exact q
  refine wpAny_execs_cons (wpAny_mono (wpAny_Try_except (Q:=SP X [] {nx:=λ_ _=>False,rt:=Q}) ?_) after λ_ _ q=>q);have hv:∀E',Fi (Fm P w) X.A (eval (.Name "tell" p1) X.env) (EP (cxE X E') [] (start ["tell"] [.ref fl]) (λv H'=>v=V.ref fl/\H'=H)) E' s1:=λE'=>
   JH (X:=cxE X E') (i:=0) rfl (.inl Ap) Hd Hd [] s1 _ H (λv H'=>v=V.ref fl/\H'=H) (N9 I) ⟨.ref fl,rfl,rfl,rfl⟩
  refine wpAny_execs_cons (wpAny_Return_some (wpAny_Call_Name_kw (thn (hv _) λu s2 hu=>?_)));obtain⟨v,H',J,rv,rfl,rfl⟩:=hu;obtain rfl:u=.ref fl:=rv;have J:=DM J;have kp:∀b o,s.heap.get? b=some o->H' b=none->b∉frs outer->s2.heap.get? b=some o:=λb o e1 e2 e3=>J.base.keep b o e1 e2 e3 (by intro z;exact(nomatch z))
  have fn2:W.FnAt fl s2.heap:=by obtain⟨a1,a2,a3,a4,a5⟩:=yu;exact⟨a1,a2,a3,a4,kp _ _ a5 hH hno⟩
  refine W.callWith_F0 fn2 (wpAny_call (codeAny_mono (Ei _ _ s2 Af J.L4 kp) λr s' hq=>?_));cases r with
  |ok f1=>
   cases f1 with
   |ret u=>obtain⟨v,H3,J3,rv3,q3⟩:=J.after hq;exact⟨v,_,H3,J3,rv3,q3⟩
   |next=>exact False.elim hq
   |brk=>exact False.elim hq
   |cont=>exact False.elim hq
  |error e=>
   obtain⟨ae,C,rfl,⟨⟨a0,fly⟩,sl,os,bare⟩,C2,so,wc,hE⟩:=hq;cases so;refine wpAny_looks_onW J.ok.frames rfl fly λh4 xq up4=>?_
   refine wpAny_landsW xq λh5 yc up5=>?_
   have sl4:=tS fly.2.2.1 sl up4;have sl5:=tS xq.2.2.1 sl4 up5;have J5:Inv (cxF P w K mg base ["tell"] qual scope f jx A outer s H' E) [] _ H' {s' with heap:=h5}:=B2 J flat yc sl5 os bare;have hx:iJ base C:=by obtain⟨d,h1,rfl⟩:=wc;exact(hd d h1).2.2.1
   have wd:∃oe,h5.get? ae=some oe/\oe.cls=.ref C:=by obtain⟨oe,ws,a1,a2,_⟩:=yc.first;exact⟨oe,a1,a2⟩
   rw[<- bh (f:=HD.h),<- hl];refine sC (X:=cxF P w K mg base ["tell"] qual scope f jx A outer s H' E) J5 hx wd l (λd h1=>⟨(hd d h1).1,(hd d h1).2.1,(hd d h1).2.2.1,(hd d h1).2.2.2⟩) wc λd h1 h2 E'=>?_
   refine lands_againW yc λh6 fly6 up6=>?_
   have sl6:=tS yc.2.2.1 sl5 up6;have J6:Inv (cxF P w K mg base ["tell"] qual scope f jx A outer s H' E) [] _ H' {s' with heap:=h6}:=B2 J flat fly6 sl6 os bare;have hrun:=aF (X:=cxM (cxF P w K mg base ["tell"] qual scope f jx A outer s H' E) (.ref ae) λ_ _=>False) (aS (pos:=d.p4) (fF (pos:=d.p3) (a7 (O7 (pos:=d.p2) IP (aJ (i:=d.k) (j:=0) (pos:=d.p1))) aC)))
    [] _ _ H' {nx:=λ_ _=>False,rt:=Q} (F4 J6) ⟨d.k,rfl,(by show 1<=Fh;decide),λp hp=>hE d h1 h2 p hp⟩
   refine wpAny_mono hrun (λf s3 q=>?_) λ_ _ q=>q.elim
   cases f with
   |next=>obtain⟨_,_,_,q⟩:=q;exact q.elim
   |brk=>obtain⟨_,_,_,q⟩:=q;exact q.elim
   |cont=>obtain⟨_,_,_,q⟩:=q;exact q.elim
   |ret u=>obtain⟨v,σ',H3,J3,rv3,q3⟩:=q;exact⟨v,σ',H3,DL J6.ok J3,rv3,q3⟩
 refine wpAny_mono main (λfl s' hs=>?_) λe s' hs=>hs
 cases fl with
 |ret u=>obtain⟨v,σ',H',J,rv,q⟩:=hs;exact⟨v,H',J.os,J.bare,J.base,J.hok,rv,q⟩
 |next=>obtain⟨_,_,_,q⟩:=hs;exact False.elim q
 |brk=>obtain⟨_,_,_,q⟩:=hs;exact False.elim q
 |cont=>obtain⟨_,_,_,q⟩:=hs;exact False.elim q
end
noncomputable def QL(mg:Str->Option fv)(h:Fp):Prop:=∃bm ob,mg "__builtins__" =some (.ref bm)/\bm≠builtinsNs/\bm≠Fl/\h.get? bm=some ob/\ob.cls=.type "module" /\ob.dict=some builtinsNs/\ob.data=.plain
noncomputable def XA(l:List HD)(H:Hp)(Q:VK):XK:=λc _ _=>∃C,c=.ref C/\(∃d∈l,d.C=C)/\∀d∈l,d.C=C->∀p,H p=none->Q (.ref p) (upd H p (.lst [.int (-d.k)]))
def hT(H:Hp)(T:xv)(ps:Array fv):Hp:=upd H T (.frz (W.tabObj ps) (.tbl ps))
noncomputable def WV(T:xv)(l:List HD)(pos:Pos)(teL:XK->Hp->TE):TE:=λσ H Q=>∃(vs:List V)(ps:Array fv),σ=vs.map some/\H T=some (.tbl ps)/\TriplesOk ps.toList/\codeAmong pos ps.toList=none/\
 (∀b,b≠T->H b=none\/∃o u,H b=some (.frz o u))/\∀more,teL (XA l (hT H T (ps++more)) (λv H3=>H3 T=some (.frz (W.tabObj (ps++more)) (.tbl (ps++more)))->Q v (upd H3 T (.tbl (ps++more))))) (hT H T (ps++more)) (vs.map some) (hT H T (ps++more))
  (λv H3=>H3 T=some (.frz (W.tabObj (ps++more)) (.tbl (ps++more)))->Q v (upd H3 T (.tbl (ps++more))))
section
variable {X:Cx}
theorem QF{cells:List (Str×xv)}{names:List (Str×NameKind)}(hf:∀y∈names,y.2=.free->∃c,cells.lookup y.1=some c){x:Str}{c:xv}(h:(bH cells names []).lookup x=some c):(x,NameKind.free)∈names/\cells.lookup x=some c:=by
 rcases gG (PySem.mem_of_lookup h)with h|⟨h1,h2⟩
 ·exact(nomatch h)
 ·obtain⟨c2,h3⟩:=hf _ h1 rfl;have h3:cells.lookup x=some c2:=h3;rw[h3]at h2;exact⟨h1,by rw[h3,h2];rfl⟩
theorem FL{cells:List (Str×xv)}{names:List (Str×NameKind)}{x:Str}(h:names.lookup x=some .free):∃c,(bH cells names []).lookup x=some c:=mem_lookup (iR (PySem.mem_of_lookup h))
theorem P4{k:Nat}{x:Str}{f:xv}{name qual:Str}{params:Arguments}{body:List Ga}{scope:Gj}{dV kV mf pm jx ct oc:fv}{an od:Option xv}{nh:Array (Option fv)}{l:List HD}{d0:HD}{r0:List HD}{p1 p2 p3 p4 p Cj pos:Pos}
  {kh:Arguments}{mq:Fz}{jv:Gj}{c T:xv}{teL:XK->Hp->TE}
  (hm:X.mg x=some (.ref f)) (lk:X.K.lookup f=some ⟨oc,od,.func (W.fnOf name qual params body scope dV kV mf pm an jx ct),nh⟩) (ot:W.codeIn X.K jx qual=true) (hkp:W.keepIn X.K (.ref f)=true)
  (hb:Binds X.K (W.fnOf name qual params body scope dV kV mf pm an jx ct) ["tell"] []) (S:aN ["tell"] ["tell"] scope) (Ap:scope.names.lookup ("tell" : Str)=some NameKind.local)
  (lr:body=[.Try [.Return (some (.Call (.Name "tell" p1) [] [] p2)) p3] (l.map HD.h) [] [] p4]) (hl:l=d0::r0)
  (hd:∀d∈l,X.mg d.x=some (.ref d.C)/\scope.names.lookup d.x=some .globalImplicit/\iJ X.base d.C/\(d.x==("__debug__" : Str))=false)
  (hg:Gl X x) (rm:(x==("__debug__" : Str))=false) (hr:cR (k+2) X.A) (Ec:∀y,X.fn y=true)
  (Eg:X.env.code=.ref c) (hC:W.CodeHd X.base c T) (hbm:QL X.mg X.base)
  (hdef:defaultsOf kh X.env=([],[])) (qu:∀(cl:List (Str×xv))(pm cd ct:fv),bindArgs (W.kla_fn "<lambda>" (X.env.qual++ "<lambda>") kh mq jv cl pm cd ct) ⟨[],[]⟩=pure [])
  (hkL:jv.kind=.function) (hcoL:jv.isCoroutine=false) (Eb:jv.isGenerator=false) (hncL:∀y∈jv.names,y.2≠ .cell) (hnlL:∀y,jv.names.lookup y≠some .local)
  (xl:∀y∈jv.names,y.2=.free->X.env.kindOf y.1=some .cell)
  (Dk:∀(fl c':xv)(cl:List (Str×xv))(A:Ft)(outer:List Env)(s:Fe)(H:Hp)(E:XK),cR k (A.deeper (W.envX (X.env.qual++ "<lambda>") jv s.heap.objs.size fl (.ref c') cl))->HOk X.prog X.w H s.heap ->
   PE (cxL X.prog X.w X.K X.mg X.base X.N (X.env.qual++ "<lambda>") jv fl (.ref c') cl A outer s H E) mq (teL E H))
  (qi:Fq [.Lambda kh mq jv pos] X.env=(false,eval (.Lambda kh mq jv pos) X.env)::Fq [] X.env:=by rfl):
  PE X (.Call (.Name x p) [.Lambda kh mq jv pos] [] Cj) (WV T l pos teL):=by
 intro jr s σ H Q I h;obtain⟨vs,ps,rfl,xx,htri,Bn,Ed,hL⟩:=h;have lj:∀y∈jv.names,y.2=.free->∃c,X.env.cells.lookup y.1=some c:=λy hy e=>I.ok.has _ (.inl (xl y hy e))
 have zf:X.base.get? T=none:=by
  cases q:X.base.get? T with
  |none=>rfl
  |some o=>have:=(I.bs T o q).2;rw[xx]at this;cases this
 have hPt:s.heap.get? T=some (W.tabObj ps):=I.hok T _ xx;have hgs:=I.ok.mod.glob;have hgP:Fl≠T:=λq=>by obtain⟨o,es,ep,e,_⟩:=hgs;rw[q,zf]at e;cases e
 have hbmT:s.heap.BuiltinsAt X.mg T:=by obtain⟨bm,ob,b1,b2,b3,b4,b5,b6,b7⟩:=hbm;exact⟨bm,ob,b1,b2,b3,(λq=>by rw[q,zf]at b4;cases b4),I.bk _ _ b4,b5,b6,b7⟩
 refine wpAny_Call_Name_kw (k6 I hg hm ?_ rm);refine W.callWith_K (h₀:=X.base) I.ok.mod.kin hkp ?_ qi rfl;rw[qi];show Fi _ _ (spliced ((false,eval (.Lambda kh mq jv pos) X.env)::backTo Cj (Fq [] X.env))) _ _ s
 refine Calls.spliced_cons (W.kla_eval hdef (W.kla_makeFunction (oB lj) I.ok.glob (hgs.keeps I.bk) Eg (hC.keeps I.bk) hPt htri Bn hgP hbmT λc' Bw h' tk hx As ka Ae oj=>Calls.spliced_nil ?_));generalize oo:bH X.env.cells jv.names []=cl;generalize hps:ps++#[rawInt pos.line,rawInt pos.col,fv.ref c']=ps' at oj;generalize tm:({s with heap:=h'.push (W.kla_obj "<lambda>" (X.env.qual++ "<lambda>") kh mq jv cl ((X.mg "__name__").getD .none) c' Bw),toks:=tk}:Fe)=s2;have e2:s2.heap=h'.push (W.kla_obj "<lambda>" (X.env.qual++ "<lambda>") kh mq jv cl ((X.mg "__name__").getD .none) c' Bw):=by rw[<- tm]
 have kp:∀b o,b≠T->s.heap.get? b=some o->s2.heap.get? b=some o:=λb o n e=>by rw[e2];exact ak _ (hx b o n e)
 have wo:s2.heap.get? T=some (W.tabObj ps'):=by rw[e2];exact ak _ oj
 have szT:T<s.heap.objs.size:=br hPt;have nT:∀b u,H b=some u->(∀q,u≠ .tbl q)->b≠T:=λb u e n z=>by rw[z,xx]at e;cases e;exact n _ rfl
 have un1:Un X.fs [] H (upd H T (.tbl ps')) s.heap s2.heap:=
  ⟨λb o e n _ _=>kp b o (λz=>by rw[z,xx]at n;cases n) e,λb o e n _ _=>⟨o.slots,kp b o (λz=>by rw[z,xx]at n;cases n) e⟩,
   λb o e n _=>by rw[aB (λz=>by rw[z,xx]at n;cases n)];exact n,
   λb o e _=>by
    by_cases z:b=T
    ·exact⟨_,z▸wo⟩
    ·exact⟨_,kp b o z e⟩,
   λb xs e=>by rw[aB (nT b _ e λq z=>nomatch z)];exact e,λb o u e=>by rw[aB (nT b _ e λq z=>nomatch z)];exact e,
   λb q e=>by
    by_cases z:b=T
    ·rw[z,xx]at e;cases e;exact⟨_,by rw[z,a8,<- hps]⟩
    ·exact⟨#[],by rw[aB z,e];simp⟩⟩
 have yo:∀(H':Hp),(∀b,b≠T->H' b=H b)->∀a o,a≠T->H' a=some o->cS X.prog X.w H' s2.heap a o:=λH' he a o na e=>by
  rw[he a na]at e;refine(I.hok a o e).oP (λb u hb q=>?_) (λb z=>?_) (λb xs z=>?_)
  ·refine kp b u ?_ q;rcases hb with rfl|hb
   ·exact na
   ·exact nT b _ hb λq z=>nomatch z
  ·rw[he b (nT b _ z λq z=>nomatch z)];exact z
  ·rw[he b (nT b _ z λq z=>nomatch z)];exact z
 have hok1:HOk X.prog X.w (upd H T (.tbl ps')) s2.heap:=λa o e=>by
  by_cases z:a=T
  ·rw[z,a8]at e;cases e;subst z;exact wo
  ·exact yo _ (λb n=>aB n) a o z e
 have I2:Inv X jr (vs.map some) (upd H T (.tbl ps')) s2:=by have:=I.un (t':=tk) (h':=s2.heap) un1 hok1;rw[<- tm]at this ⊢;exact this
 have hok2:HOk X.prog X.w (hT H T ps') s2.heap:=λa o e=>by
  by_cases z:a=T
  ·unfold hT at e;rw[z,a8]at e;cases e;subst z;exact⟨wo,wo⟩
  ·exact yo _ (λb n=>aB n) a o z e
 have hT_ne:∀b,b≠T->hT H T ps' b=upd H T (.tbl ps') b:=λb n=>by unfold hT;rw[aB n,aB n]
 have none_ne:∀b,upd H T (.tbl ps') b=none->b≠T:=λb e z=>by rw[z,a8]at e;cases e
 have E0:qB X.prog X.w X.K X.mg X.base X.A X.stack s2 (hT H T ps'):=by have e:=I2.L4;exact⟨e.frames,e.mod,λb o q=>⟨(e.bs b o q).1,by rw[hT_ne b (none_ne b (e.bs b o q).2)];exact(e.bs b o q).2⟩,e.bsz,e.lU,λb hb=>by rw[hT_ne b (none_ne b (e.frf b hb))];exact e.frf b hb,hok2,e.bare⟩
 refine⟨I2.kIn,?_⟩;have Es:Flat (hT H T ps'):=λb=>by
  by_cases z:b=T
  ·exact .inr ⟨_,_,by unfold hT;rw[z,a8]⟩
  ·rw[hT_ne b z,aB z];exact Ed b z
 have ph:∀b,s.heap.objs.size<=b->hT H T ps' b=none:=λb hb=>by
  have n:b≠T:=λz=>absurd szT (by rw[<- z];exact not_lt.mpr hb)
  rw[hT_ne b n,aB n];exact I.hok.fresh hb
 have uo:∀b,s.heap.objs.size<=b->b∉frs X.stack:=λb hb z=>by obtain⟨_,o,ho,_⟩:=I.stack.mem z;exact absurd (br ho) (not_lt.mpr hb)
 have xn:s.heap.objs.size<=h'.objs.size:=le_of_lt (ir As ka);have flo:s2.heap.get? h'.objs.size=some (W.kla_obj "<lambda>" (X.env.qual++ "<lambda>") kh mq jv cl ((X.mg "__name__").getD .none) c' Bw):=by rw[e2];exact az _ rfl
 have Bd:∀y c,X.env.cells.lookup y=some c->c∉frs X.stack:=λy c hy z=>by
  rcases aq.mp (I2.tQ c z)with q|q
  ·exact I2.cne y c hy q
  ·obtain⟨_,o,ho,_⟩:=I2.ok.lU.mem q;exact absurd (br ho) (not_lt.mpr (I2.ok.cab y c (Ec y) hy))
 have qv:∀y c,X.env.cells.lookup y=some c->hT H T ps' c=none:=λy c hy=>by have q:=I2.iO y c hy;rw[hT_ne c (none_ne c q)];exact q
 have run:=O1 (fl:=h'.objs.size) (E:=λ_ _ _=>False) (k:=k+1) lk ot S Ap lr hl hr E0 (hb s2 [.ref h'.objs.size] I2.kIn rfl) Es hd ⟨_,_,_,_,flo⟩ (ph _ xn) (uo _ xn)
  (Q:=λv H3=>H3 T=some (.frz (W.tabObj ps') (.tbl ps'))->Q v (upd H3 T (.tbl ps'))) λA1 rf s1 hr1 e1 kp1=>?_
 ·refine wpAny_call (codeAny_mono run λr s3 hq=>?_);cases r with
  |error e=>obtain⟨_,_,_,_,z⟩:=hq;exact z.elim
  |ok fl=>
   cases fl with
   |next=>exact False.elim hq
   |brk=>exact False.elim hq
   |cont=>exact False.elim hq
   |ret u=>
    obtain⟨v,H3,os,bare,un,Dm,rv,q⟩:=hq;have h3T:H3 T=some (.frz (W.tabObj ps') (.tbl ps')):=un.pM T _ _ (by unfold hT;rw[a8]);have n3:∀b u,H3 b=some u->(∀o q,u≠ .frz o q)->b≠T:=λb u e n z=>by rw[z,h3T]at e;cases e;exact n _ _ rfl
    have fr2:∀b,upd H T (.tbl ps') b=none->hT H T ps' b=none:=λb e=>by rw[hT_ne b (none_ne b e)];exact e
    have un4:Un (frs X.stack) [] (upd H T (.tbl ps')) (upd H3 T (.tbl ps')) s2.heap s3.heap:=
     ⟨λb o e n hb hx=>un.keep b o e (fr2 b n) hb hx,λb o e n hb hx=>un.slot b o e (fr2 b n) hb hx,λb o e n hx=>by rw[aB (none_ne b n)];exact un.free b o e (fr2 b n) hx,un.there,
      λb xs e=>by
       have n:b≠T:=λz=>by rw[z,a8]at e;cases e
       rw[aB n];exact un.l9 b xs (by rw[hT_ne b n];exact e),
      λb o u e=>by
       have n:b≠T:=λz=>by rw[z,a8]at e;cases e
       rw[aB n];exact un.pM b o u (by rw[hT_ne b n];exact e),
      λb q e=>by
       by_cases z:b=T
       ·rw[z,a8]at e;cases e;exact⟨#[],by rw[z,a8];simp⟩
       ·rw[aB z];exact un.tN b q (by rw[hT_ne b z];exact e)⟩
    have hok4:HOk X.prog X.w (upd H3 T (.tbl ps')) s3.heap:=λa o e=>by
     by_cases z:a=T
     ·rw[z,a8]at e;cases e;subst z;exact(Dm a _ h3T).1
     ·rw[aB z]at e;refine(Dm a o e).oP (λb u _ q=>q) (λb z=>?_) (λb xs z=>?_)
      ·rw[aB (n3 b _ z λ_ _ z=>nomatch z)];exact z
      ·rw[aB (n3 b _ z λ_ _ z=>nomatch z)];exact z
    exact⟨v,upd H3 T (.tbl ps'),I2.FN os un4 hok4 bare (λb z=>(nomatch z)),rv,q h3T⟩
 ·have c1:∀y c,cl.lookup y=some c->X.env.cells.lookup y=some c:=λy c e=>by rw[<- oo]at e;exact(QF lj e).2
  have cat:∀y c v,X.env.cells.lookup y=some c->s2.heap.IsCell c v->s1.heap.IsCell c v:=λy c v hy ⟨o,e,q⟩=>⟨o,kp1 _ _ e (qv y c hy) (Bd y c hy),q⟩
  have kc:vs.length=X.N.length:=by have:=I.len;rw[ai]at this;exact this
  refine N7 (k:=k) (te:=teL (XA l (hT H T ps') λv H3=>H3 T=some (.frz (W.tabObj ps') (.tbl ps'))->Q v (upd H3 T (.tbl ps'))) (hT H T ps')) (vs:=vs) (N:=X.N) hr1 e1 (kp1 _ _ flo (ph _ xn) (uo _ xn)) ?_ (qu _ _ _ _) hkL hcoL Eb hncL hnlL kc ?_ ?_ ?_ ?_ (λa b=>Dk _ _ _ _ _ _ _ _ a b) (by rw[<- hps];exact hL _)
  ·obtain⟨c3,oc3,vs3,t3,h1,h2,h3,h4⟩:=Ae;cases h1;exact⟨c',oc3,vs3,t3,rfl,kp1 _ _ (by rw[e2];exact ak _ h2) (ph _ As) (uo _ As),h3,h4⟩
  ·intro y z c h1 h2;exact I.ok.inj y z c (c1 y c h1) (c1 z c h2)
  ·intro y hy;rw[<- oo];exact FL hy
  ·intro y c h1;have h2:=c1 y c h1;obtain⟨v,h3⟩:=I2.cell y c h2;exact⟨qv y c h2,v,cat y c v h2 h3⟩
  ·intro i y v h1 h2 h3;have hk:=xl _ (PySem.mem_of_lookup h3) rfl;obtain⟨m,_,hlk⟩:=I2.loc;obtain⟨u,ru,lku⟩:=hlk i y v h1 (by rw[bc,h2];rfl) (.inr (.inl hk));obtain⟨c,hc⟩:=FL (cells:=X.env.cells) h3;rw[oo]at hc;refine⟨c,u,hc,ru,?_⟩;rcases lku with⟨vz,_⟩|⟨_,c2,so,pb⟩
   ·rw[show X.env.kindOf y=some .cell from hk]at vz;cases vz
   ·have:=c1 y c hc;rw[this]at so;cases so;exact cat y c _ this pb
end
theorem w8{P:Params}{h:Fp}:∀{vs:List fv}{ns:List Int},W.WellAll P h vs (ns.map W.WData.int)->IntsAre vs ns
 |vs,[],h=>by cases h;exact .nil
 |vs,n::ns,h=>by
  cases h with
  |cons h r=>cases h with
   |int i t=>exact .cons n t (w8 r)
theorem xH:∀{vs:List fv}{ns ms:List Int},IntsAre vs ns->IntsAre vs ms->ns=ms
 |_,_,_,.nil,h=>by cases h;rfl
 |_,_,_,.cons n t h,g=>by
  cases g with
  |cons m u g=>rw[xH h g]
theorem tZ{R:W.WRecords}{cl:Str->Option xv}{h:Fp}:∀{ns:List Int}{its:List fv},Vals (ns.map V.int) its->W.ReadsAllW R cl h its (ns.map W.WData.int) []
 |[],_,.nil=>.nil
 |n::ns,_,.cons ⟨t,e⟩ r=>by subst e;exact .cons (as:=[]) (.int n t) (tZ r)
noncomputable def qD(tb:xv)(H:Hp):Prop:=H tb=some (.tbl #[])/\∀b,b≠tb->H b=none\/∃o xs,H b=some (.frz o (.lst xs))
theorem qD.flat{tb:xv}{H:Hp}(h:∀b,b≠tb->H b=none\/∃o xs,H b=some (.frz o (.lst xs)))(b:xv)(n:b≠tb):H b=none\/∃o u,H b=some (.frz o u):=(h b n).imp (λq=>q) λ⟨o,xs,q⟩=>⟨o,_,q⟩
abbrev K3(vs:List fv):Obj:={cls:=.type "list",data:=.seq vs.toArray}
noncomputable def zF(K:Fg)(tb:xv)(LA:List (xv×List fv×List Int)):Hp:=λb=>if b=tb then some (.tbl #[])else
 match K.lookup b with
 |some _=>none
 |none=>(LA.lookup b).map λp=>.frz (K3 p.1) (.lst (p.2.map V.int))
theorem GW{P:Fo}{w:Fw}{K:Fg}{mg mb:Str->Option fv}{k:Nat}{fa tb:xv}{fd:Gi}{ps:List Str}{sp:Sp}{s1:Fe}{nj:List fv}{vs:List V}{LA:List (xv×List fv×List Int)}{R:List Int->Prop}
  (KX:K.In s1.heap) (hns:s1.heap.Ns Fl mg) (hb:s1.heap.Ns builtinsNs mb) (hbb:∀x:Str,x≠ "__name__" ->mb x=bootBuiltins x) (hlim:s1.heap.NoLimit) (hg:s1.gens=#[])
  (Ek:∀p∈LA,s1.heap.get? p.1=some (K3 p.2.1)/\IntsAre p.2.1 p.2.2/\p.2.2.length<=Fh)
  (oj:s1.heap.get? tb=some (W.tabObj #[])) (hct:isCodeTable s1.heap tb) (Em:K.lookup tb=none) (hr:cR k callerA) (rv:Vals vs nj)
  (F:∀base:Fp,Mod K mg base->(∀b o,s1.heap.get? b=some o->o.cls≠ .type "list" ->b≠tb->base.get? b=some o)->bJ P w K mg base CXf k fa fd ps sp)
  (qu:BindsTo s1 fd ⟨nj,[]⟩ (ps.zip nj))
  (va:∀H:Hp,qD tb H->(∀p∈LA,SqL K H p.1 (p.2.2.map V.int))->sp vs H (λv H'=>∃p ns,v=.ref p/\H' p=some (.lst (ns.map V.int))/\R ns) λ_ _ _=>False):
  codeAny (Fm P w) callerA (.call (.ref fa) ⟨nj,[]⟩) (λr s'=>(∃p its n ns,r=.ok (.ret (.ref p))/\s'.heap.get? p=some {cls:=.type "list",data:=.seq (List.toArray its) n}/\Vals (ns.map V.int) its/\R ns)/\OldK s1.heap s'.heap/\s'.os=s1.os/\AllBare s'.gens) s1:=by
 have find:∀{b:xv}{x:List fv×List Int},LA.lookup b=some x->(b,x)∈LA:=λ{b x} e=>by
  have:∀l:List (xv×List fv×List Int),l.lookup b=some x->(b,x)∈l:=by
   intro l;induction l with
   |nil=>intro e;cases e
   |cons y r ih=>
    intro e;rw[gh]at e;cases q:b==y.1 with
    |true=>rw[q]at e;cases e;rw[eq_of_beq q];exact ay
    |false=>rw[q]at e;exact ao _ (ih e)
  exact this LA e
 generalize hH:zF K tb LA=H;have Htb:H tb=some (.tbl #[]):=by rw[<- hH];unfold zF;rw[ah rfl]
 have cases_H:∀b,b≠tb->H b=none\/∃x,K.lookup b=none/\(b,x)∈LA/\H b=some (.frz (K3 x.1) (.lst (x.2.map V.int))):=λb n=>by
  rw[<- hH];unfold zF;rw[af n];cases e:K.lookup b with
  |some o=>exact .inl rfl
  |none=>
   cases q:LA.lookup b with
   |none=>exact .inl rfl
   |some x=>exact .inr ⟨x,rfl,find q,rfl⟩
 have hAt:qD tb H:=⟨Htb,λb n=>by
  rcases cases_H b n with q|⟨x,_,_,q⟩
  ·exact .inl q
  ·exact .inr ⟨_,_,q⟩⟩
 have hS:∀p∈LA,SqL K H p.1 (p.2.2.map V.int):=λp hp=>by
  obtain⟨h1,h2,h3⟩:=Ek p hp;have n:p.1≠tb:=λz=>by rw[z,oj]at h1;cases h1
  cases e:K.lookup p.1 with
  |some o=>have q:=KX _ _ e;rw[h1]at q;cases q;exact .inr ⟨_,p.2.1.toArray,_,e,rfl,rfl,rfl,by rw[bj,h2.length];exact h3,by simpa using qE h2⟩
  |none=>
   have q:∃x,LA.lookup p.1=some x:=by
    have:∀l:List (xv×List fv×List Int),p∈l->∃x,l.lookup p.1=some x:=by
     intro l;induction l with
     |nil=>intro e;cases e
     |cons y r ih=>
      intro e;rw[gh];cases q:p.1==y.1 with
      |true=>exact⟨_,rfl⟩
      |false=>
       rcases aq.mp e with e|e
       ·rw[e]at q;simp at q
       ·exact ih e
    exact this LA hp
   obtain⟨x,q⟩:=q;obtain⟨g1,g2,g3⟩:=Ek _ (find q);have e1:p.2.1=x.1:=by
    rw[h1]at g1;have:=Option.some.inj g1;injection this with _ _ z _
    injection z with z _
    simpa using congrArg Array.toList z
   have e2:p.2.2=x.2:=xH h2 (e1▸g2);refine .inl (.inr ⟨K3 x.1,?_⟩);rw[<- hH];unfold zF;rw[af n,e,q,e2];rfl
 have hok:HOk P w H s1.heap:=λb o e=>by
  by_cases z:b=tb
  ·rw[z,Htb]at e;cases e;rw[z];exact oj
  ·rcases cases_H b z with q|⟨x,_,hm,q⟩
   ·rw[q]at e;cases e
   ·rw[q]at e;cases e;obtain⟨g1,g2,g3⟩:=Ek _ hm;exact⟨g1,by rw[ai];exact g3,x.1,_,qE g2,g1⟩
 have base_of:∀{b:xv}{o:Obj},s1.heap.get? b=some o->H b=none->(z8 s1.heap H).get? b=some o:=λe n=>KN e n
 have notl:∀b o,s1.heap.get? b=some o->o.cls≠ .type "list" ->b≠tb->H b=none:=λb o e hc n=>by
  rcases cases_H b n with q|⟨x,_,hm,q⟩
  ·exact q
  ·have:=(Ek _ hm).1;rw[e]at this;cases this;exact absurd rfl hc
 have nsK:∀{b:xv}{m:Str->Option fv},s1.heap.Ns b m->(z8 s1.heap H).Ns b m:=λ{b m} ⟨o,es,ep,e,d,r⟩=>⟨o,es,ep,base_of e (by
  by_cases z:b=tb
  ·rw[z,oj]at e;cases e;cases d
  ·rcases cases_H b z with q|⟨x,_,hm,q⟩
   ·exact q
   ·have:=(Ek _ hm).1;rw[e]at this;cases this;cases d),d,r⟩
 have hKb:K.In (z8 s1.heap H):=λb o e=>base_of (KX b o e) (by
  by_cases z:b=tb
  ·rw[z,Em]at e;cases e
  ·rcases cases_H b z with q|⟨x,hk,hm,q⟩
   ·exact q
   ·rw[hk]at e;cases e)
 have hM:Mod K mg (z8 s1.heap H):=⟨hKb,nsK hns,⟨mb,nsK hb,hbb⟩,let⟨mc,h1,h2⟩:=hlim;⟨mc,nsK h1,h2⟩⟩;have e0:qB P w K mg (z8 s1.heap H) callerA [] s1 H:=⟨rfl,hM,λb o e=>MP e,iq (HC _ _),trivial,λb hb=>absurd (show b∈([]:List xv)from hb) (by simp),hok,.of_eq hg⟩;refine codeAny_mono ((F _ hM (λb o e hc n=>base_of e (notl b o e hc n))).run callerA [] s1 H ⟨nj,[]⟩ nj vs _ _ hr e0 qu rv (va H hAt hS)) λr s' h=>?_
 cases r with
 |error e=>obtain⟨_,_,_,_,z⟩:=h;exact z.elim
 |ok fl=>
  cases fl with
  |next=>exact False.elim h
  |brk=>exact False.elim h
  |cont=>exact False.elim h
  |ret u=>
   obtain⟨v,H',os,bare,un,Am,r',p,ns,hv,hp,hR⟩:=h;subst hv;obtain rfl:u=fv.ref p:=r';obtain⟨_,its,n,pr,Ar⟩:=Am p _ hp;refine⟨⟨p,its,n,ns,rfl,Ar,pr,hR⟩,?_,os,bare⟩;have kept:∀b o,b≠tb->s1.heap.get? b=some o->s'.heap.get? b=some o:=λb o n e=>by
    rcases cases_H b n with q|⟨x,_,hm,q⟩
    ·exact un.keep b o e q (by intro z;exact absurd (show b∈([]:List xv)from z) (by simp)) (by simp)
    ·obtain⟨e1,_⟩:=hok b _ q;obtain⟨e2,_⟩:=Am b _ (un.pM b _ _ q);rw[e]at e1;cases e1;exact e2
   obtain⟨more,Dv⟩:=un.tN tb _ Htb;have t2:s'.heap.get? tb=some (W.tabObj (#[]++more)):=Am tb _ Dv;refine⟨λb o e=>?_,λb o e=>?_⟩
   ·by_cases z:b=tb
    ·subst z;rw[oj]at e;cases e;exact .inr (.inl ⟨hct,rfl,#[],more,rfl,t2⟩)
    ·exact .inl (kept b o z e)
   ·by_cases z:b=tb
    ·exact⟨_,z▸t2⟩
    ·exact⟨_,kept b o z e⟩
structure aG(K:Fg)(x:Str)(st:Ga):Prop where
 ex:∃f fd,W.nsIn K Fl x=some (some (.ref f))/\Fun K x x st f fd
theorem QA{K:Fg}{x:Str}{st:Ga}{f:xv}{oc:fv}{od an:Option xv}{nh:Array (Option fv)}{kV mf pm jx ct:fv}(a:W.nsIn K Fl x=some (some (.ref f)))
  (l:K.lookup f=some ⟨oc,od,.func (W.fnOf x x (iQ st) (fO st) (aH st) .none kV mf pm an jx ct),nh⟩) (c:W.codeIn K jx x=true) (k:W.keepIn K (.ref f)=true):aG K x st:=⟨f,_,a,DS l c k⟩
theorem aG.ok{P:Fo}{w:Fw}{K:Fg}{mg:Str->Option fv}{base:Fp}{CX:CXT}{k:Nat}{x:Str}{st:Ga}{ps:List Str}{sp:Sp}(D:aG K x st)(M:Mod K mg base)
  (h:∀f fd,Fun K x x st f fd->bJ P w K mg base CX k f fd ps sp)
  (hb:∀(kV mf pm:fv)(an:Option xv)(jx ct:fv)(us:List fv),us.length=ps.length->bindArgs (W.fnOf x x (iQ st) (fO st) (aH st) .none kV mf pm an jx ct) ⟨us,[]⟩=pure (ps.zip us)):aO P w K mg base CX k x ps sp:=by
 obtain⟨f,fd,a,F⟩:=D.ex;exact⟨⟨f,fd,h f fd F,W.mg_of M.kin M.glob a,F.kp,F.binds hb⟩⟩
noncomputable def CQ(K:Fg)(v:fv)(p:Int×Int):Bool:=match v with
 | .ref b=>(match K.lookup b with
  |some ⟨.type "tuple",_,.seq its _,_⟩=>(match its.toList with
   |[.int x _,.int y _]=>x==p.1&& y==p.2
   |_=>false)
  |_=>false)
 |_=>false
noncomputable def sY(K:Fg):List fv->List (Int×Int)->Bool
 |[],[]=>true
 |v::vs,p::ps=>CQ K v p&& sY K vs ps
 |_,_=>false
noncomputable def vB(K:Fg)(a:xv)(ps:List (Int×Int)):Bool:=match K.lookup a with
 |some ⟨.type "tuple",_,.seq its _,_⟩=>sY K its.toList ps&& decide (its.size<=1000)
 |_=>false
theorem MM{K:Fg}{v:fv}{p:Int×Int}(h:CQ K v p=true):∃b,v=.ref b/\∀H,C2 K H (.ref b) p:=by
 unfold CQ at h;split at h
 ·rename_i b;split at h
  ·rename_i its n sl hk;split at h
   ·rename_i x t y u hi;rw[bw,beq_iff_eq,beq_iff_eq]at h;refine⟨b,rfl,λH=>⟨b,rfl,.inr ⟨_,its,n,hk,rfl,rfl,?_,?_⟩⟩⟩
    ·rw[<- dm,hi];show 2<=Fh
     decide
    ·rw[hi];exact .cons ⟨t,by rw[h.1]⟩ (.cons ⟨u,by rw[h.2]⟩ .nil)
   ·cases h
  ·cases h
 ·cases h
theorem AE{K:Fg}:∀{vs:List fv}{ps:List (Int×Int)},sY K vs ps=true->∃xs:List V,Vals xs vs/\Paired (λv p=>∀H,C2 K H v p) xs ps
 |[],[],_=>⟨[],.nil,.nil⟩
 |v::vs,p::ps,h=>by unfold sY at h;rw[bw]at h;obtain⟨b,rfl,hb⟩:=MM h.1;obtain⟨xs,h1,h2⟩:=AE h.2;exact⟨.ref b::xs,.cons rfl h1,.cons hb h2⟩
 |[],_::_,h=>by cases h
 |_::_,[],h=>by cases h
theorem vA{K:Fg}{a:xv}{ps:List (Int×Int)}(h:vB K a ps=true):CT2 K a ps:=by
 unfold vB at h;split at h
 ·rename_i its n sl hk;rw[bw]at h;obtain⟨xs,h1,h2⟩:=AE h.1;exact⟨xs,λH=>.inr ⟨_,its,n,hk,rfl,rfl,de (bq h.2) Hd,h1⟩,h2⟩
 ·cases h
noncomputable def yM(K:Fg)(a:xv):Bool:=match K.lookup a with
 |some ⟨.type "tuple",_,.seq its _,_⟩=>(match its.toList with
  |[.int 0 _,.int 1 _,.int 2 _,.int 3 _]=>true
  |_=>false)
 |_=>false
theorem J0{K:Fg}{a:xv}(h:yM K a=true)(H:Hp):SqT K H a [.int 0,.int 1,.int 2,.int 3]:=by
 unfold yM at h;split at h
 ·rename_i its n sl hk;split at h
  ·rename_i t0 t1 t2 t3 hi;refine .inr ⟨_,its,n,hk,rfl,rfl,?_,?_⟩
   ·rw[<- dm,hi];show 4<=Fh
    decide
   ·rw[hi];exact .cons ⟨t0,rfl⟩ (.cons ⟨t1,rfl⟩ (.cons ⟨t2,rfl⟩ (.cons ⟨t3,rfl⟩ .nil)))
  ·cases h
 ·cases h
theorem pQ{K:Fg}{h:Fp}{C:xv}{nm q:Str}{N:xv}{bs:List fv}{hdct:Bool}{sn:List Str}{sub:List fv}{ab:Bool}{col:Option Bool}{dd:Option xv}{k0 k1 k2 k3 k5:Option fv}{mh:String}
  (X:K.In h) (l:K.lookup C=some (excClassObj nm q C N bs [.type "Exception",.type "BaseException",.type "object"] hdct sn sub ab col dd k0 k1 k2 k3 k5 mh)):iJ h C:=
 ⟨nm,q,N,bs,_,hdct,sn,sub,ab,col,dd,k0,k1,k2,k3,k5,mh,X _ _ l,Hd,λD=>by rfl⟩
theorem OL{K:Fg}{x:Str}{f c tb:xv}{oc oc2:fv}{od od2:Option xv}{fd:Gi}{nh uk:Array (Option fv)}{vs:Array fv}(a:W.nsIn K Fl x=some (some (.ref f)))
  (l:K.lookup f=some ⟨oc,od,.func fd,nh⟩) (hc:fd.code=.ref c) (l2:K.lookup c=some ⟨oc2,od2,.fields vs,uk⟩) (hv:vs[11]? =some (.ref tb)):W.tabIn K x=some (c,tb):=by
 unfold W.tabIn;rw[a];dsimp only;rw[l];dsimp only;rw[hc];dsimp only;rw[l2];dsimp only;rw[hv]
theorem BS{h base:Fp}{c tb:xv}(C:W.CodeHd h c tb)(k:∀b o,h.get? b=some o->o.cls≠ .type "list" ->b≠tb->base.get? b=some o):W.CodeHd base c tb:=by obtain⟨o,vs,Et,tf,zc,tg,inF,text,tt,e,oo,r⟩:=C;have jw:c≠tb:=r.2.2.2.2.2.2.2;exact⟨o,vs,Et,tf,zc,tg,inF,text,tt,k c o e (by rw[oo];intro z;injection z with z;exact absurd z Hd) jw,oo,r⟩
theorem HZ{h:Fp}{c tb:xv}(C:W.CodeHd h c tb):isCodeTable h tb:=by obtain⟨o,vs,Et,tf,zc,tg,inF,text,tt,e,oo,hd,hv,_⟩:=C;exact⟨c,o,vs,e,oo,hd,hv⟩
theorem NW{p:Fo}{loose:List Str}{zu:ExcName->Option fv}{mg mb:Str->Option fv}{h base:Fp}{tb:xv}(T:Top p loose zu mg mb h)(ht:h.get? tb=some (W.tabObj #[]))
  (k:∀b o,h.get? b=some o->o.cls≠ .type "list" ->b≠tb->base.get? b=some o):QL mg base:=by
 obtain⟨bm,ob,b1,b2,b3,b4,b5,b6⟩:=T.bmain;refine⟨bm,ob,b1,b2,λq=>?_,k bm ob b3 (by rw[b4];intro z;injection z with z;exact absurd z Hd) (λq=>?_),b4,b5,b6⟩
 ·obtain⟨o,es,ep,e,hd,_⟩:=T.g;rw[q,e]at b3;cases b3;rw[hd]at b6;cases b6
 ·rw[q,ht]at b3;cases b3;cases b4
section
variable {prog:Fo}{w:Fw}{A:Ft}{E:Hf}{l it:xv}{items:Array fv}
theorem rY{h h':Fp}(sb:Fp.SameBut it h h')(ne:l≠it)(hl:h.IsList l items):h'.IsList l items:=let⟨o,ho,q⟩:=hl;⟨o,(sb.2 l ne).trans ho,q⟩
theorem HQ(ne:l≠it):∀(n i:Nat)(s:Fe)(Q:List fv->Fe->Prop),s.heap.IsListIter it l i->s.heap.IsList l items->i+n<=items.size ->
  (∀g,g.IsListIter it l (i+n)->Fp.SameBut it s.heap g->Q ((items.toList.drop i).take n) {s with heap:=g})->Fi (Fm prog w) A (draw (.ref it) n) Q E s:=by
 intro n;induction n with
 |zero=>intro i s Q a b c k;exact ag (by simpa using k s.heap a (Fp.SameBut.refl ..))
 |succ n ih=>
  intro i s Q a b c k;have hi:i<items.size:=Hc
  refine(aa (wpAny_pyNext_list_item a b (x:=items[i]) (by simp[hi]) λg a1 sb=>?_):Fi _ _ (pyNext (.ref it)>>= _) Q E s);refine aa (wpAny_holding (ih (i+1) _ _ a1 (rY sb ne b) Hc λg2 a2 sb2=>ag ?_));have z:=k g2 (by rw[show i+(n+1)=i+1+n by omega];exact a2) (sb.trans sb2)
  rwa [show items.toList.drop i=items[i]::items.toList.drop (i+1) by simp[List.drop_eq_getElem_cons,hi],List.take_succ_cons]at z
theorem pY{s:Fe}{env:Env}{my:List Fz}{k:Nat}{pos:Pos}{Q:Unit->Fe->Prop}(hh:A.handled=none)(hl:s.heap.IsList l items)(hn:(assignEach my env).length=items.size)(hs:(assignEach my env).findIdx? (·.1)=none)
  (h:∀g,Fp.ExtBut s.heap.objs.size s.heap g->Fi (Fm prog w) A (assignInOrder ((assignEach my env).map (·.2)) items.toList) Q E {s with heap:=g}):Fi (Fm prog w) A (assign (.Tuple my k pos) env (.ref l)) Q E s:=by
 have ne:l≠s.heap.objs.size:=let⟨_,ho,_⟩:=hl;cj (br ho)
 rw[assign_Tuple];refine aa (wpAny_standAt ?_);unfold unpack;rw[hn,hs];refine aa (wpAny_holding ?_);unfold unpackItems notIterableAtAll;refine aa (aa (wpAny_specialOf hl.typeIs slot_list_iter.lookup (ag ?_)));simp only[dc,if_false];refine aa (wpAny_holding (wpAny_pyIter_list hl ?_));have vx:(s.heap.push {cls:=.type "list_iterator",data:=.fields #[.ref l,.int 0 0]}).IsList l items:=let⟨o,ho,q⟩:=hl;⟨o,ak _ ho,q⟩
 refine aa (wpAny_holding (HQ ne items.size 0 _ _ ⟨_,az _ rfl,rfl,rfl⟩ vx Hc λg a sb=>?_));have el:(items.toList.drop 0).take items.size=items.toList:=by rw[List.drop_zero];exact bf (by simp)
 rw[el,af (by simp)];refine aa (wpAny_holding (wpAny_pyNext_list_end hh a (rY sb ne vx) (by simp) λh2 eb=>?_));simp only[Option.isSome_none,dc,if_false];exact ag (h h2 λb o nb e=>eb b o nb ((sb.2 b nb).trans (ak _ e)))
end
section
variable {X:Cx}{pos:Pos}
noncomputable def a0L(K:Fg)(n:Nat)(t:TGs):TG:=λv σ H Q=>∃a xs,v=.ref a/\SqL K H a xs/\xs.length=n/\t xs σ H Q
theorem OZ{es:List Fz}{k:Nat}{t:TGs}{n:Nat}(hc:X.calm=true)(h:PGs X es t)(hn:(assignEach es X.env).length=n:=by rfl)(qi:(assignEach es X.env).findIdx? (·.1)=none:=by rfl):PG X (.Tuple es k pos) (a0L X.K n t):=by
 intro jr s σ H v u Q I r ⟨a,xs,e1,hq,hl,hw⟩;subst e1;cases r;obtain⟨its,rv,ht,_⟩:=I.list hq;refine pY (I.ok.hd hc) ht.isList (by simp[hn,<- hl,rv.length]) qi λg hx=>?_
 exact h jr _ σ H xs _ Q (I.kept (t':=s.toks) λb o e=>hx b o (cj (br e)) e) (by simpa using rv) hw
end
end L3
namespace L3
open PySem PySem.Spec PyProof.Rows L2
abbrev NK:=Int ⊕ List Int
section
variable {P:Fo}{w:Fw}
noncomputable def NIs(P:Fo)(w:Fw)(h:Fp):NK->fv->Prop
 | .inl k,v=>(PySem.intKind P w).is k v=true
 | .inr ks,v=>∃b,v=.ref b/\IsTupleKey (PySem.intKind P w) h ks b
inductive eV (P:Fo) (w:Fw) (h:Fp):List NK->List fv->Prop
 |nil:eV P w h [] []
 |cons {k:NK}{v:fv}{ks:List NK}{vs:List fv}:NIs P w h k v->eV P w h ks vs->eV P w h (k::ks) (v::vs)
noncomputable def dY(P:Fo)(w:Fw)(h:Fp)(ks:List NK)(a:xv):Prop:=∃o its n,h.get? a=some o/\o.cls=.type "tuple" /\o.data=.seq its n/\eV P w h ks its.toList
noncomputable def rV:NK->Int
 | .inl k=>hashInt k
 | .inr ks=>reduceHash (Builtin.Tuple.tupleHashOf (ks.map hashInt))
def uK:NK->Nat
 | .inl _=>1
 | .inr ks=>ks.length+1
def cP:List NK->Nat
 |[]=>1
 |k::ks=>uK k+cP ks
theorem NIs.inj{h:Fp}{x y:NK}{v:fv}(hx:NIs P w h x v)(hy:NIs P w h y v):x=y:=by
 cases x with
 |inl a=>cases y with
  |inl b=>exact congrArg _ ((PySem.intKind P w).inj _ _ _ hx hy)
  |inr b=>obtain⟨c,rfl,_⟩:=hy;have:=(PySem.intKind P w).byValue _ _ hx;cases this
 |inr a=>
  obtain⟨c,rfl,hx⟩:=hx;cases y with
  |inl b=>have:=(PySem.intKind P w).byValue _ _ hy;cases this
  |inr b=>obtain⟨c',e,hy⟩:=hy;cases e;exact congrArg _ (hx.inj hy)
theorem eV.inj{h:Fp}{x y:List NK}{vs:List fv}(hx:eV P w h x vs)(hy:eV P w h y vs):x=y:=by
 induction hx generalizing y with
 |nil=>cases hy;rfl
 |cons h1 _ ih=>cases hy with|cons h2 t2=>rw[h1.inj h2,ih t2]
theorem dY.ty{s:Fe}{ks:List NK}{a:xv}(x:dY P w s.heap ks a):s.TypeIs (.ref a) "tuple" :=let⟨o,_,_,h1,h2,_⟩:=x;⟨o,h1,h2⟩
theorem dY.inj{h:Fp}{a:xv}{x y:List NK}(hx:dY P w h x a)(hy:dY P w h y a):x=y:=by obtain⟨o,its,n,e,_,d,i⟩:=hx;obtain⟨o',its',n',e',_,d',i'⟩:=hy;cases e.symm.trans e';cases d.symm.trans d';exact i.inj i'
theorem NIs.keeps{h h':Fp}{k:NK}{v:fv}{d:xv}{o:Obj}{es ep}(x:NIs P w h k v)(ho:h.get? d=some o)(hd:o.data=.dict es ep)(hs:Fp.SameBut d h h'):NIs P w h' k v:=by
 cases k with
 |inl k=>exact x
 |inr ks=>obtain⟨b,e,z⟩:=x;exact⟨b,e,z.keeps ho hd hs⟩
theorem eV.keeps{h h':Fp}{ks:List NK}{vs:List fv}{d:xv}{o:Obj}{es ep}(x:eV P w h ks vs)(ho:h.get? d=some o)(hd:o.data=.dict es ep)(hs:Fp.SameBut d h h'):eV P w h' ks vs:=by
 induction x with
 |nil=>exact .nil
 |cons a _ ih=>exact .cons (a.keeps ho hd hs) ih
theorem dY.keeps{h h':Fp}{ks:List NK}{a d:xv}{o:Obj}{es ep}(x:dY P w h ks a)(ho:h.get? d=some o)(hd:o.data=.dict es ep)(hs:Fp.SameBut d h h'):dY P w h' ks a:=by
 obtain⟨o',its,n,e,c,d',i⟩:=x;have ne:a≠d:=by rintro rfl;cases e.symm.trans ho;rw[hd]at d';cases d'
 exact⟨o',its,n,(hs.2 a ne).trans e,c,d',i.keeps ho hd hs⟩
variable {A:Ft}{E:Hf}{s:Fe}
theorem PD{k:NK}{v:fv}{Q:Int->Fe->Prop}(hu:A.units<cLine)(hk:NIs P w s.heap k v)(h:Q (rV k) {s with toks:=s.toks+uK k}):Fi (Fm P w) A (PySem.pyHash v) Q E s:=by
 cases k with
 |inl k=>exact(PySem.intKind P w).pyHash (k:=k) hk h
 |inr ks=>obtain⟨b,rfl,z⟩:=hk;exact wpAny_pyHash_tuple hu z h
theorem a0F{x y:NK}{u v:fv}{Q:Bool->Fe->Prop}(hu:A.units<cLine)(sh:x.isLeft=y.isLeft)(hx:NIs P w s.heap x u)(hy:NIs P w s.heap y v)(h:Q (decide (x=y)) s):Fi (Fm P w) A (eqBool u v) Q E s:=by
 cases x with
 |inl a=>cases y with
  |inl b=>exact(PySem.intKind P w).eqBool hx hy (by rw[show decide (a=b)=decide ((Sum.inl a:NK)=.inl b) by simp];exact h)
  |inr b=>cases sh
 |inr a=>cases y with
  |inl b=>cases sh
  |inr b=>obtain⟨c,rfl,hx⟩:=hx;obtain⟨c',rfl,hy⟩:=hy;exact wpAny_eqBool_tuple hu hx hy (by rw[show decide (a=b)=decide ((Sum.inr a:NK)=.inr b) by simp];exact h)
theorem uJ:∀(a b:List NK),cP (a++b)+1=cP a+cP b
 |[],b=>by show cP b+1=1+cP b;omega
 |k::a,b=>by
  have:=uJ a b;show uK k+cP (a++b)+1=uK k+cP a+cP b
  omega
theorem GK{ks:List NK}{a:xv}{Q:Int->Fe->Prop}(hu:A.units+1<cLine)(hk:dY P w s.heap ks a)(h:Q (reduceHash (Builtin.Tuple.tupleHashOf (ks.map (rV)))) {s with toks:=s.toks+cP ks}):Fi (Fm P w) A (PySem.pyHash (.ref a)) Q E s:=by
 have hT:=hk.ty;obtain⟨o,its,n,ho,_,hd,hi⟩:=hk;unfold PySem.pyHash pyHashByItsType;refine aa (wpAny_cRoomFor_or (.inr Hc) ?_);refine aa (wpAny_specialOf hT F.slot_tuple_hash.lookup ?_);refine show Fi _ _ (if(some (fv.builtin "tuple.__hash__")==some fv.none)=true then _ else _) Q E s from ?_
 rw[af (by rw[beq_builtin_none];exact bp)];refine aa (wpAny_specialOf hT F.slot_tuple_hash.lookup ?_);refine show Fi _ _ (callSpecialIfBoundUnlessNone? (.ref a) "__hash__" _>>= _) Q E s from ?_
 refine aa (wpAny_callSpecialIfBoundUnlessNone?_slot hT F.slot_tuple_hash (wpAny_call_entry F.slot_tuple_hash hT F.entry_tuple_hash ?_ (F.args_tuple_hash_1 _)));refine show Fi _ _ (Builtin.Tuple.tupleItemsOf (.ref a)>>= _) _ _ s from ?_
 refine aa (wpAny_tupleItemsOf ho hd (aa ?_));rw[<- forIn_toList];refine wpAny_forIn_list _ (λrest (b:Array Int) s'=>∃dn lf,ks=dn++lf/\eV P w s.heap lf rest/\b.toList=dn.map (rV)/\s'={s with toks:=s.toks+cP dn - 1}) _ ?_ ?_ _ _ ⟨[],ks,rfl,hi,rfl,rfl⟩
 ·rintro x rest b s' ⟨dn,lf,rfl,hl,hb,rfl⟩;cases hl with
  | @cons k _ ks' _ h1 vx=>
   have e1:cP (dn++[k])=cP dn+uK k:=by have:=uJ dn [k];rw[show cP [k]=uK k+1 from rfl]at this;omega
   have p1:∀l:List NK,1<=cP l:=λl=>by
    induction l with
    |nil=>exact aw _
    |cons c l ih=>exact de ih (Nat.le_add_left _ _)
   have e2:s.toks+cP dn - 1+uK k=s.toks+cP (dn++[k]) - 1:=by have:=p1 dn;omega
   refine aa (PD (s:={s with toks:=s.toks+cP dn - 1}) hu h1 ?_);rw[e2];first
    |exact ag ⟨dn++[k],ks',by simp,vx,by simp[hb],rfl⟩
    |exact aa (ag (ag ⟨dn++[k],ks',by simp,vx,by simp[hb],rfl⟩))
 ·rintro b s' ⟨dn,lf,rfl,hl,hb,rfl⟩;cases hl;rw[di]at h;have p1:∀l:List NK,1<=cP l:=λl=>by
   induction l with
   |nil=>exact aw _
   |cons c l ih=>exact de ih (Nat.le_add_left _ _)
  have e2:s.toks+cP dn - 1+1=s.toks+cP dn:=by have:=p1 dn;omega
  rw[<- e2]at h;refine show Fi _ _ (retInt (Builtin.Tuple.tupleHashOf b.toList)) _ _ _ from ?_
  rw[hb];refine wpAny_ret_mkInt ?_;refine show Fi _ _ (if(decide (-(2:Int)^63<=Builtin.Tuple.tupleHashOf (dn.map (rV)))&& decide (Builtin.Tuple.tupleHashOf (dn.map (rV))<2^63))=true then _ else _) Q E _ from ?_
  unfold reduceHash at h;by_cases hr:(decide (-(2:Int)^63<=Builtin.Tuple.tupleHashOf (dn.map (rV)))&& decide (Builtin.Tuple.tupleHashOf (dn.map (rV))<2^63))=true
  ·rw[ah hr]at h ⊢;exact ag h
  ·rw[af hr]at h ⊢;exact aa (wpAny_rule (ag h))
theorem yU{x y:List NK}{a b:xv}{R:Fin->Fe->Prop}(hu:A.units<cLine)(sh:x.map Sum.isLeft=y.map Sum.isLeft)(hx:dY P w s.heap x a)(hy:dY P w s.heap y b)(h:R (.done (.ret (.bool (decide (x=y))))) s):
  Fi (Fm P w) A (Builtin.«tuple.__eq__» ⟨[.ref a,.ref b],[]⟩) R E s:=by
 have hTb:=hy.ty;obtain⟨oa,xs,na,hoa,_,hda,hia⟩:=hx;obtain⟨ob,ys,nb,hob,_,rm,hib⟩:=hy;refine show Fi _ _ (isInstance (.ref b) (.type "tuple")>>= _) _ _ s from ?_
 refine aa (wpAny_isInstance hTb isSubtype_tuple_tuple ?_);simp only[Bool.not_true,dc,if_false];refine aa (wpAny_tupleItemsOf hoa hda (aa (wpAny_tupleItemsOf hob rm (aa ?_))));refine wpAny_forIn_list _ (λrest r s'=>r.1=none/\s'=s/\∃x' y' oq Bx,rest=List.zip oq Bx/\eV P w s.heap x' oq/\eV P w s.heap y' Bx/\x'.map Sum.isLeft=y'.map Sum.isLeft/\decide (x'=y')=decide (x=y)/\(oq.length==Bx.length)=(xs.size==ys.size))
  _ ?_ ?_ _ _ ⟨rfl,rfl,x,y,xs.toList,ys.toList,rfl,hia,hib,sh,rfl,by simp⟩
 ·rintro⟨u,v⟩ rest r s' ⟨hr,rfl,x',y',oq,Bx,hz,vp,ue,hsh,xr,kc⟩;cases vp with
  |nil=>simp at hz
  | @cons k1 u' x'' xs'' h1 hx''=>
   cases ue with
   |nil=>simp at hz
   | @cons k2 v' y'' ys'' h2 hy''=>
    simp only[List.zip_cons_cons,List.cons.injEq,Prod.mk.injEq]at hz;obtain⟨⟨rfl,rfl⟩,rfl⟩:=hz;rw[bh,bh]at hsh;injection hsh with hs1 tm
    refine aa (a0F hu hs1 h1 h2 ?_);by_cases hk:k1=k2
    ·subst hk;rw[decide_eq_true rfl];simp only[Bool.not_true,dc,if_false];refine ag ⟨rfl,rfl,x'',y'',xs'',ys'',rfl,hx'',hy'',tm,?_,by simpa using kc⟩;rw[<- xr];by_cases hxy:x''=y''<;>simp[hxy]
    ·have hf:decide (x=y)=false:=by rw[<- xr];simp[hk]
     rw[hf]at h;rw[decide_eq_false hk];simp only[Bool.not_false,if_true];exact aa (ag (ag (ag h)))
 ·rintro⟨r1,r2⟩ s' ⟨hr,rfl,x',y',oq,Bx,hz,vp,ue,hsh,xr,kc⟩;simp only at hr;subst hr;have fin:(xs.size==ys.size)=decide (x=y):=by
   rw[<- xr,<- kc];cases vp with
   |nil=>cases ue with
    |nil=>simp
    |cons _ _=>simp
   |cons _ _=>cases ue with
    |nil=>simp
    |cons _ _=>simp at hz
  refine ag ?_;refine show R (.done (.ret (.bool (xs.size==ys.size)))) s' from ?_
  rw[fin];exact h
theorem MS{x y:List NK}{a b:xv}{Q:Bool->Fe->Prop}(hu:A.units+1<cLine)(sh:x.map Sum.isLeft=y.map Sum.isLeft)(hx:dY P w s.heap x a)(hy:dY P w s.heap y b)(h:Q (decide (x=y)) s):Fi (Fm P w) A (eqBool (.ref a) (.ref b)) Q E s:=by
 unfold eqBool;try with_reducible refine wpAny_holding ?_
 refine show Fi _ _ (if(fv.ref a==fv.ref b)=true then _ else _) Q E s from ?_
 by_cases vh:(fv.ref a==fv.ref b)=true
 ·rw[ah vh];have e:a=b:=by have:=eq_of_beq vh;injection this
  subst e;obtain rfl:=hx.inj hy;exact aa (wpAny_rule (ag (by simpa using h)))
 ·rw[af vh];exact aa (wpAny_richCompare_same_room (op:=.Eq) hx.ty hy.ty F.slot_tuple_eq
   (wpAny_call_entry F.slot_tuple_eq hx.ty F.entry_tuple_eq (yU hu sh hx hy ⟨_,rfl,(λe=>nomatch e),wpAny_truthy_bool h⟩) (F.args_tuple_eq_2 _ _)) Hc)
theorem DX{ks:List Int}{a:xv}{n:Nat}{Q:Bool->Fe->Prop}(hk:IsTupleKey (PySem.intKind P w) s.heap ks a)(h:Q true s):Fi (Fm P w) A (eqIsQuiet (n+1) (.ref a)) Q E s:=by
 have hT:=hk.typeIs;obtain⟨o,items,m,ho,_,hd,hi⟩:=hk;unfold eqIsQuiet;refine aa (wpAny_specialOf hT F.slot_tuple_eq.lookup ?_);refine show Fi _ _ (isInstance (.ref a) (.type "tuple")>>= _) _ _ s from ?_
 refine aa (wpAny_isInstance hT isSubtype_tuple_tuple ?_);simp only[Bool.not_true,dc,if_false];refine aa (wpAny_seqItems ho hd ?_);refine aa ?_;refine show Fi _ _ (forIn items _ _) _ _ s from ?_
 rw[<- forIn_toList];refine wpAny_forIn_list _ (λrest r s'=>r.1=none/\s'=s/\∀v∈rest,carriedByValue v=true) _ ?_ ?_ _ _ ⟨rfl,rfl,hi.byValue⟩
 ·rintro v rest r s' ⟨hr,rfl,hall⟩;rw[eqIsQuiet_byValue _ (hall v ay)];refine aa (ag ?_);simp only[Bool.not_true,dc,if_false];exact ag ⟨rfl,rfl,λu rg=>hall u (ao _ rg)⟩
 ·rintro⟨r1,r2⟩ s' ⟨hr,rfl,_⟩;simp only at hr;subst hr;exact ag h
theorem MT{k:NK}{v:fv}{n:Nat}{Q:Bool->Fe->Prop}(hk:NIs P w s.heap k v)(h:Q true s):Fi (Fm P w) A (eqIsQuiet (n+1) v) Q E s:=by
 cases k with
 |inl k=>rw[eqIsQuiet_byValue _ ((PySem.intKind P w).byValue _ _ hk)];exact ag h
 |inr ks=>obtain⟨b,rfl,z⟩:=hk;exact DX z h
theorem D1{ks:List NK}{a:xv}{Q:Bool->Fe->Prop}(hk:dY P w s.heap ks a)(h:Q true s):Fi (Fm P w) A (eqIsQuiet 8 (.ref a)) Q E s:=by
 have hT:=hk.ty;obtain⟨o,items,m,ho,_,hd,hi⟩:=hk;unfold eqIsQuiet;refine aa (wpAny_specialOf hT F.slot_tuple_eq.lookup ?_);refine show Fi _ _ (isInstance (.ref a) (.type "tuple")>>= _) _ _ s from ?_
 refine aa (wpAny_isInstance hT isSubtype_tuple_tuple ?_);simp only[Bool.not_true,dc,if_false];refine aa (wpAny_seqItems ho hd ?_);refine aa ?_;refine show Fi _ _ (forIn items _ _) _ _ s from ?_
 rw[<- forIn_toList];refine wpAny_forIn_list _ (λrest r s'=>r.1=none/\s'=s/\∃lf,eV P w s.heap lf rest) _ ?_ ?_ _ _ ⟨rfl,rfl,ks,hi⟩
 ·rintro v rest r s' ⟨hr,rfl,lf,hall⟩;cases hall with
  |cons h1 h2=>refine aa (MT (n:=6) h1 ?_);simp only[Bool.not_true,dc,if_false];exact ag ⟨rfl,rfl,_,h2⟩
 ·rintro⟨r1,r2⟩ s' ⟨hr,rfl,_⟩;simp only at hr;subst hr;exact ag h
end
def EW(ks:List NK):Int:=reduceHash (Builtin.Tuple.tupleHashOf (ks.map rV))
noncomputable def lO(P:Fo)(w:Fw)(S:List Bool):HeapKind P w (List NK) where
 is h ks a:=dY P w h ks a/\ks.map Sum.isLeft=S
 hash:=EW
 draws:=cP
 room A:=A.units+1<cLine
 inj hx hy:=hx.1.inj hy.1
 keeps x ho hd hs:=⟨x.1.keeps ho hd hs,x.2⟩
 pyHash hu hk h:=GK hu hk.1 h
 eqBool hu hx hy h:=MS hu (hx.2.trans hy.2.symm) hx.1 hy.1 h
 quiet hk h:=D1 hk.1 h
noncomputable def NV(H:Hp):NK->V->Prop
 | .inl i,v=>v=.int i
 | .inr is,v=>∃c,v=.ref c/\H c=some (.tup (is.map V.int))
noncomputable def pZ(H:Hp)(ks:List NK)(b:xv):Prop:=∃vs,H b=some (.tup vs)/\Paired (NV H) ks vs
theorem NV.mono{H H':Hp}(e:∀b ys,H b=some (.tup ys)->H' b=some (.tup ys)){k:NK}{v:V}(h:NV H k v):NV H' k v:=by
 cases k with
 |inl i=>exact h
 |inr is=>obtain⟨c,h1,h2⟩:=h;exact⟨c,h1,e _ _ h2⟩
theorem pZ.mono{H H':Hp}(e:∀b ys,H b=some (.tup ys)->H' b=some (.tup ys)){ks:List NK}{b:xv}(h:pZ H ks b):pZ H' ks b:=
 let⟨vs,h1,h2⟩:=h;⟨vs,e _ _ h1,Paired.MX h2 λ_ _ z=>z.mono e⟩
section
variable {P:Fo}{w:Fw}{H:Hp}{h:Fp}
theorem int_is{i:Int}{u:fv}(r:RelV (.int i) u):(PySem.intKind P w).is i u=true:=by
 obtain⟨t,e⟩:=(show∃t,u=fv.int i t from r);subst e;show fv.isInt i (.int i t)=true
 simp[fv.isInt]
theorem B3:∀{is:List Int}{us:List fv},Vals (is.map V.int) us->ItemsAre (PySem.intKind P w) is us
 |[],_,r=>by rw[je]at r;cases r;exact .nil
 |k::ks,_,r=>by
  rw[bh]at r;cases r with
  |cons h t=>exact .cons (int_is h) (B3 t)
theorem NH{is:List Int}{a:xv}(ok:HOk P w H h)(e:H a=some (.tup (is.map V.int))):IsTupleKey (PySem.intKind P w) h is a:=by obtain⟨_,its,r,o,h1,h2,n,h3⟩:=(show cS P w H h a (.tup (is.map V.int))from ok a _ e);exact⟨o,its.toArray,n,h1,h2,h3,by simpa using B3 r⟩
theorem GJ(ok:HOk P w H h){ks:List NK}{vs:List V}(p:Paired (NV H) ks vs):∀{us:List fv},Vals vs us->eV P w h ks us:=by
 induction p with
 |nil=>intro us r;cases r;exact .nil
 | @cons k v ks vs hk t ih=>
  intro us r;cases r with
  |cons h1 h2=>
   refine .cons ?_ (ih h2);cases k with
   |inl i=>cases (show v=_ from hk);exact int_is h1
   |inr is=>obtain⟨c,rfl,hc⟩:=hk;exact⟨c,h1,NH ok hc⟩
theorem t7{ks:List NK}{a:xv}(ok:HOk P w H h)(t:pZ H ks a):dY P w h ks a:=by obtain⟨vs,e,p⟩:=t;obtain⟨_,its,r,o,h1,h2,n,h3⟩:=(show cS P w H h a (.tup vs)from ok a _ e);exact⟨o,its.toArray,n,h1,h2,h3,by simpa using GJ ok p r⟩
end
abbrev NL:=List (List NK×xv)
instance a10 (k:List NK) (l:List (List NK)):Decidable (k∈l):=@List.instDecidableMemOfLawfulBEq _ instBEqOfDecidableEq _ k l
def PH(x:List NK×xv):Gd:=⟨EW x.1,.ref x.2,.bool true⟩
noncomputable def PF(a:xv)(xs:NL)(h:Fp):Prop:=∃o es ep,h.get? a=some o/\o.ExactDict/\o.data=.dict es ep/\es.toList=xs.map PH
def nO(a:xv)(xs:NL):HO:=.ext (PF a xs)
theorem OA{P:Fo}{w:Fw}{H:Hp}{h:Fp}{a:xv}{xs:NL}(p:PF a xs h):cS P w H h a (nO a xs):=by
 refine⟨p,?_,λh1 h2 p1 k=>?_⟩
 ·obtain⟨o,_,_,e,_⟩:=p;exact⟨o,e⟩
 ·obtain⟨o,es,ep,e,r⟩:=p1;exact⟨o,es,ep,k o e,r⟩
structure NS(S:List Bool)(H:Hp)(a:xv)(xs:NL):Prop where
 sm:(a==Fy)=false
 len:xs.length<=Fh
 nd:(xs.map (·.1)).Nodup
 l9:∀x∈xs,pZ H x.1 x.2/\x.1.map Sum.isLeft=S
theorem NS.mono{S:List Bool}{H H':Hp}(e:∀b ys,H b=some (.tup ys)->H' b=some (.tup ys)){a:xv}{xs:NL}(n:NS S H a xs):NS S H' a xs:=⟨n.sm,n.len,n.nd,λx hx=>⟨(n.l9 x hx).1.mono e,(n.l9 x hx).2⟩⟩
noncomputable def qO(xs:NL)(k:List NK)(b:xv):NL:=if k∈xs.map (·.1)then xs else xs++[(k,b)]
def oS(xs:NL):List (List NK×xv×fv):=xs.map λx=>(x.1,x.2,fv.bool true)
theorem GB(xs:NL):(oS xs).map (·.1)=xs.map (·.1):=by unfold oS;rw[dt];rfl
theorem sX(k:List NK):∀xs:NL,(atKey (oS xs) k).isSome=decide (k∈xs.map (·.1))
 |[]=>by simp[atKey,oS]
 |x::xs=>by
  have ih:=sX k xs;have e:oS (x::xs)=(x.1,x.2,fv.bool true)::oS xs:=rfl;rw[e];unfold atKey at ih ⊢;rw[iu];by_cases c:x.1=k
  ·simp[c]
  ·have c':¬k=x.1:=λz=>c z.symm
   simp only[c,decide_false];rw[ih];simp[c']
theorem JD(xs:NL)(k:List NK)(b:xv):storedH (oS xs) k b (.bool true)=oS (qO xs k b):=by
 unfold storedH qO;rw[sX];by_cases c:k∈xs.map (·.1)
 ·rw[ah (decide_eq_true c),ah c];unfold oS;rw[dt];apply dk;intro x _;show putAt k (.bool true) (x.1,x.2,fv.bool true)=_
  unfold putAt;split<;>rfl
 ·rw[af (by simp[c]),af c];simp[oS]
theorem EX{P:Fo}{w:Fw}{S:List Bool}(xs:NL):(oS xs).map (entryOfKey (lO P w S))=xs.map PH:=by unfold oS;rw[dt];rfl
section
variable {P:Fo}{w:Fw}{H:Hp}{h:Fp}{S:List Bool}{a:xv}{xs:NL}
theorem MR(ok:HOk P w H h)(r:Rd H a (nO a xs)):PF a xs h:=(show cS P w H h a (nO a xs)from JB ok r).1
theorem NS.dict(n:NS S H a xs)(ok:HOk P w H h)(r:Rd H a (nO a xs)):h.DictOfH (lO P w S) a (oS xs):=by obtain⟨o,es,ep,h1,h2,h3,h4⟩:=MR ok r;refine⟨o,es,ep,h1,h2,h3,by rw[EX];exact h4,λx hx=>?_,by rw[GB];exact n.nd⟩;obtain⟨y,hy,rfl⟩:=au.mp hx;exact⟨t7 ok (n.l9 y hy).1,(n.l9 y hy).2⟩
theorem NS.put{k:List NK}{b:xv}(n:NS S H a xs)(t:pZ H k b)(sk:k.map Sum.isLeft=S)(hl:xs.length<Fh):NS S H a (qO xs k b):=by
 unfold qO;split
 ·exact n
 ·rename_i c;refine⟨n.sm,by rw[aj,List.length_singleton];omega,?_,λx hx=>?_⟩
  ·rw[cf,da];refine⟨n.nd,by simp,λx hx y hy e=>?_⟩;simp at hy;subst e;exact c (hy▸hx)
  ·rcases ax.mp hx with hx|hx
   ·exact n.l9 x hx
   ·rw[iz.mp hx];exact⟨t,sk⟩
end
theorem jD(xs:NL)(k:List NK)(b:xv)(q:List NK):q∈(qO xs k b).map (·.1)↔q∈xs.map (·.1)\/q=k:=by
 unfold qO;split
 ·rename_i c;constructor
  ·exact .inl
  ·rintro(h|rfl)
   ·exact h
   ·exact c
 ·rw[cf,ax];simp
theorem JU(xs:NL)(k:List NK)(b:xv):(qO xs k b).length<=xs.length+1:=by
 unfold qO;split
 ·omega
 ·rw[aj,List.length_singleton];omega
noncomputable def QU:TE:=λ_ H Q=>∀p,H p=none->(p==Fy)=false->Q (.ref p) (upd H p (nO p []))
noncomputable def WM(S:List Bool)(ty td:TE):TE:=λσ H Q=>ty σ H λy H1=>td σ H1 λx H2=>∃a b k xs,x=.ref a/\y=.ref b/\Rd H2 a (nO a xs)/\NS S H2 a xs/\pZ H2 k b/\k.map Sum.isLeft=S/\Q (.bl (decide (k∈xs.map (·.1)))) H2
noncomputable def M0(S:List Bool)(ty td:TE):TE:=λσ H Q=>ty σ H λy H1=>td σ H1 λx H2=>∃a b k xs,x=.ref a/\y=.ref b/\Rd H2 a (nO a xs)/\NS S H2 a xs/\pZ H2 k b/\k.map Sum.isLeft=S/\Q (.bl (!decide (k∈xs.map (·.1)))) H2
noncomputable def R5(S:List Bool)(td ty tv:TE):TS:=λD σ H=>tv σ H λv H1=>td σ H1 λx H2=>ty σ H2 λy H3=>∃a b k xs,x=.ref a/\y=.ref b/\v=.bl true/\H3 a=some (nO a xs)/\NS S H3 a xs/\pZ H3 k b/\k.map Sum.isLeft=S/\xs.length<Fh/\D.nx σ (upd H3 a (nO a (qO xs k b)))
theorem sU{H:Hp}{a:xv}{o u:HO}(e:H a=some u)(hu:∀ys,u≠ .tup ys):∀b ys,H b=some (.tup ys)->(upd H a o) b=some (.tup ys):=λb ys q=>by
 rw[aB]
 ·exact q
 ·rintro rfl;rw[q]at e;exact hu ys (Option.some.inj e).symm
section
variable {X:Cx}{o i e jz:Fz}{pos ko nv:Pos}{td ty tv:TE}{S:List Bool}
theorem MH:PE X (.Dict [] [] pos) QU:=λjr s σ H Q I h=>by have hb:(s.heap.objs.size==Fy)=false:=beq_eq_false_iff_ne.mpr (Ne.symm (cj I.big));refine wpAny_Dict_empty ⟨.ref s.heap.objs.size,_,I.laid (a:=s.heap.objs.size) (o:=nO s.heap.objs.size []) (t':=s.toks) (λ_ _ q=>ak _ q) (aw _) ?_,rfl,h _ (I.hok.fresh (aw _)) hb⟩;exact OA ⟨_,#[],0,az _ rfl,⟨rfl,rfl,rfl⟩,rfl,rfl⟩
theorem P6(hu:X.A.units+2<cLine)(hi:PE X i ty)(ho:PE X o td):PC X .In i o (WM S ty td):=by
 intro jr s σ H Q I h;refine thn (hi jr s σ H _ I h) λiv s1 ⟨y,H1,I1,ry,q1⟩=>thn (ho jr s1 σ H1 _ I1 q1) λu s2 ⟨x,H2,I2,rx,a,b,k,xs,ex,ey,rd,ns,nt,sk,q2⟩=>?_
 subst ex ey;obtain rfl:u=fv.ref a:=rx;obtain rfl:iv=fv.ref b:=ry;refine wpAny_in_heap (knd:=lO X.prog X.w S) hu ⟨t7 I2.hok nt,sk⟩ ns.sm (ns.dict I2.hok rd) ?_;rw[sX];exact⟨.bl (decide (k∈xs.map (λx:List NK×xv=>x.1))),H2,I2.tok _,rfl,q2⟩
theorem GH(hu:X.A.units+2<cLine)(hi:PE X i ty)(ho:PE X o td):PC X .NotIn i o (M0 S ty td):=by
 intro jr s σ H Q I h;refine thn (hi jr s σ H _ I h) λiv s1 ⟨y,H1,I1,ry,q1⟩=>thn (ho jr s1 σ H1 _ I1 q1) λu s2 ⟨x,H2,I2,rx,a,b,k,xs,ex,ey,rd,ns,nt,sk,q2⟩=>?_
 subst ex ey;obtain rfl:u=fv.ref a:=rx;obtain rfl:iv=fv.ref b:=ry;refine wpAny_notIn_heap (knd:=lO X.prog X.w S) hu ⟨t7 I2.hok nt,sk⟩ ns.sm (ns.dict I2.hok rd) ?_;rw[sX];exact⟨.bl (!decide (k∈xs.map (λx:List NK×xv=>x.1))),H2,I2.tok _,rfl,q2⟩
theorem EN(hu:X.A.units+2<cLine)(ho:PE X o td)(hi:PE X i ty)(hv:PE X jz tv)(hs:swapsWith jz (some (.Subscript o i ko)) pos.line X.env=pure false):
  PS X (.Assign [.Subscript o i ko] jz pos) (R5 S td ty tv):=by
 intro jr s σ H D I h;refine wpAny_Assign_Subscript (thn (hv jr s σ H _ I h) λr s1 ⟨v,H1,I1,rv,q1⟩=>thn (ho jr s1 σ H1 _ I1 q1) λu s2 ⟨x,H2,I2,rx,q2⟩=>thn (hi jr s2 σ H2 _ I2 q2) λiv s3 ⟨y,H3,I3,ry,a,b,k,xs,ex,ey,ev,ea,ns,nt,sk,hl,q3⟩=>?_) hs;subst ex ey ev;obtain rfl:u=fv.ref a:=rx;obtain rfl:iv=fv.ref b:=ry;obtain rfl:r=fv.bool true:=rv;refine wpAny_setItem_heap (knd:=lO X.prog X.w S) (hsz:=by unfold oS;rw[ai];exact ns.len) hu ⟨t7 I3.hok nt,sk⟩ (ns.dict I3.hok (.inl ea)) λh' wm hs=>?_
 rw[JD]at wm;obtain⟨q,es,ep,hq,h2,h3,h4,_,_⟩:=wm;rw[EX]at h4;exact⟨σ,_,zH I3 (by rw[ea];exact True.intro) hs ⟨q,hq⟩ (OA ⟨q,es,ep,hq,h2,h3,h4⟩),q3⟩
noncomputable def QV(t:TE):TE:=λσ H Q=>t σ H λx H1=>∃d xs,x=.ref d/\H1 d=some (nO d xs)/\∀od,Q (.ref d) (upd H1 d (.frz od (nO d xs)))
theorem MI{t:TE}(h:PE X e t):PE X e (QV t):=by
 intro jr s σ H Q I hw;refine thn (h jr s σ _ _ I hw) λv s1 ⟨x,H1,I1,r,d,xs,ex,hd,q⟩=>?_
 obtain⟨od,I2⟩:=I1.lock hd trivial;subst ex;exact⟨.ref d,_,I2,r,q od⟩
end
noncomputable def Itn(d:xv)(o:Obj)(xs:NL):It:=
 ⟨λi H=>H d=some (.frz o (nO d xs))/\i<xs.length,λi H x H'=>H'=H/\∃k q,xs[i]? =some (k,q)/\x=.ref q,λi H=>H d=some (.frz o (nO d xs))/\xs.length<=i⟩
theorem Inv.Q2{X:Cx}{jr:Hg}{σ:L2.St}{H:Hp}{s:Fe}{d:xv}{o:Obj}{xs:NL}(I:Inv X jr σ H s)(h:H d=some (.frz o (nO d xs))):
  s.heap.get? d=some o/\o.ExactDict/\∃(es:Array Gd)(ep:Nat),o.data=.dict es ep/\es.size=xs.length/\∀(i:Nat)(x:List NK×xv),xs[i]? =some x->∃en,es[i]? =some en/\en.key=.ref x.2:=by
 obtain⟨hd,p,_⟩:=I.hok d _ h;obtain⟨o',es,ep,ho,hx,mi,he⟩:=p;rw[hd]at ho;cases ho;refine⟨hd,hx,es,ep,mi,?_,λi x e=>?_⟩
 ·rw[<- dm,he,ai]
 ·refine⟨PH x,?_,rfl⟩;rw[<- gw,he,bc,e];rfl
section
variable {P:Fo}{w:Fw}{K:Fg}{tg:Fz}{d:xv}{o:Obj}{es:Array Gd}{ep:Nat}
theorem C9{xs:NL}(it:xv)(qc:o.data=.dict es ep):Turn P w K tg (Itn d o xs) [it] it (λi h=>h.IsKeyIter it d i xs.length ep) where
 mem:=by simp
 obj:=λi h st b hb=>by
  have e:b=it:=by simpa using hb
  subst e;obtain⟨oi,e,c,dd⟩:=st;exact⟨oi,e,λv z=>by rw[dd]at z;cases z⟩
 keep:=λi h h' st k=>st.at λoi e=>k it (by simp) oi e
 item:=by
  intro X hP hw hK hc i jr s σ H E I hf st hg;subst hP hw hK;obtain⟨hd,hi⟩:=hg;obtain⟨f0,f1,f2,f3,f4,f5⟩:=hf it (by simp);obtain⟨qx,hx,ub,uc,mi,hsz,wj⟩:=Inv.Q2 I hd;obtain⟨rfl,rfl⟩:=kH qc mi;obtain⟨⟨k,q⟩,vy⟩:∃p,xs[i]? =some p:=⟨xs[i],cc hi⟩
  obtain⟨en,qd,ng⟩:=wj i (k,q) vy;refine iY st qx mi hsz qd λh' ow sb=>?_
  have I1:Inv X jr σ H {s with heap:=h'}:=I.turned (t':=s.toks) (λb ob hb e=>(sb.2 b hb).trans e) f0 f1 f3 f4 f5;obtain⟨oi,e,c,dd⟩:=id ow;exact⟨en.key,rfl,xJ (s:={s with heap:=h'}) e c dd Hd ⟨.ref q,H,I1,ng,⟨rfl,k,q,vy,rfl⟩,ow,λb hb=>(hf b hb).1⟩⟩
 done:=by intro X hP hw hK hc i jr s σ H E I hf st hg;subst hP hw hK;obtain⟨hd,hi⟩:=hg;obtain⟨f0,f1,f2,f3,f4,f5⟩:=hf it (by simp);obtain⟨qx,hx,ub,uc,mi,hsz,wj⟩:=Inv.Q2 I hd;obtain⟨rfl,rfl⟩:=kH qc mi;exact gX (I.ok.hd hc) st qx mi hsz hi λh' eb=>⟨rfl,I.turned (t':=s.toks) (λb ob hb e=>eb b ob hb e) f0 f1 f3 f4 f5⟩
 self:=λA i s Q E st h=>by
  refine wpAny_pyIter_slot st.typeIs F.slot_dict_keyiterator_iter (wpAny_call_entry F.slot_dict_keyiterator_iter st.typeIs F.entry_dict_keyiterator_iter ?_ (F.args_dict_keyiterator_iter_1 _));refine show Fi _ _ (ret (.ref it)) _ _ s from ?_
  exact ag ⟨_,rfl,"dict_keyiterator",_,st.typeIs,F.slot_dict_keyiterator_next.lookup,h⟩
end
noncomputable def PX(td:TE):TI:=λσ H R=>td σ H λx H1=>∃d o xs,x=.ref d/\(d==Fy)=false/\H1 d=some (.frz o (nO d xs))/\R (Itn d o xs) H1
theorem JG{X:Cx}{tg e:Fz}{td:TE}(he:PE X e td):L2.PI X tg e (PX td):=by
 intro jr s σ H R I h;refine thn (he jr s σ H _ I h) λu s1 ⟨x,H1,I1,rx,d,o,xs,ex,hs,hd,q⟩=>?_
 subst ex;obtain rfl:u=fv.ref d:=rx;obtain⟨qx,hx,es,ep,mi,hsz,wj⟩:=Inv.Q2 I1 hd;refine mU hs qx hx mi (yQ (tk:=s1.toks) I1 _ (C9 _ mi) ⟨_,az _ rfl,rfl,?_⟩ q);rw[hsz]<;>rfl
theorem K7{d:xv}{od:Obj}{xs:NL}{g:TG}{tt:TT}{te:TE}{vs:List Nat}{σ:L2.St}{H1:Hp}{D:xv}{Qd:Hp->Prop}(Pv:Nat->Hp->Prop)(h0:Pv 0 (upd H1 D (.lst [])))(hl:∀i H,Pv i H->H d=some (.frz od (nO d xs)))
  (hs:∀i k q H,xs[i]? =some (k,q)->Pv i H->g (.ref q) (wipe σ vs) H λσ2 H2=>wipe σ2 vs=wipe σ vs/\tt σ2 H2 λb H3=>
   if b=true then te σ2 H3 λy H4=>∃acc,H4 D=some (.lst acc)/\acc.length<Fh/\Pv (i+1) (upd H4 D (.lst (acc++[y])))else Pv (i+1) H3) (hd:∀H,Pv xs.length H->Qd H):
  ∃W:Nat->Nat->Hp->Prop,(∃m,W 0 m (upd H1 D (.lst [])))/\∀i m H,W i m H ->
   ((Itn d od xs).stop i H/\Qd H)\/((Itn d od xs).go i H/\∃Nx:Hp->Prop,(∀H',Nx H'->∃m',m'<m/\W (i+1) m' H')/\∀x H',(Itn d od xs).yld i H x H'->g x (wipe σ vs) H' λσ2 H2=>wipe σ2 vs=wipe σ vs/\tt σ2 H2 λb H3=>
    if b=true then te σ2 H3 λy H4=>∃acc,H4 D=some (.lst acc)/\acc.length<Fh/\Nx (upd H4 D (.lst (acc++[y])))else Nx H3):=by
 refine⟨λi m H=>m=xs.length - i/\i<=xs.length/\Pv i H,⟨xs.length,by simp,cn _,h0⟩,?_⟩;rintro i m H ⟨rfl,hi,p⟩;have q:=hl i H p;by_cases ka:i<xs.length
 ·refine .inr ⟨⟨q,ka⟩,Pv (i+1),λH' p'=>⟨xs.length - (i+1),Hc,rfl,ka,p'⟩,λx H' y=>?_⟩;obtain⟨rfl,k,b,hk,rfl⟩:=y;exact hs i k b H' hk p
 ·have e:i=xs.length:=Hc
  subst e;exact .inl ⟨⟨q,aw _⟩,hd H p⟩
end L3
namespace L3
section
variable {A B C D E F G H I J K L M N O W:Type}{p:W->Prop}
@[elab_as_elim] theorem ve1{v:A->W}{r:A->Prop}(w:W)(z:∃a,w=v a/\r a)(k:∀a,r a->p (v a)):p w:=z.elim λa z=>z.1▸k a z.2
@[elab_as_elim] theorem ve2{v:A->B->W}{r:A->B->Prop}(w:W)(z:∃a b,w=v a b/\r a b)(k:∀a b,r a b->p (v a b)):p w:=z.elim λa z=>ve1 w z (k a)
@[elab_as_elim] theorem ve3{v:A->B->C->W}{r:A->B->C->Prop}(w:W)(z:∃a b c,w=v a b c/\r a b c)(k:∀a b c,r a b c->p (v a b c)):p w:=z.elim λa z=>ve2 w z (k a)
@[elab_as_elim] theorem ve4{v:A->B->C->D->W}{r:A->B->C->D->Prop}(w:W)(z:∃a b c d,w=v a b c d/\r a b c d)(k:∀a b c d,r a b c d->p (v a b c d)):p w:=z.elim λa z=>ve3 w z (k a)
@[elab_as_elim] theorem ve5{v:A->B->C->D->E->W}{r:A->B->C->D->E->Prop}(w:W)(z:∃a b c d e,w=v a b c d e/\r a b c d e)(k:∀a b c d e,r a b c d e->p (v a b c d e)):p w:=z.elim λa z=>ve4 w z (k a)
@[elab_as_elim] theorem ve6{v:A->B->C->D->E->F->W}{r:A->B->C->D->E->F->Prop}(w:W)(z:∃a b c d e f,w=v a b c d e f/\r a b c d e f)(k:∀a b c d e f,r a b c d e f->p (v a b c d e f)):p w:=z.elim λa z=>ve5 w z (k a)
@[elab_as_elim] theorem ve7{v:A->B->C->D->E->F->G->W}{r:A->B->C->D->E->F->G->Prop}(w:W)(z:∃a b c d e f g,w=v a b c d e f g/\r a b c d e f g)(k:∀a b c d e f g,r a b c d e f g->p (v a b c d e f g)):p w:=z.elim λa z=>ve6 w z (k a)
@[elab_as_elim] theorem ve8{v:A->B->C->D->E->F->G->H->W}{r:A->B->C->D->E->F->G->H->Prop}(w:W)(z:∃a b c d e f g h,w=v a b c d e f g h/\r a b c d e f g h)(k:∀a b c d e f g h,r a b c d e f g h->p (v a b c d e f g h)):p w:=z.elim λa z=>ve7 w z (k a)
@[elab_as_elim] theorem ve9{v:A->B->C->D->E->F->G->H->I->W}{r:A->B->C->D->E->F->G->H->I->Prop}(w:W)(z:∃a b c d e f g h i,w=v a b c d e f g h i/\r a b c d e f g h i)(k:∀a b c d e f g h i,r a b c d e f g h i->p (v a b c d e f g h i)):p w:=z.elim λa z=>ve8 w z (k a)
@[elab_as_elim] theorem IL{v:A->B->C->D->E->F->G->H->I->J->W}{r:A->B->C->D->E->F->G->H->I->J->Prop}(w:W)(z:∃a b c d e f g h i j,w=v a b c d e f g h i j/\r a b c d e f g h i j)(k:∀a b c d e f g h i j,r a b c d e f g h i j->p (v a b c d e f g h i j)):p w:=z.elim λa z=>ve9 w z (k a)
@[elab_as_elim] theorem WH{v:A->B->C->D->E->F->G->H->I->J->K->W}{r:A->B->C->D->E->F->G->H->I->J->K->Prop}(w:W)(z:∃a b c d e f g h i j l,w=v a b c d e f g h i j l/\r a b c d e f g h i j l)(k:∀a b c d e f g h i j l,r a b c d e f g h i j l->p (v a b c d e f g h i j l)):p w:=z.elim λa z=>IL w z (k a)
@[elab_as_elim] theorem WG{v:A->B->C->D->E->F->G->H->I->J->K->L->W}{r:A->B->C->D->E->F->G->H->I->J->K->L->Prop}(w:W)(z:∃a b c d e f g h i j l m,w=v a b c d e f g h i j l m/\r a b c d e f g h i j l m)(k:∀a b c d e f g h i j l m,r a b c d e f g h i j l m->p (v a b c d e f g h i j l m)):p w:=z.elim λa z=>WH w z (k a)
@[elab_as_elim] theorem WE{v:A->B->C->D->E->F->G->H->I->J->K->L->M->W}{r:A->B->C->D->E->F->G->H->I->J->K->L->M->Prop}(w:W)(z:∃a b c d e f g h i j l m n,w=v a b c d e f g h i j l m n/\r a b c d e f g h i j l m n)(k:∀a b c d e f g h i j l m n,r a b c d e f g h i j l m n->p (v a b c d e f g h i j l m n)):p w:=z.elim λa z=>WG w z (k a)
@[elab_as_elim] theorem WD{v:A->B->C->D->E->F->G->H->I->J->K->L->M->N->W}{r:A->B->C->D->E->F->G->H->I->J->K->L->M->N->Prop}(w:W)(z:∃a b c d e f g h i j l m n o,w=v a b c d e f g h i j l m n o/\r a b c d e f g h i j l m n o)(k:∀a b c d e f g h i j l m n o,r a b c d e f g h i j l m n o->p (v a b c d e f g h i j l m n o)):p w:=z.elim λa z=>WE w z (k a)
@[elab_as_elim] theorem QM{v:A->B->C->D->E->F->G->H->I->J->K->L->M->N->O->W}{r:A->B->C->D->E->F->G->H->I->J->K->L->M->N->O->Prop}(w:W)(z:∃a b c d e f g h i j l m n o q,w=v a b c d e f g h i j l m n o q/\r a b c d e f g h i j l m n o q)(k:∀a b c d e f g h i j l m n o q,r a b c d e f g h i j l m n o q->p (v a b c d e f g h i j l m n o q)):p w:=z.elim λa z=>WD w z (k a)
end
section
variable {a b c d e f g h i j l m n o q r s t p:Prop}
theorem an2(z:a/\b)(k:a->b->p):p:=k z.1 z.2
theorem an3(z:a/\b/\c)(k:a->b->c->p):p:=an2 z.2 (k z.1)
theorem an4(z:a/\b/\c/\d)(k:a->b->c->d->p):p:=an3 z.2 (k z.1)
theorem an5(z:a/\b/\c/\d/\e)(k:a->b->c->d->e->p):p:=an4 z.2 (k z.1)
theorem an6(z:a/\b/\c/\d/\e/\f)(k:a->b->c->d->e->f->p):p:=an5 z.2 (k z.1)
theorem an7(z:a/\b/\c/\d/\e/\f/\g)(k:a->b->c->d->e->f->g->p):p:=an6 z.2 (k z.1)
theorem an8(z:a/\b/\c/\d/\e/\f/\g/\h)(k:a->b->c->d->e->f->g->h->p):p:=an7 z.2 (k z.1)
theorem an9(z:a/\b/\c/\d/\e/\f/\g/\h/\i)(k:a->b->c->d->e->f->g->h->i->p):p:=an8 z.2 (k z.1)
theorem W9(z:a/\b/\c/\d/\e/\f/\g/\h/\i/\j)(k:a->b->c->d->e->f->g->h->i->j->p):p:=an9 z.2 (k z.1)
theorem W8(z:a/\b/\c/\d/\e/\f/\g/\h/\i/\j/\l)(k:a->b->c->d->e->f->g->h->i->j->l->p):p:=W9 z.2 (k z.1)
theorem a0V(z:a/\b/\c/\d/\e/\f/\g/\h/\i/\j/\l/\m)(k:a->b->c->d->e->f->g->h->i->j->l->m->p):p:=W8 z.2 (k z.1)
theorem a0U(z:a/\b/\c/\d/\e/\f/\g/\h/\i/\j/\l/\m/\n)(k:a->b->c->d->e->f->g->h->i->j->l->m->n->p):p:=a0V z.2 (k z.1)
theorem a0T(z:a/\b/\c/\d/\e/\f/\g/\h/\i/\j/\l/\m/\n/\o)(k:a->b->c->d->e->f->g->h->i->j->l->m->n->o->p):p:=a0U z.2 (k z.1)
theorem a0S(z:a/\b/\c/\d/\e/\f/\g/\h/\i/\j/\l/\m/\n/\o/\q)(k:a->b->c->d->e->f->g->h->i->j->l->m->n->o->q->p):p:=a0T z.2 (k z.1)
theorem a0R(z:a/\b/\c/\d/\e/\f/\g/\h/\i/\j/\l/\m/\n/\o/\q/\r)(k:a->b->c->d->e->f->g->h->i->j->l->m->n->o->q->r->p):p:=a0S z.2 (k z.1)
theorem a0Q(z:a/\b/\c/\d/\e/\f/\g/\h/\i/\j/\l/\m/\n/\o/\q/\r/\s)(k:a->b->c->d->e->f->g->h->i->j->l->m->n->o->q->r->s->p):p:=a0R z.2 (k z.1)
end
end L3
namespace RT
open PySem L2 L3
noncomputable def top(i:Nat):Ga:=PySem.Challenge.pw_rooftold_s03_lines.main.body.getD i (.Pass ⟨0,0,0,0⟩)
structure Adr where
 cE:xv
 cH:xv
 g8:xv
 j3:xv
 j2:xv
 Roof:xv
abbrev bmE:List fv:=[.type "Exception",.type "BaseException",.type "object"]
structure Txt(K:Fg)(mg:Str->Option fv)(base:Fp)(d:Adr):Prop where
 bI:∃a,mg "ALL_SIDES" =some (.ref a)/\∀H,SqT K H a [.int 0,.int 1,.int 2,.int 3]
 gZ:∃a,mg "STEPS" =some (.ref a)/\CT2 K a [(0,-1),(1,0),(0,1),(-1,0)]
 j0:∃a,mg "SIDE_STARTS" =some (.ref a)/\CT2 K a [(0,0),(1,0),(1,1),(0,1)]
 nX:∃a,mg "QUARTERS" =some (.ref a)/\CT2 K a [(0,0),(1,0),(0,1),(1,1)]
 iI:∃a,mg "HALVES_ABOUT" =some (.ref a)/\CT2 K a [(-1,-1),(0,-1),(1,-1),(-1,0),(1,0),(-1,1),(0,1),(1,1)]
 dX:∃a,mg "HALVES_AT_A_POINT" =some (.ref a)/\CT2 K a [(-1,-1),(0,-1),(-1,0),(0,0)]
 BG:qA mg "LINE_FEED" 10
 NG:qA mg "BLANK" 32
 NF:qA mg "COMMA" 44
 kE:qA mg "DIGIT_ZERO" 48
 zB:qA mg "DIGIT_NINE" 57
 pJ:qA mg "GREATEST_NUMBER" 64
 vV:qA mg "MOST_DIGITS" 2
 qX:qA mg "FEWEST_CORNERS" 4
 jI:qA mg "CELLS_IN_A_ROW" 64
 zA:qA mg "MOST_CELLS" 256
 len:mg "len" =none
 min:mg "min" =none
 max:mg "max" =none
 any:mg "any" =none
 list:mg "list" =none
 dict:mg "dict" =none
 sorted:mg "sorted" =none
 range:mg "range" =none
 enumerate:mg "enumerate" =none
 eZ:PyProof.Rows.OwnCls "NoHouse" d.cE bmE "Exception.__new__" mg base
 Q0:mg "Roof" =some (.ref d.Roof)
 bY:Cls K d.Roof
 MV:gQ K d.Roof "cells"
 uI:gQ K d.Roof "depths"
 xB:gQ K d.Roof "heights"
 qP:gQ K d.Roof "facings"
 d6:gQ K d.Roof "numbers"
 MU:gQ K d.Roof "faces"
 ND:qA mg "RIDGE" 0
 VX:qA mg "HIP" 1
 KR:qA mg "VALLEY" 2
variable {P:Fo}{w:Fw}{K:Fg}{mg:Str->Option fv}{base:Fp}{d:Adr}{f:xv}{fd:Gi}
theorem hm{k n:Nat}{A:Ft}(h:cR n A)(e:k<=n:=by decide):cR k A:=h.mono e
theorem fS{N ps:List Str}{sc:Gj}(h:aN N ps sc:=by exact⟨rfl,rfl,rfl,by decide+kernel,rfl,by decide+kernel,by decide+kernel⟩):aN N ps sc:=h
theorem dI{K:Fg}{n:Str}{s:Ga}(h:aG K n s:=by dsimp only[L2.KOf];refine' L3.QA ?a ?l ?c ?k;case a|l|c|k=>k_is):aG K n s:=h
theorem pfN{X:Cx}{k n:Nat}{x:Str}{ps:List Str}{sp:Sp}{e:Fz}{es:List Fz}{t:TA}{p pos:Pos}(D:aO X.prog X.w X.K X.mg X.base CX0 k x ps sp)(hr:cR n X.A)(ha:PA X (e::es) t)(hk:k<=n:=by decide)(hg:Gl X x:=by rfl)(rm:(x==("__debug__" : Str))=false:=by decide)(qi:Fq (e::es) X.env=(false,eval e X.env)::Fq es X.env:=by rfl)(sf:(backTo pos (Fq es X.env)).any (·.1)=false:=by rfl):PE X (.Call (.Name x p) (e::es) [] pos) (wG sp [] E0 t):=rP D (hr.mono hk) O9 hg ha rm qi sf
theorem pgN{X:Cx}{pos:Pos}{i:Nat}{x:Str}(hN:X.N.Nodup)(hi:X.N[i]? =some x:=by rfl)(hx:Loc X.env.scope x:=by exact Or.inl rfl)(hf:X.fn x=true\/X.env.scope.names.lookup x=some .local:=by first|exact .inl rfl|exact .inr rfl|assumption):PG X (.Name x pos) (jJ i):=MG hN hi hx hf
theorem psN{X:Cx}{pos ko:Pos}{i:Nat}{x:Str}{e:Fz}{te:TE}(hN:X.N.Nodup)(he:PE X e te)(hi:X.N[i]? =some x:=by rfl)(hx:Loc X.env.scope x:=by exact Or.inl rfl)(hs:swapsWith e (some (.Name x ko)) pos.line X.env=pure false:=by rfl)(hf:X.fn x=true\/X.env.scope.names.lookup x=some .local:=by first|exact .inl rfl|exact .inr rfl|assumption):PS X (.Assign [.Name x ko] e pos) (CC te (jJ i)):=CL hN hi hx he hs hf
abbrev s_lo:Ga:=(top 4)
theorem sc_lo:aN ["direction"] ["direction"] (aH s_lo):=fS
noncomputable def sp_lo(K:Fg)(d:Adr):Sp:=λvs H Q _=>∃x:Int,vs=[.int x]/\Q (.int ((x+1)%4)) H
theorem ok_lo(F:Fun K "left_of" "left_of" s_lo f fd)(T:Txt K mg base d):bJ P w K mg base CX0 1 f fd ["direction"] (sp_lo K d):=by
 refine F.ok sc_lo (λvs _ _ _ h=>ve1 vs h λ_ _=>rfl) (λ_ _ _ _ H vs Q E hr h=>?_);have hu:=bG hr;refine ve1 vs h λx k=>?_
 refine⟨_,(aF (aS (bR CV (bR gM (pv 0) aJ) aJ))),?_⟩;exact⟨_,rfl,_,_,rfl,rfl,_,_,rfl,rfl,(by show(0:Int)<4;decide),k⟩
abbrev s_o:Ga:=(top 5)
theorem sc_o:aN ["direction"] ["direction"] (aH s_o):=fS
noncomputable def sp_o(K:Fg)(d:Adr):Sp:=λvs H Q _=>∃x:Int,vs=[.int x]/\Q (.int ((x+2)%4)) H
theorem ok_o(F:Fun K "opposite" "opposite" s_o f fd)(T:Txt K mg base d):bJ P w K mg base CX0 1 f fd ["direction"] (sp_o K d):=by
 refine F.ok sc_o (λvs _ _ _ h=>ve1 vs h λ_ _=>rfl) (λ_ _ _ _ H vs Q E hr h=>?_);have hu:=bG hr;refine ve1 vs h λx k=>?_
 refine⟨_,(aF (aS (bR CV (bR gM (pv 0) aJ) aJ))),?_⟩;exact⟨_,rfl,_,_,rfl,rfl,_,_,rfl,rfl,(by show(0:Int)<4;decide),k⟩
abbrev s_ro:Ga:=(top 6)
theorem sc_ro:aN ["direction"] ["direction"] (aH s_ro):=fS
noncomputable def sp_ro(K:Fg)(d:Adr):Sp:=λvs H Q _=>∃x:Int,vs=[.int x]/\Q (.int ((x+3)%4)) H
theorem ok_ro(F:Fun K "right_of" "right_of" s_ro f fd)(T:Txt K mg base d):bJ P w K mg base CX0 1 f fd ["direction"] (sp_ro K d):=by
 refine F.ok sc_ro (λvs _ _ _ h=>ve1 vs h λ_ _=>rfl) (λ_ _ _ _ H vs Q E hr h=>?_);have hu:=bG hr;refine ve1 vs h λx k=>?_
 refine⟨_,(aF (aS (bR CV (bR gM (pv 0) aJ) aJ))),?_⟩;exact⟨_,rfl,_,_,rfl,rfl,_,_,rfl,rfl,(by show(0:Int)<4;decide),k⟩
abbrev s_m:Ga:=(top 7)
theorem sc_m:aN ["place","step"] ["place","step"] (aH s_m):=fS
noncomputable def sp_m(K:Fg)(d:Adr):Sp:=λvs H Q _=>∃(v u:V)(p q:PI),vs=[v,u]/\C2 K H v p/\C2 K H u q/\∀r H',a9 H H'->T2 H' r (p.1+q.1,p.2+q.2)->Q r H'
theorem ok_m(F:Fun K "moved" "moved" s_m f fd)(T:Txt K mg base d):bJ P w K mg base CX0 1 f fd ["place","step"] (sp_m K d):=by
 refine F.ok sc_m (λvs _ _ _ h=>ve4 vs h λ_ _ _ _ _=>rfl) (λ_ _ _ _ H vs Q E hr h=>?_);have hu:=bG hr;refine ve4 vs h λv u p q hY=>an3 hY λlu Aw k=>?_;clear hY h
 obtain⟨a,rfl,ha⟩:=lu;obtain⟨b,rfl,hb⟩:=Aw;refine⟨_,(aF (aS (c9 (a7 (bR gM (aY aT (pv 0) aJ (λ_ _=>rfl)) (aY aT (pv 1) aJ (λ_ _=>rfl))) (a7 (bR gM (aY aT (pv 0) aJ (λ_ _=>rfl)) (aY aT (pv 1) aJ (λ_ _=>rfl))) aC))))),?_⟩;refine⟨_,rfl,a,_,_,_,rfl,rfl,ha,aQ Hd rfl,_,rfl,b,_,_,_,rfl,rfl,hb,aQ Hd rfl,_,_,rfl,rfl,_,rfl,a,_,_,_,rfl,rfl,ha,aQ Hd rfl,_,rfl,b,_,_,_,rfl,rfl,hb,aQ Hd rfl,_,_,rfl,rfl,(by show 2<=Fh;decide),λt ht=>?_⟩;exact k _ _ (a9.upd ht) ⟨t,rfl,a8⟩
abbrev s_b:Ga:=(top 8)
theorem sc_b:aN ["place","direction"] ["place","direction"] (aH s_b):=fS
noncomputable def sp_b(K:Fg)(d:Adr):Sp:=λvs H Q _=>∃(v:V)(p:PI)(s:Nat),vs=[v,.int s]/\C2 K H v p/\s<4/\∀r H',a9 H H'->T2 H' r (aK p s)->Q r H'
theorem ok_b(F:Fun K "beyond" "beyond" s_b f fd)(T:Txt K mg base d)(D_m:aO P w K mg base CX0 1 "moved" ["place","step"] (sp_m K d)):bJ P w K mg base CX0 2 f fd ["place","direction"] (sp_b K d):=by
 refine F.ok sc_b (λvs _ _ _ h=>ve3 vs h λ_ _ _ _=>rfl) (λ_ _ _ _ H vs Q E hr h=>?_);have hu:=bG hr;obtain⟨vk,gZ,c_STEPS⟩:=T.gZ;refine ve3 vs h λv p s hY=>an3 hY λhv hs k=>?_;clear hY h
 obtain⟨xs,hx,pr⟩:=c_STEPS;obtain⟨q,hq,e⟩:∃q:PI,([(0,-1),(1,0),(0,1),(-1,0)]:List PI)[s]? =some q/\((p.1+q.1,p.2+q.2):PI)=aK p s:=by
  have cs:s=0\/s=1\/s=2\/s=3:=Hc
  rcases cs with rfl|rfl|rfl|rfl
  ·exact⟨_,rfl,by simp[aK];omega⟩
  ·exact⟨_,rfl,by simp[aK]⟩
  ·exact⟨_,rfl,by simp[aK]⟩
  ·exact⟨_,rfl,by simp[aK];omega⟩
 obtain⟨u,rg,ru⟩:=gE pr hq;refine⟨_,(aF (aS (pfN D_m hr (a7 (pv 0) (a7 (aY aT (eE gZ rfl) (pv 1) (λ_ _=>rfl)) aC))))),?_⟩;exact⟨_,rfl,_,rfl,_,_,_,_,rfl,rfl,hx _,aQ Hc (by simpa using rg),v,u,p,q,rfl,hv,ru _,λr H' sm t=>k r H' sm (by rw[<- e];exact t)⟩
abbrev s_ss:Ga:=(top 9)
theorem sc_ss:aN ["square","side"] ["square","side"] (aH s_ss):=fS
noncomputable def sp_ss(K:Fg)(d:Adr):Sp:=λvs H Q _=>∃(v:V)(p:PI)(s:Nat),vs=[v,.int s]/\C2 K H v p/\s<4/\∀r H',a9 H H'->T2 H' r (aE p s)->Q r H'
theorem ok_ss(F:Fun K "side_start" "side_start" s_ss f fd)(T:Txt K mg base d)(D_m:aO P w K mg base CX0 1 "moved" ["place","step"] (sp_m K d)):bJ P w K mg base CX0 2 f fd ["square","side"] (sp_ss K d):=by
 refine F.ok sc_ss (λvs _ _ _ h=>ve3 vs h λ_ _ _ _=>rfl) (λ_ _ _ _ H vs Q E hr h=>?_);have hu:=bG hr;obtain⟨aSIDE_STARTS,j0,c_SIDE_STARTS⟩:=T.j0;refine ve3 vs h λv p s hY=>an3 hY λhv hs k=>?_;clear hY h
 obtain⟨xs,hx,pr⟩:=c_SIDE_STARTS;obtain⟨q,hq,e⟩:∃q:PI,([(0,0),(1,0),(1,1),(0,1)]:List PI)[s]? =some q/\((p.1+q.1,p.2+q.2):PI)=aE p s:=by
  have cs:s=0\/s=1\/s=2\/s=3:=Hc
  rcases cs with rfl|rfl|rfl|rfl<;>exact⟨_,rfl,by simp[aE]⟩
 obtain⟨u,rg,ru⟩:=gE pr hq;refine⟨_,(aF (aS (pfN D_m hr (a7 (pv 0) (a7 (aY aT (eE j0 rfl) (pv 1) (λ_ _=>rfl)) aC))))),?_⟩;exact⟨_,rfl,_,rfl,_,_,_,_,rfl,rfl,hx _,aQ Hc (by simpa using rg),v,u,p,q,rfl,hv,ru _,λr H' sm t=>k r H' sm (by rw[<- e];exact t)⟩
abbrev s_se:Ga:=(top 10)
theorem sc_se:aN ["square","side"] ["square","side"] (aH s_se):=fS
noncomputable def sp_se(K:Fg)(d:Adr):Sp:=λvs H Q _=>∃(v:V)(p:PI)(s:Nat),vs=[v,.int s]/\C2 K H v p/\s<4/\∀r H',a9 H H'->T2 H' r (aE p (s+1))->Q r H'
theorem ok_se(F:Fun K "side_end" "side_end" s_se f fd)(T:Txt K mg base d)(D_ss:aO P w K mg base CX0 2 "side_start" ["square","side"] (sp_ss K d))(D_lo:aO P w K mg base CX0 1 "left_of" ["direction"] (sp_lo K d)):bJ P w K mg base CX0 3 f fd ["square","side"] (sp_se K d):=by
 refine F.ok sc_se (λvs _ _ _ h=>ve3 vs h λ_ _ _ _=>rfl) (λ_ _ _ _ H vs Q E hr h=>?_);have hu:=bG hr;refine ve3 vs h λv p s hY=>an3 hY λhv hs k=>?_;clear hY h
 refine⟨_,(aF (aS (pfN D_ss hr (a7 (pv 0) (a7 (pfN D_lo hr (a7 (pv 1) aC)) aC))))),?_⟩;refine⟨_,rfl,_,rfl,_,rfl,v,p,(s+1)%4,?_,hv,Hc,λr H' sm t=>k r H' sm ?_⟩
 ·simp
 ·have e:aE p ((s+1)%4)=aE p (s+1):=by unfold aE;rw[mod_mod]
  rw[<- e];exact t
abbrev s_br:Ga:=(top 11)
theorem sc_br:aN ["place"] ["place"] (aH s_br):=fS
noncomputable def sp_br(K:Fg)(d:Adr):Sp:=λvs H Q _=>∃(v:V)(p:PI),vs=[v]/\C2 K H v p/\∀r H',a9 H H'->T2 H' r (p.2,p.1)->Q r H'
theorem ok_br(F:Fun K "by_row" "by_row" s_br f fd)(T:Txt K mg base d):bJ P w K mg base CX0 1 f fd ["place"] (sp_br K d):=by
 refine F.ok sc_br (λvs _ _ _ h=>ve2 vs h λ_ _ _=>rfl) (λ_ _ _ _ H vs Q E hr h=>?_);have hu:=bG hr;refine ve2 vs h λv p hY=>an2 hY λlu k=>?_;clear hY h
 obtain⟨a,rfl,ha⟩:=lu;refine⟨_,(aF (aS (c9 (a7 (aY aT (pv 0) aJ (λ_ _=>rfl)) (a7 (aY aT (pv 0) aJ (λ_ _=>rfl)) aC))))),?_⟩;refine⟨_,rfl,a,_,_,_,rfl,rfl,ha,aQ Hd rfl,_,rfl,a,_,_,_,rfl,rfl,ha,aQ Hd rfl,(by show 2<=Fh;decide),λt ht=>?_⟩;exact k _ _ (a9.upd ht) ⟨t,rfl,a8⟩
abbrev s_pb:Ga:=(top 28)
theorem sc_pb:aN ["row","mark","parts","part","value"] ["row","mark"] (aH s_pb):=fS
theorem F5{ns:List Int}{i:Nat}{y:V}(h:(ns.map V.int)[i]? =some y):∃z,ns[i]? =some z/\y=V.int z:=by
 rw[bc]at h;cases e:ns[i]? with
 |none=>rw[e]at h;cases h
 |some z=>rw[e]at h;exact⟨z,rfl,(Option.some.inj h).symm⟩
theorem few{n m:Nat}(h:n<=m)(hm:m<=100000:=by omega):n<Fh:=ir (de h hm) Hd
noncomputable def sp_pb(K:Fg)(d:Adr):Sp:=λvs H Q _=>∃(a:xv)(ns:List Int)(m:Int),vs=[.ref a,.int m]/\SqL K H a (ns.map V.int)/\ns.length<=4096/\∀p H',a9 H H'->H p=none->LLI H' p (parts m ns)->Q (.ref p) H'
theorem ok_pb(F:Fun K "parts_between" "parts_between" s_pb f fd)(T:Txt K mg base d):bJ P w K mg base CX0 1 f fd ["row","mark"] (sp_pb K d):=by
 refine F.ok sc_pb (λvs _ _ _ h=>ve3 vs h λ_ _ _ _=>rfl) (λ_ _ _ _ H vs Q E hr h=>?_);have hu:=bG hr;refine ve3 vs h λa ns m hY=>an3 hY λhS kc k=>?_;clear hY h
 refine⟨_,(aA (psN (i:=2) sc_pb.nd (fF aC))
   (aA (psN (i:=3) sc_pb.nd (fF aC))
   (aA (c8 PassesOwn.never rfl (fE (pv 0)) (pgN (i:=4) sc_pb.nd) (aF (cJ (bO lM (pv 4) (pv 1) (bU _)) (aA (dC (jA PySem.F.plainAttrs_list PySem.F.slot_list_append PySem.F.type_list_append cQ (pv 2) (a7 (pv 3) aC)))
   (aF (psN (i:=3) sc_pb.nd (fF aC)))) (aF (dC (jA PySem.F.plainAttrs_list PySem.F.slot_list_append PySem.F.type_list_append cQ (pv 3) (a7 (pv 4) aC)))))))
   (aA (dC (jA PySem.F.plainAttrs_list PySem.F.slot_list_append PySem.F.type_list_append cQ (pv 2) (a7 (pv 3) aC)))
   (aF (aS (pv 2))))))),?_⟩
 refine⟨cn _,λp hp=>?_⟩;refine⟨cn _,λq hq=>?_⟩;have xa:p≠q:=aI a8 hq;refine⟨_,rfl,a,rfl,⟨_,(a9.trans (a9.upd hp) (a9.upd hq)).seq hS⟩,jK (K:=K) (a:=a) (xs:=ns.map V.int) (λi σ H2=>∃(q:xv)(done:List (List Int))(cur:List Int)(xs:List V)(v:Option V),
  σ=[some (.ref a),some (.int m),some (.ref p),some (.ref q),v]/\a9 H H2/\H q=none/\H2 p=some (.lst xs)/\H2 q=some (.lst (cur.map V.int))/\p≠q/\
  Paired (λv r=>∃b,v=V.ref b/\b≠p/\b≠q/\H2 b=some (.lst (r.map V.int))) xs done/\done++RM.partsFrom m cur (ns.drop i)=parts m ns/\done.length<=i/\cur.length<=i)
  ⟨q,[],[],[],none,rfl,a9.trans (a9.upd hp) (a9.upd hq),(a9.upd hp).free hq,by rw[aB xa,a8],a8,xa,.nil,RM.iV m ns,aw _,aw _⟩
  (λi σ H2 _ ⟨_,_,_,_,_,_,s2,_⟩=>s2.seq hS) ?_ ?_⟩
 ·intro i y σ H2 hi hI;refine ve5 σ hI λq done cur xs v hY=>an9 hY λs2 fq h1 h2 xa pr hd l1 l2=>?_;clear hI hY
  obtain⟨z,hz,rfl⟩:=F5 hi;have sj:i<ns.length:=(ar.mp hz).1;have lx:=pairs_len pr;rw[RM.drop_cons hz]at hd;refine⟨_,rfl,_,rfl,rfl,_,rfl,?_⟩;refine cK (λc=>?_) (λc=>?_)
  ·have e:z=m:=by simpa using c
   refine⟨_,rfl,.inl ⟨rfl,_,SqL.of h1⟩,_,rfl,p,xs,.ref q,rfl,rfl,h1,few (m:=4096) Hc,?_⟩;refine⟨cn _,λq' qw=>?_⟩;have hp':(upd H2 p (.lst (xs++[.ref q]))) p=some (.lst (xs++[.ref q])):=a8;have hq2:(upd H2 p (.lst (xs++[.ref q]))) q=some (.lst (cur.map V.int)):=by rw[aB xa.symm];exact h2
   have n1:p≠q':=aI hp' qw;have n2:q≠q':=aI hq2 qw;have s3:a9 H (upd H2 p (.lst (xs++[.ref q]))):=a9.put s2 hp;refine⟨q',done++[cur],[],xs++[.ref q],_,rfl,a9.trans s3 (a9.upd qw),s3.free qw,by rw[aB n1,a8],a8,n1,?_,?_,by rw[aj];simp;omega,cn _⟩
   ·refine bC ⟨q,rfl,xa.symm,n2,by rw[aB n2];exact hq2⟩ (aM (λv r ⟨b,e1,e2,e3,e4⟩=>?_) pr);have e5:(upd H2 p (.lst (xs++[.ref q]))) b=some (.lst (r.map V.int)):=by rw[aB e2];exact e4
    have n3:b≠q':=aI e5 qw;exact⟨b,e1,e2,n3,by rw[aB n3];exact e5⟩
   ·rw[RM.iX e]at hd;rw[<- hd];simp
  ·have e:¬z=m:=by simpa using c
   refine⟨_,rfl,.inl ⟨rfl,_,SqL.of h2⟩,_,rfl,q,_,.int z,rfl,rfl,h2,by rw[ai];exact few (m:=4096) Hc,?_⟩;refine⟨q,done,cur++[z],xs,_,rfl,a9.put s2 fq,fq,by rw[aB xa];exact h1,by rw[a8,cf];rfl,xa,aM (λv r ⟨b,e1,e2,e3,e4⟩=>⟨b,e1,e2,e3,by rw[aB e3];exact e4⟩) pr,?_,Hc,by rw[aj];simp;omega⟩;rw[RM.iD e]at hd;exact hd
 ·intro σ H2 hI;refine ve5 σ hI λq done cur xs v hY=>an9 hY λs2 fq h1 h2 xa pr hd l1 l2=>?_;clear hI hY
  have lx:=pairs_len pr;rw[ai]at hd l1;rw[List.drop_eq_nil_of_le (aw _)]at hd;have hd:done++[cur]=parts m ns:=hd;refine⟨_,rfl,.inl ⟨rfl,_,SqL.of h1⟩,_,rfl,p,xs,.ref q,rfl,rfl,h1,few (m:=4096) Hc,?_⟩;refine⟨_,rfl,k p _ (a9.put s2 hp) hp ⟨_,a8,?_⟩⟩;rw[<- hd];refine bC ⟨q,rfl,by rw[aB xa.symm];exact h2⟩ (aM (λv r ⟨b,e1,e2,e3,e4⟩=>⟨b,e1,by rw[aB e2];exact e4⟩) pr)
abbrev s_dt:Ga:=(top 29)
theorem sc_dt:aN ["value"] ["value"] (aH s_dt):=fS
noncomputable def sp_dt(K:Fg)(d:Adr):Sp:=λvs H Q E=>∃n:Int,vs=[.int n]/\(∀z,m4 n=some z->Q (.int z) H)/\(m4 n=none->E (.ref d.cE) none H)
theorem ok_dt(F:Fun K "digit_told" "digit_told" s_dt f fd)(T:Txt K mg base d):bJ P w K mg base CXf 1 f fd ["value"] (sp_dt K d):=by
 refine okX F sc_dt (λvs _ _ _ h=>ve1 vs h λ_ _=>rfl) (λ_ _ _ _ H vs Q E hr hok h=>?_);have hu:=bG hr;refine ve1 vs h λn hY=>an2 hY λk1 k2=>?_;clear hY h
 refine⟨_,(aA (cJ (PW.pt (A6 (bO JS (pv 0) (cW T.kE rfl) (bU _)) (u7 (bO uD (pv 0) (cW T.zB rfl) (bU _))))) (aF (eY hok PySem.F.excBase_Exception T.eZ rfl)) bF)
   (aF (aS (bR lJ (pv 0) (cW T.kE rfl))))),?_⟩
 refine⟨_,rfl,_,_,rfl,rfl,_,rfl,?_⟩;refine cK (λc=>?_) (λc=>?_)
 ·have c:n<48:=by simpa using c
  exact DI (k2 (by unfold m4;rw[ah (.inl c)]))
 ·have c:¬n<48:=by simpa using c
  refine⟨_,rfl,_,_,rfl,rfl,_,rfl,?_⟩;refine cK (λc2=>?_) (λc2=>?_)
  ·have c2:57<n:=by simpa using c2
   exact k2 (by unfold m4;rw[ah (.inr c2)])
  ·have c2:¬57<n:=by simpa using c2
   exact⟨_,rfl,_,_,rfl,rfl,k1 _ (by unfold m4;rw[af Hc])⟩
abbrev s_nt:Ga:=(top 30)
theorem sc_nt:aN ["row","number","value"] ["row"] (aH s_nt):=fS
noncomputable def sp_nt(K:Fg)(d:Adr):Sp:=λvs H Q E=>∃(v:V)(ns:List Int),vs=[v]/\LI H v ns/\ns.length<=4096/\(∀z,dD ns=some z->Q (.int z) H)/\(dD ns=none->E (.ref d.cE) none H)
theorem ok_nt(F:Fun K "number_told" "number_told" s_nt f fd)(T:Txt K mg base d)(D_dt:aO P w K mg base CXf 1 "digit_told" ["value"] (sp_dt K d)):bJ P w K mg base CXf 2 f fd ["row"] (sp_nt K d):=by
 refine okX F sc_nt (λvs _ _ _ h=>ve2 vs h λ_ _ _=>rfl) (λ_ _ _ _ H vs Q E hr hok h=>?_);have hu:=bG hr;refine ve2 vs h λv ns hY=>an4 hY λlu hl k1 k2=>?_;clear hY h
 obtain⟨a,rfl,ha⟩:=lu;have hS:SqL K H a (ns.map V.int):=SqL.of ha;have el:(ns.map V.int).length=ns.length:=ai ..;refine⟨_,(aA (cJ (PW.pt (A6 (bO lM (bP cD Hi T.len PySem.boot_len (a7 (pv 0) aC)) aJ (bU _)) (u7 (bO uD (bP cD Hi T.len PySem.boot_len (a7 (pv 0) aC)) (cW T.vV rfl) (bU _))))) (aF (eY hok PySem.F.excBase_Exception T.eZ rfl)) bF)
   (aA (cJ (PW.pt (nP (bO uD (bP cD Hi T.len PySem.boot_len (a7 (pv 0) aC)) aJ (bU _)) (mK (bO lM (aY gY (pv 0) aJ (λ_ _=>rfl)) (cW T.kE rfl) (bU _))))) (aF (eY hok PySem.F.excBase_Exception T.eZ rfl)) bF)
   (aA (psN (i:=1) sc_nt.nd aJ)
   (aA (c8 PassesOwn.leaving rfl (fE (pv 0)) (pgN (i:=2) sc_nt.nd) (aF (psN (i:=1) sc_nt.nd (bR gM (bR iE (pv 1) aJ) (rP D_dt (hm hr) (JN hok) rfl (a7 (pv 2) aC))))))
   (aA (cJ (bO uD (pv 1) (cW T.pJ rfl) (bU _)) (aF (eY hok PySem.F.excBase_Exception T.eZ rfl)) bF)
   (aF (aS (pv 1)))))))),?_⟩
 refine⟨_,rfl,a,_,rfl,.inl hS,rfl,_,rfl,?_⟩;refine cK (λc=>?_) (λc=>?_)
 ·have c:ns.length=0:=by simpa using c
  exact DI (k2 (by unfold dD;rw[ah (.inl c)]))
 have c:¬ns.length=0:=by simpa using c
 refine⟨_,rfl,a,_,rfl,.inl hS,_,_,rfl,rfl,_,rfl,?_⟩;refine cK (λc2=>?_) (λc2=>?_)
 ·have c2:2<ns.length:=by have:=bq c2;rw[el]at this;omega
  exact k2 (by unfold dD;rw[ah (.inr c2)])
 have c2:¬2<ns.length:=by intro z;exact c2 (decide_eq_true (by rw[el];omega))
 have n1:¬(ns.length=0\/2<ns.length):=Hc
 refine(λ(rest:¬(1<ns.length/\ns.head?=some 48)->?R)=>?main) ?hr;case main=>
  refine⟨_,rfl,a,_,rfl,.inl hS,_,_,rfl,rfl,_,rfl,?_⟩;refine cK (λc3=>?_) (λc3=>?_)
  ·have c3:1<ns.length:=by have:=bq c3;rw[el]at this;omega
   obtain⟨y,hy⟩:∃y,ns[0]? =some y:=⟨ns[0],cc Hc⟩
   refine⟨_,rfl,a,_,_,_,rfl,rfl,hS,aQ (v:=V.int y) Hd (by rw[bc];show ns[0]?.map V.int=_;rw[hy];rfl),rfl,_,rfl,?_⟩;have hh:ns.head?=some y:=by rw[List.head?_eq_getElem?];exact hy
   refine cK (λc4=>?_) (λc4=>?_)
   ·have c4:y=48:=by simpa using c4
    exact k2 (by unfold dD;rw[af n1,ah ⟨c3,by rw[hh,c4]⟩])
   ·have c4:¬y=48:=by simpa using c4
    exact rest λz=>c4 (by have:=z.2;rw[hh]at this;exact Option.some.inj this)
  ·have c3:¬1<ns.length:=by intro z;exact c3 (decide_eq_true (by rw[el];omega))
   exact DJ (rest λz=>c3 z.1)
 case hr=>
  intro c3;have nb:∀o,ns.foldlM iN 0=o->dD ns=o.bind λn=>if 64<n then none else some n:=λo e=>by unfold dD;rw[af n1,af c3,e]
  refine⟨_,rfl,a,rfl,⟨_,hS⟩,jK (K:=K) (a:=a) (xs:=ns.map V.int) (λi σ H2=>H2=H/\∃(n:Int)(v:Option V),σ=[some (.ref a),some (.int n),v]/\(ns.take i).foldlM iN 0=some n)
   ⟨rfl,0,none,rfl,rfl⟩ (λi σ H2 _ ⟨e,_⟩=>by rw[e];exact hS) ?_ ?_⟩
  ·rintro i y σ H2 hi ⟨rfl,n,v,rfl,hn⟩;obtain⟨z,hz,rfl⟩:=F5 hi;refine⟨_,rfl,_,_,rfl,rfl,.inr ⟨Hd,Hd⟩,_,rfl,z,rfl,λq hq=>⟨_,_,rfl,rfl,rfl,_,_,rfl,?_⟩,λhq=>?_⟩
   ·rw[RM.sF hn hz];unfold iN;rw[hq];rfl
   ·refine k2 ?_;have e:iN n z=none:=by unfold iN;rw[hq];rfl
    rw[nb _ (RM.BK hn hz e)];rfl
  ·rintro σ H2 ⟨rfl,n,v,rfl,hn⟩;rw[el,bf (aw _)]at hn;refine⟨_,rfl,_,_,rfl,rfl,_,rfl,?_⟩;refine cK (λc4=>?_) (λc4=>?_)
   ·have c4:64<n:=by simpa using c4
    exact k2 (by rw[nb _ hn];show(if 64<n then none else some n)=none;rw[ah c4])
   ·have c4:¬64<n:=by simpa using c4
    exact⟨_,rfl,k1 n (by rw[nb _ hn];show(if 64<n then none else some n)=some n;rw[af c4])⟩
abbrev s_ct:Ga:=(top 31)
theorem sc_ct:aN ["row","numbers","part"] ["row"] (aH s_ct):=fS
def QN:List Int->Option (Int×Int)
 |[a,b]=>some (a,b)
 |_=>none
noncomputable def sp_ct(K:Fg)(d:Adr):Sp:=λvs H Q E=>∃(v:V)(ns:List Int),vs=[v]/\LI H v ns/\ns.length<=4096/\(∀z,dG ns=some z->∀r H',a9 H H'->T2 H' r z->Q r H')/\(dG ns=none->E (.ref d.cE) none H)
theorem ok_ct(F:Fun K "corner_told" "corner_told" s_ct f fd)(T:Txt K mg base d)(D_pb:aO P w K mg base CX0 1 "parts_between" ["row","mark"] (sp_pb K d))(D_nt:aO P w K mg base CXf 2 "number_told" ["row"] (sp_nt K d)):bJ P w K mg base CXf 3 f fd ["row"] (sp_ct K d):=by
 refine okX F sc_ct (λvs _ _ _ h=>ve2 vs h λ_ _ _=>rfl) (λ_ _ _ _ H vs Q E hr hok h=>?_);have hu:=bG hr;refine ve2 vs h λv ns hY=>an4 hY λlu hl k1 k2=>?_;clear hY h
 obtain⟨a,rfl,ha⟩:=lu;refine⟨_,(aA (wQ hok (i:=1) (own:=[("part",2)]) rfl sc_ct.nd rfl rfl (by exact sV rfl rfl rfl rfl) (fE (pfN D_pb hr (a7 (pv 0) (a7 (cW T.NF rfl) aC)))) (gH (by first|decide+kernel|kernel_rfl)) (λ_ _ _ _ _=>(pgN (i:=2) sc_ct.nd)) (λ_ _ _ _ _ hk=>(rP D_nt (hm hr) (JO (E':=λc=>E c none H) hk) rfl (a7 (pv 2) aC))))
   (aA (cJ (bO EU (bP cD Hi T.len PySem.boot_len (a7 (pv 1) aC)) aJ (bU _)) (aF (eY hok PySem.F.excBase_Exception T.eZ rfl)) bF)
   (aF (aS (c9 (a7 (aY gY (pv 1) aJ (λ_ _=>rfl)) (a7 (aY gY (pv 1) aJ (λ_ _=>rfl)) aC))))))),?_⟩
 refine⟨_,rfl,a,ns,44,rfl,SqL.of ha,hl,λp H1 sm fp ⟨xs,hp,pr⟩=>⟨p,rfl,⟨_,SqL.of hp⟩,λD hD=>pD (K:=K) (a:=p) (xs:=xs)
  (λi H2=>a9 H1 H2/\∃zs,H2 D=some (.lst (zs.map V.int))/\((parts 44 ns).take i).mapM dD=some zs) ⟨a9.upd hD,[],a8,rfl⟩ (λi H2 _ ⟨s2,_⟩=>s2.seq (SqL.of hp)) ?_ ?_⟩⟩
 ·rintro i x H2 hx ⟨s2,zs,h2,hz⟩;obtain⟨row,qj,uv⟩:=pairs_at pr hx;have hm:=ba qj;have l1:zs.length<=4097:=by have:=uL hz;have h3:=qN 44 ns;rw[bx]at this;omega
  refine⟨rfl,?_⟩;refine⟨_,rfl,x,row,rfl,uv.mono s2,de (iU hm) hl,λz Bl=>⟨_,h2,by rw[ai];exact few l1,a9.put s2 hD,zs++[z],by rw[a8,cf];rfl,qQ hz qj Bl⟩,λhn=>k2 ?_⟩;unfold dG;rw[qR hm hn];rfl
 ·rintro H2 ⟨s2,zs,h2,hz⟩;rw[pairs_len pr,bf (aw _)]at hz;refine⟨_,rfl,D,_,rfl,.inl (SqL.of h2),rfl,_,rfl,?_⟩;have hc:dG ns=QN zs:=by
   unfold dG;rw[hz];match zs with
   |[]=>rfl
   |[_]=>rfl
   |[_,_]=>rfl
   |_::_::_::_=>rfl
  refine cK (λc=>k2 ?_) (λc=>?_)
  ·rw[hc];match zs,c with
   |[],_=>rfl
   |[_],_=>rfl
   |[_,_],c=>simp at c
   |_::_::_::_,_=>rfl
  ·match zs,c,hc,h2 with
   |[],c,_,_=>simp at c
   |[_],c,_,_=>simp at c
   |_::_::_::_,c,_,_=>simp at c;omega
   |[x,y],_,hc,h2=>refine⟨_,rfl,D,_,_,_,rfl,rfl,SqL.of h2,aQ (v:=V.int x) Hd rfl,_,rfl,D,_,_,_,rfl,rfl,SqL.of h2,aQ (v:=V.int y) Hd rfl,(by show 2<=Fh;decide),λt ht=>?_⟩;exact k1 (x,y) hc _ _ (a9.trans sm (a9.trans s2 (a9.upd ht))) ⟨t,rfl,a8⟩
abbrev s_wt:Ga:=(top 32)
theorem sc_wt:aN ["row","corners","part"] ["row"] (aH s_wt):=fS
noncomputable def sp_wt(K:Fg)(d:Adr):Sp:=λvs H Q E=>∃(v:V)(ns:List Int),vs=[v]/\LI H v ns/\ns.length<=4096/\(∀z,j6 ns=some z->∀r H',a9 H H'->H r=none->LT H' (.ref r) z->Q (.ref r) H')/\(j6 ns=none->E (.ref d.cE) none H)
theorem ok_wt(F:Fun K "walk_told" "walk_told" s_wt f fd)(T:Txt K mg base d)(D_pb:aO P w K mg base CX0 1 "parts_between" ["row","mark"] (sp_pb K d))(D_ct:aO P w K mg base CXf 3 "corner_told" ["row"] (sp_ct K d)):bJ P w K mg base CXf 4 f fd ["row"] (sp_wt K d):=by
 refine okX F sc_wt (λvs _ _ _ h=>ve2 vs h λ_ _ _=>rfl) (λ_ _ _ _ H vs Q E hr hok h=>?_);have hu:=bG hr;refine ve2 vs h λv ns hY=>an4 hY λlu hl k1 k2=>?_;clear hY h
 obtain⟨a,rfl,ha⟩:=lu;refine⟨_,(aA (wQ hok (i:=1) (own:=[("part",2)]) rfl sc_wt.nd rfl rfl (by exact sV rfl rfl rfl rfl) (fE (pfN D_pb hr (a7 (pv 0) (a7 (cW T.NG rfl) aC)))) (gH (by first|decide+kernel|kernel_rfl)) (λ_ _ _ _ _=>(pgN (i:=2) sc_wt.nd)) (λ_ _ _ _ _ hk=>(rP D_ct (hm hr) (JO (E':=λc=>E c none H) hk) rfl (a7 (pv 2) aC))))
   (aA (cJ (bO JS (bP cD Hi T.len PySem.boot_len (a7 (pv 1) aC)) (cW T.qX rfl) (bU _)) (aF (eY hok PySem.F.excBase_Exception T.eZ rfl)) bF)
   (aF (aS (pv 1))))),?_⟩
 refine⟨_,rfl,a,ns,32,rfl,SqL.of ha,hl,λp H1 sm fp ⟨xs,hp,pr⟩=>⟨p,rfl,⟨_,SqL.of hp⟩,λD hD=>pD (K:=K) (a:=p) (xs:=xs)
  (λi H2=>a9 H1 H2/\∃ys zs,H2 D=some (.lst ys)/\Paired (T2 H2) ys zs/\((parts 32 ns).take i).mapM dG=some zs) ⟨a9.upd hD,[],[],a8,.nil,rfl⟩ (λi H2 _ ⟨s2,_⟩=>s2.seq (SqL.of hp)) ?_ ?_⟩⟩
 ·rintro i x H2 hx ⟨s2,ys,zs,h2,py,hz⟩;obtain⟨row,qj,uv⟩:=pairs_at pr hx;have hm:=ba qj;have l1:ys.length<=4097:=by have:=uL hz;have h3:=qN 32 ns;rw[bx]at this;have:=pairs_len py;omega
  refine⟨rfl,?_⟩;refine⟨_,rfl,x,row,rfl,uv.mono s2,de (iU hm) hl,λz Bl r H3 s3 t3=>?_,λhn=>k2 ?_⟩
  ·have h3:=s3 _ _ h2;refine⟨ys,h3,few l1,a9.put (a9.trans s2 s3) hD,ys++[r],zs++[z],a8,bC (t3.upd h3) (aM (λ_ _ q=>(q.mono s3).upd h3) py),qQ hz qj Bl⟩
  ·unfold j6;rw[qR hm hn];rfl
 ·rintro H2 ⟨s2,ys,zs,h2,py,hz⟩;rw[pairs_len pr,bf (aw _)]at hz;have hc:j6 ns=(if zs.length<4 then none else some zs):=by unfold j6;rw[hz];rfl
  have ly:=pairs_len py;refine⟨_,rfl,D,_,rfl,.inl (SqL.of h2),_,_,rfl,rfl,_,rfl,?_⟩;refine cK (λc=>k2 ?_) (λc=>?_)
  ·have c:=bq c;rw[hc,ah Hc]
  ·have c:¬zs.length<4:=λz=>c (decide_eq_true Hc)
   exact⟨_,rfl,k1 zs (by rw[hc,af c]) D H2 (a9.trans sm s2) (sm.free hD) ⟨D,ys,rfl,h2,py⟩⟩
abbrev s_wt2:Ga:=(top 33)
theorem sc_wt2:aN ["t","rows","rest","row"] ["t"] (aH s_wt2):=fS
noncomputable def sp_wt2(K:Fg)(d:Adr):Sp:=λvs H Q E=>∃(a:xv)(ns:List Int),vs=[.ref a]/\SqL K H a (ns.map V.int)/\ns.length<=4096/\(∀z,eM ns=some z->∀r H',a9 H H'->LLT H' r z->Q r H')/\(eM ns=none->E (.ref d.cE) none H)
theorem ok_wt2(F:Fun K "walks_told" "walks_told" s_wt2 f fd)(T:Txt K mg base d)(D_pb:aO P w K mg base CX0 1 "parts_between" ["row","mark"] (sp_pb K d))(D_wt:aO P w K mg base CXf 4 "walk_told" ["row"] (sp_wt K d)):bJ P w K mg base CXf 5 f fd ["t"] (sp_wt2 K d):=by
 refine okX F sc_wt2 (λvs _ _ _ h=>ve2 vs h λ_ _ _=>rfl) (λ_ _ _ _ H vs Q E hr hok h=>?_);have hu:=bG hr;refine ve2 vs h λa ns hY=>an4 hY λhS hl k1 k2=>?_;clear hY h
 refine⟨_,(aA (psN (i:=1) sc_wt2.nd (pfN D_pb hr (a7 (pv 0) (a7 (cW T.BG rfl) aC))))
   (aA (psN (i:=2) sc_wt2.nd (CO PySem.F.plainAttrs_list PySem.F.slot_list_pop PySem.F.type_list_pop D5 (pv 1)))
   (aA (cJ (PW.pt (A6 (bO uD (bP cD Hi T.len PySem.boot_len (a7 (pv 2) aC)) aJ (bU _)) (u7 (bO lM (bP cD Hi T.len PySem.boot_len (a7 (pv 1) aC)) aJ (bU _))))) (aF (eY hok PySem.F.excBase_Exception T.eZ rfl)) bF)
   (aF (aS (P2 hok (own:=[("row",3)]) rfl sc_wt2.nd (fE (pv 1)) (gH (by first|decide+kernel|kernel_rfl)) (λ_ _ _ _ _=>(pgN (i:=3) sc_wt2.nd)) (λ_ _ _ _ _ hk=>(rP D_wt (hm hr) (JO (E':=λc=>E c none H) hk) rfl (a7 (pv 3) aC))))))))),?_⟩
 refine⟨_,rfl,a,ns,10,rfl,hS,hl,λp H1 sm fp ⟨xs,hp,pr⟩=>?_⟩;have lp:=qN 10 ns;have lx:=pairs_len pr;have jw:parts 10 ns≠[]:=RM.AB 10 ns;have l0:0<(parts 10 ns).length:=fy.mpr jw;obtain⟨last,yq⟩:∃last,(parts 10 ns)[(parts 10 ns).length - 1]? =some last:=⟨_,cc Hc⟩
 obtain⟨y,hy,ly⟩:=gE pr yq;have hgl:(parts 10 ns).getLast?=some last:=by rw[List.getLast?_eq_getElem?];exact yq
 obtain⟨b,rfl,nb,hb⟩:=LLI.apart hp (ba hy) ly;refine⟨_,rfl,.inl ⟨rfl,_,SqL.of hp⟩,p,xs,.ref b,rfl,rfl,hp,by rw[lx];exact hy,?_⟩;have Bs:(upd H1 p (.lst xs.dropLast)) b=some (.lst (last.map V.int)):=by rw[aB nb];exact hb
 have hp2:(upd H1 p (.lst xs.dropLast)) p=some (.lst xs.dropLast):=a8;have s2:a9 H (upd H1 p (.lst xs.dropLast)):=a9.put sm fp;have pr2:Paired (LI (upd H1 p (.lst xs.dropLast))) xs.dropLast (parts 10 ns).dropLast:=by refine aM (λv r ⟨h1,h2,h3⟩=>?_) (fJ (mM pr));obtain⟨c,rfl,nc,hc⟩:=LLI.apart hp h1 h3;exact⟨c,rfl,by rw[aB nc];exact hc⟩
 have ld:xs.dropLast.length=(parts 10 ns).dropLast.length:=pairs_len pr2;refine⟨_,rfl,b,_,rfl,.inl (SqL.of Bs),_,_,rfl,rfl,_,rfl,?_⟩;refine cK (λc=>?_) (λc=>?_)
 ·have c:0<last.length:=by have:=bq c;rw[ai]at this;omega
  have hx:(parts 10 ns).getLast?≠some []:=by rw[hgl];intro z;cases z;simp at c
  refine DI (k2 ?_);unfold eM;rw[ah (.inl hx)]
 have c:last=[]:=by
  apply fm;have:¬((0:Int)<((last.map V.int).length:Int)):=λz=>c (decide_eq_true z)
  rw[ai]at this;omega
 refine⟨_,rfl,p,_,rfl,.inl (SqL.of hp2),rfl,_,rfl,?_⟩;refine cK (λc2=>k2 ?_) (λc2=>?_)
 ·have c2:xs.dropLast.length=0:=by have:=bq c2;simpa using this
  unfold eM;rw[ah (.inr (fm Hc))]
 have c2:¬(parts 10 ns).dropLast=[]:=λz=>c2 (decide_eq_true (by rw[ld,z];rfl))
 have hw:eM ns=(parts 10 ns).dropLast.mapM j6:=by unfold eM;rw[af (by rintro(z|z);exact z (by rw[hgl,c]);exact c2 z)]
 refine⟨_,rfl,p,rfl,⟨_,SqL.of hp2⟩,λD hD=>pD (K:=K) (a:=p) (xs:=xs.dropLast)
  (λi H2=>a9 (upd H1 p (.lst xs.dropLast)) H2/\∃ys zs,H2 D=some (.lst ys)/\Paired (λv z=>∃b,v=.ref b/\b≠D/\LT H2 (.ref b) z) ys zs/\((parts 10 ns).dropLast.take i).mapM j6=some zs) ⟨a9.upd hD,[],[],a8,.nil,rfl⟩ (λi H2 _ ⟨s2,_⟩=>s2.seq (SqL.of hp2)) ?_ ?_⟩
 ·rintro i x H2 hx ⟨s3,ys,zs,h2,py,hz⟩;obtain⟨row,qj,uv⟩:=pairs_at pr2 hx;have hm:=ba qj;have l1:ys.length<=4097:=by
   have:=uL hz;rw[bx]at this;have:=pairs_len py;have:(parts 10 ns).dropLast.length<=(parts 10 ns).length:=by rw[gr];omega
   omega
  refine⟨rfl,?_⟩;refine⟨_,rfl,x,row,rfl,uv.mono s3,de (iU (pC hm)) hl,λz Bl r H3 s4 fr t3=>?_,λhn=>k2 ?_⟩
  ·have h3:=s4 _ _ h2;have nr:r≠D:=λz=>by rw[z,h2]at fr;cases fr
   refine⟨ys,h3,few l1,a9.put (a9.trans s3 s4) hD,ys++[.ref r],zs++[z],a8,bC ⟨r,rfl,nr,t3.upd h3 nr⟩ (aM (λ_ _ ⟨b,e,n,q⟩=>⟨b,e,n,(q.mono s4).upd h3 n⟩) py),qQ hz qj Bl⟩
  ·rw[hw];exact qR hm hn
 ·rintro H2 ⟨s3,ys,zs,h2,py,hz⟩;rw[ld,bf (aw _)]at hz;exact k1 zs (by rw[hw,hz]) _ H2 (a9.trans s2 s3) ⟨D,ys,rfl,h2,aM (λ_ _ ⟨b,e,n,q⟩=>by rw[e];exact q) py⟩
abbrev s_far:Ga:=(top 37)
theorem sc_far:aN ["walks","feet","walk","number","corner","before","y"] ["walks"] (aH s_far):=fS
noncomputable def sp_far(K:Fg)(d:Adr):Sp:=λvs H Q _=>∃(v:V)(W:List Roof.Walk),vs=[v]/\LLT H v (iWs W)/\uE W/\∀a kvs H',a9 H H'->H a=none->D2 H' a kvs->(∀x y:Nat,((((x:Int),(y:Int)):PI)∈kvs.map (·.1))↔dJ W x y=true)->Q (.ref a) H'
theorem ok_far(F:Fun K "feet_across_rows" "feet_across_rows" s_far f fd)(T:Txt K mg base d):bJ P w K mg base CX0 1 f fd ["walks"] (sp_far K d):=by
 refine F.ok sc_far (λvs _ _ _ h=>ve2 vs h λ_ _ _=>rfl) (λ_ _ _ _ H vs Q E hr h=>?_);have hu:=bG hr;refine ve2 vs h λv W hY=>an3 hY λlu ok k=>?_;clear hY h
 obtain⟨a,xs,rfl,ha,pr⟩:=lu;have me:=RM.MN ok;refine⟨_,(aA (psN (i:=1) sc_far.nd fH)
   (aA (c8 PassesOwn.never rfl (fE (pv 0)) (pgN (i:=2) sc_far.nd) (aF (c8 PassesOwn.never rfl (ME rfl T.enumerate (a7 (pv 2) aC)) (jW rfl (aX (pgN (i:=3) sc_far.nd) (aX (pgN (i:=4) sc_far.nd) fY))) (aA (psN (i:=5) sc_far.nd (aY gY (pv 2) (bR lJ (pv 3) aJ) (λ_ _=>rfl)))
   (aF (cJ (bO lM (aY aT (pv 4) aJ (λ_ _=>rfl)) (aY aT (pv 5) aJ (λ_ _=>rfl)) (bU _)) (aF (c8 PassesOwn.never rfl (GG rfl T.range (a7 (bP (xX rfl) Hi T.min Hi (a7 (aY aT (pv 4) aJ (λ_ _=>rfl)) (a7 (aY aT (pv 5) aJ (λ_ _=>rfl)) aC))) (a7 (bP (xY rfl) Hi T.max Hi (a7 (aY aT (pv 4) aJ (λ_ _=>rfl)) (a7 (aY aT (pv 5) aJ (λ_ _=>rfl)) aC))) aC))) (pgN (i:=6) sc_far.nd) (aF (gV hu (pv 1) (c9 (a7 (aY aT (pv 4) aJ (λ_ _=>rfl)) (a7 (pv 6) aC))) iM rfl)))) bF))))))
   (aF (aS (pv 1))))),?_⟩
 refine λp hp=>?_
 have s1:a9 H (upd H p (.dT [])):=a9.upd hp;refine⟨_,rfl,a,rfl,⟨_,s1.seq (SqL.of ha)⟩,jK (K:=K) (a:=a) (xs:=xs) (λi σ H2=>∃(kvs:List (PI×V))(v2 v3 v4 v5 v6:Option V),σ=[some (.ref a),some (.ref p),v2,v3,v4,v5,v6]/\a9 H H2/\D2 H2 p kvs/\Tbl kvs (RM.kG (iWs W) i))
  ⟨[],none,none,none,none,none,rfl,s1,a8,Tbl.nil.iff λq=>(RM.BH _ q).symm⟩ (λi σ H2 _ ⟨_,_,_,_,_,_,_,s2,_⟩=>s2.seq (SqL.of ha)) ?_ ?_⟩
 ·intro i y σ H2 hi hI;refine ve6 σ hI λkvs v2 v3 v4 v5 v6 hY=>an3 hY λs2 hD tb=>?_;clear hI hY
  obtain⟨w,hw,b,ys,rfl,hb,wx⟩:=pairs_at pr hi;have hwm:=ba hw;have lw:=pairs_len wx;refine⟨_,rfl,b,ys,rfl,s2.seq (SqL.of hb),KU (K:=K) (a:=b) (xs:=ys) (λk σ H3=>∃(kvs:List (PI×V))(v3 v4 v5 v6:Option V),σ=[some (.ref a),some (.ref p),some (.ref b),v3,v4,v5,v6]/\a9 H H3/\D2 H3 p kvs/\Tbl kvs (nE (iWs W) i w k))
   ⟨kvs,v3,v4,v5,v6,rfl,s2,hD,tb.iff λq=>(RM.DW _ _ _ q).symm⟩ (λi σ H2 _ ⟨_,_,_,_,_,_,s2,_⟩=>s2.seq (SqL.of hb)) ?_ ?_⟩
  ·intro j z σ H3 Tt hj hI hT;refine ve5 σ hI λkvs v3 v4 v5 v6 hY=>an3 hY λs3 hD tb=>?_;clear hI hY
   obtain⟨c,hc,ca,rfl,yy⟩:=pairs_at wx hj;have hjl:j<ys.length:=(ar.mp hj).1;have sf:oU w.length j<w.length:=by unfold oU;split<;>omega
   obtain⟨e,he⟩:∃e,w[oU w.length j]? =some e:=⟨_,cc sf⟩
   obtain⟨ye,hye,ea,rfl,wd⟩:=gE wx he;have s4:a9 H (upd H3 Tt (.tup [.int (j:Nat),.ref ca])):=a9.trans s3 (a9.upd hT);have o1:=me w hwm c (ba hc);have o2:=me w hwm e (ba he);have nT:p≠Tt:=aI hD hT;have md:D2 (upd H3 Tt (.tup [.int (j:Nat),.ref ca])) p kvs:=by unfold D2;rw[aB nT];exact hD
   refine⟨Tt,_,rfl,SqT.of a8,rfl,_,_,rfl,_,_,rfl,rfl,_,rfl,_,rfl,_,_,rfl,rfl,b,_,_,_,rfl,rfl,s4.seq (SqL.of hb),LJ hjl (by unfold oU at hye;rw[lw];exact hye),?_⟩;generalize (upd H3 Tt (.tup [.int (j:Nat),.ref ca]))=H4 at s4 md ⊢;refine⟨_,rfl,ca,_,_,_,rfl,rfl,SqT.of (s4 _ _ yy),aQ Hd rfl,_,rfl,ea,_,_,_,rfl,rfl,SqT.of (s4 _ _ wd),aQ Hd rfl,rfl,_,rfl,?_⟩;refine cK (λcq=>?_) (λcq=>?_)
   ·have cq:c.1=e.1:=by simpa using cq
    refine⟨_,rfl,ca,_,_,_,rfl,rfl,SqT.of (s4 _ _ yy),aQ Hd rfl,_,rfl,ea,_,_,_,rfl,rfl,SqT.of (s4 _ _ wd),aQ Hd rfl,_,_,rfl,_,rfl,ca,_,_,_,rfl,rfl,SqT.of (s4 _ _ yy),aQ Hd rfl,_,rfl,ea,_,_,_,rfl,rfl,SqT.of (s4 _ _ wd),aQ Hd rfl,_,_,rfl,_,_,rfl,⟨by split<;>omega,by split<;>omega,by split<;>omega,by split<;>omega⟩,?_⟩;have Ba:(if e.2<c.2 then e.2 else c.2)=min c.2 e.2:=by split<;>omega
    have Bb:(if e.2>c.2 then e.2 else c.2)=max c.2 e.2:=by split<;>omega
    rw[Ba,Bb];refine qY (lo:=min c.2 e.2) (n:=(max c.2 e.2 - min c.2 e.2).toNat) (λm σ H5=>∃(kvs:List (PI×V))(v6:Option V),σ=[some (.ref a),some (.ref p),some (.ref b),some (.int (j:Nat)),some (.ref ca),some (.ref ea),v6]/\a9 H H5/\D2 H5 p kvs/\Tbl kvs (λq=>nE (iWs W) i w j q\/(q.1=c.1/\min c.2 e.2<=q.2/\q.2<min c.2 e.2+m)))
     ⟨kvs,v6,rfl,s4,md,tb.iff λq=>⟨.inl,λz=>z.elim id λz=>by omega⟩⟩ ?_ ?_
    ·intro m σ H5 hm hI;refine ve2 σ hI λkvs v6 hY=>an3 hY λs5 mm tb=>?_;clear hI hY
     refine⟨_,rfl,_,rfl,ca,_,_,_,rfl,rfl,SqT.of (s5 _ _ yy),aQ Hd rfl,_,rfl,(by show 2<=Fh;decide),λt ht=>?_⟩;have nt:p≠t:=aI mm ht;have hD6:D2 (upd H5 t (.tup [.int c.1,.int (min c.2 e.2+m)])) p kvs:=by unfold D2;rw[aB nt];exact mm
     have hl:kvs.length<=4225:=by
      rw[<- RM.NU];refine tb.len λq z=>?_
      rcases z with z|z
      ·exact RM.HH me hwm z
      ·exact RM.FO Hc Hc Hc Hc
     refine⟨p,_,rfl,D2.put (p:=(c.1,min c.2 e.2+m)) hD6 a8 (.bl true) (few hl),dM kvs (c.1,min c.2 e.2+m) (.bl true),_,rfl,a9.put (a9.trans s5 (a9.upd ht)) hp,a8,(tb.put _ _).iff λq=>?_⟩;constructor
     ·rintro((z|z)|z)
      ·exact .inl z
      ·exact .inr Hc
      ·subst z;exact .inr ⟨rfl,by simp only;omega,by simp only;omega⟩
     ·rintro(z|⟨z1,z2,z3⟩)
      ·exact .inl (.inl z)
      ·by_cases hq:q.2=min c.2 e.2+m
       ·exact .inr (Prod.ext z1 hq)
       ·exact .inl (.inr ⟨z1,z2,Hc⟩)
    ·intro σ H5 hI;refine ve2 σ hI λkvs v6 hY=>an3 hY λs5 mm tb=>?_;clear hI hY
     refine⟨kvs,_,_,_,_,rfl,s5,mm,tb.iff λq=>?_⟩;rw[uY];constructor
     ·rintro(z|⟨z1,z2,z3⟩)
      ·exact .inl z
      ·exact .inr ⟨c,e,hc,he,cq,z1.symm,z2,Hc⟩
     ·rintro(z|⟨c',e',h1,h2,z0,z1,z2,z3⟩)
      ·exact .inl z
      ·rw[hc]at h1;rw[he]at h2;cases h1;cases h2;exact .inr ⟨z1.symm,z2,Hc⟩
   ·have cq:¬c.1=e.1:=by simpa using cq
    refine⟨kvs,_,_,_,_,rfl,s4,md,tb.iff λq=>?_⟩;rw[uY];constructor
    ·exact .inl
    ·rintro(z|⟨c',e',h1,h2,z0,z1,z2,z3⟩)
     ·exact z
     ·rw[hc]at h1;rw[he]at h2;cases h1;cases h2;exact absurd z0 cq
  ·intro σ H3 hI;refine ve5 σ hI λkvs v3 v4 v5 v6 hY=>an3 hY λs3 hD tb=>?_;clear hI hY
   refine⟨kvs,_,_,_,_,_,rfl,s3,hD,tb.iff λq=>?_⟩;rw[lw];exact RM.HI hw q
 ·intro σ H2 hI;refine ve6 σ hI λkvs v2 v3 v4 v5 v6 hY=>an3 hY λs2 hD tb=>?_;clear hI hY
  refine⟨_,rfl,k p kvs H2 s2 hp hD λx y=>?_⟩;rw[tb.2,pairs_len pr];exact RM.DV W x y
abbrev s_cw:Ga:=(top 38)
theorem sc_cw:aN ["walks","feet","cells","y","inside","x"] ["walks"] (aH s_cw):=fS
noncomputable def sp_cw(K:Fg)(d:Adr):Sp:=λvs H Q _=>∃(v:V)(W:List Roof.Walk),vs=[v]/\LLT H v (iWs W)/\uE W/\∀a H',a9 H H'->H a=none->D2 H' a (CS (aW (dJ W)))->Q (.ref a) H'
theorem ok_cw(F:Fun K "cells_within" "cells_within" s_cw f fd)(T:Txt K mg base d)(D_far:aO P w K mg base CX0 1 "feet_across_rows" ["walks"] (sp_far K d)):bJ P w K mg base CX0 2 f fd ["walks"] (sp_cw K d):=by
 refine F.ok sc_cw (λvs _ _ _ h=>ve2 vs h λ_ _ _=>rfl) (λ_ _ _ _ H vs Q E hr h=>?_);have hu:=bG hr;refine ve2 vs h λv W hY=>an3 hY λhW ok k=>?_;clear hY h
 refine⟨_,(aA (psN (i:=1) sc_cw.nd (pfN D_far hr (a7 (pv 0) aC)))
   (aA (psN (i:=2) sc_cw.nd fH)
   (aA (c8 PassesOwn.never rfl (wV rfl T.range (a7 (cW T.jI rfl) aC)) (pgN (i:=3) sc_cw.nd) (aA (psN (i:=4) sc_cw.nd iM)
   (aF (c8 PassesOwn.never rfl (wV rfl T.range (a7 (cW T.jI rfl) aC)) (pgN (i:=5) sc_cw.nd) (aA (cJ (dU (yS hu (c9 (a7 (pv 5) (a7 (pv 3) aC))) (pv 1))) (aF (psN (i:=4) sc_cw.nd (P0 (pv 4)))) bF)
   (aF (cJ (lF (pv 4) (λ_=>rfl)) (aF (gV hu (pv 2) (c9 (a7 (pv 5) (a7 (pv 3) aC))) iM rfl)) bF)))))))
   (aF (aS (pv 2)))))),?_⟩
 refine⟨_,rfl,v,W,rfl,hW,ok,λf kvs H1 s1 hf hF Cv p hp=>?_⟩;generalize hFd:dJ W=F at Cv k;have s2:a9 H1 (upd H1 p (.dT [])):=a9.upd hp;refine⟨_,rfl,Hd,Hd,qY (lo:=0) (n:=64) (λy σ H2=>∃(v3 v4 v5:Option V),σ=[some v,some (.ref f),some (.ref p),v3,v4,v5]/\a9 H1 H2/\D2 H2 p (CS (j9 F y)))
  ⟨none,none,none,rfl,s2,a8⟩ ?_ ?_⟩
 ·intro y σ H2 hy hI;refine ve3 σ hI λv3 v4 v5 hY=>an2 hY λs3 hD=>?_;clear hI hY
  refine⟨_,rfl,Hd,Hd,qY (lo:=0) (n:=64) (λx σ H3=>∃(v5:Option V),σ=[some v,some (.ref f),some (.ref p),some (.int (0+(y:Nat))),some (.bl (if x=0 then false else bV F y (x - 1))),v5]/\a9 H1 H3/\D2 H3 p (CS (j9 F y++nM F y x)))
   ⟨v5,rfl,s3,by rw[show nM F y 0=[]from rfl,di];exact hD⟩ ?_ ?_⟩
  ·intro x σ H3 hx hI;refine ve1 σ hI λv5 hY=>an2 hY λs3 hD=>?_;clear hI hY
   refine⟨_,rfl,_,rfl,(by show 2<=Fh;decide),λt ht=>?_⟩;have nt:p≠t:=aI hD ht;have s4:a9 H1 (upd H3 t (.tup [.int (0+(x:Nat)),.int (0+(y:Nat))])):=a9.trans s3 (a9.upd ht);have md:D2 (upd H3 t (.tup [.int (0+(x:Nat)),.int (0+(y:Nat))])) p (CS (j9 F y++nM F y x)):=by unfold D2;rw[aB nt];exact hD
   refine⟨_,rfl,f,_,rfl,R2.get (p:=((0+(x:Int),0+(y:Int)):PI)) (D2.rd (s4 _ _ hF)) a8,_,rfl,?_⟩;generalize (upd H3 t (.tup [.int (0+(x:Nat)),.int (0+(y:Nat))]))=H4 at s4 md ⊢;have hk:(aP kvs ((0+(x:Int),0+(y:Int)):PI)).isSome=true↔F x y=true:=by rw[aV,zero_add,zero_add];exact Cv x y
   have An:=RM.B5 F y x;refine cK (λc=>?_) (λc=>?_)
   ·have c:=hk.mp c;refine⟨_,rfl,_,rfl,?_⟩;have eI:(!(if x=0 then false else bV F y (x - 1)))=bV F y x:=by rw[An,c];simp
    rw[eI];refine⟨_,rfl,_,rfl,?_⟩;refine cK (λci=>?_) (λci=>?_)
    ·refine⟨_,rfl,_,rfl,_,rfl,(by show 2<=Fh;decide),λt ht=>?_⟩;have nt:p≠t:=aI md ht;have mm:D2 (upd H4 t (.tup [.int (0+(x:Nat)),.int (0+(y:Nat))])) p (CS (j9 F y++nM F y x)):=by unfold D2;rw[aB nt];exact md
     refine⟨p,_,rfl,D2.put (p:=((0+(x:Int),0+(y:Int)):PI)) mm a8 (.bl true) ?_,some (.int (0+(x:Nat))),by simp,a9.put (a9.trans s4 (a9.upd ht)) hp,?_⟩
     ·rw[rF,aj];have h1:=qJ F y;have h2:=tW F y x;exact few (m:=5000) Hc
     ·unfold D2;rw[a8,zero_add,zero_add,show(((x:Int),(y:Int)):PI)=iP (x,y)from rfl,FT,mJ,ah ci,fk];intro z;rcases ax.mp z with z|z
      ·have:=wJ z;simp at this
      ·have:=tV z;simp at this
    ·refine⟨some (.int (0+(x:Nat))),by simp,s4,?_⟩;rw[mJ,af ci];exact md
   ·have c:F x y=false:=by
     have c:¬F x y=true:=λz=>c (hk.mpr z)
     simpa using c
    have eI:(if x=0 then false else bV F y (x - 1))=bV F y x:=by rw[An,c];simp
    rw[eI];refine⟨_,rfl,_,rfl,?_⟩;refine cK (λci=>?_) (λci=>?_)
    ·refine⟨_,rfl,_,rfl,_,rfl,(by show 2<=Fh;decide),λt ht=>?_⟩;have nt:p≠t:=aI md ht;have mm:D2 (upd H4 t (.tup [.int (0+(x:Nat)),.int (0+(y:Nat))])) p (CS (j9 F y++nM F y x)):=by unfold D2;rw[aB nt];exact md
     refine⟨p,_,rfl,D2.put (p:=((0+(x:Int),0+(y:Int)):PI)) mm a8 (.bl true) ?_,some (.int (0+(x:Nat))),by simp,a9.put (a9.trans s4 (a9.upd ht)) hp,?_⟩
     ·rw[rF,aj];have h1:=qJ F y;have h2:=tW F y x;exact few (m:=5000) Hc
     ·unfold D2;rw[a8,zero_add,zero_add,show(((x:Int),(y:Int)):PI)=iP (x,y)from rfl,FT,mJ,ah ci,fk];intro z;rcases ax.mp z with z|z
      ·have:=wJ z;simp at this
      ·have:=tV z;simp at this
    ·refine⟨some (.int (0+(x:Nat))),by simp,s4,?_⟩;rw[mJ,af ci];exact md
  ·intro σ H3 hI;refine ve1 σ hI λv5 hY=>an2 hY λs3 hD=>?_;clear hI hY
   refine⟨_,_,_,rfl,s3,?_⟩;rw[RM.tT];exact hD
 ·intro σ H2 hI;refine ve3 σ hI λv3 v4 v5 hY=>an2 hY λs3 hD=>?_;clear hI hY
  exact⟨_,rfl,k p H2 (a9.trans s1 s3) (s1.free hp) hD⟩
abbrev s_miap:Ga:=(top 40)
theorem sc_miap:aN ["cell","cells","side","near","far"] ["cell","cells"] (aH s_miap):=fS
noncomputable def sp_miap(K:Fg)(d:Adr):Sp:=λvs H Q _=>∃(v:V)(p:PI)(c:xv)(C:List (Nat×Nat)),vs=[v,.ref c]/\T2 H v p/\R2 H c (CS C)/\∀H',a9 H H'->Q (.bl (bB C p 0||(bB C p 1||(bB C p 2||bB C p 3)))) H'
theorem ok_miap(F:Fun K "meets_in_a_point" "meets_in_a_point" s_miap f fd)(T:Txt K mg base d)(D_b:aO P w K mg base CX0 2 "beyond" ["place","direction"] (sp_b K d))(D_lo:aO P w K mg base CX0 1 "left_of" ["direction"] (sp_lo K d)):bJ P w K mg base CX0 3 f fd ["cell","cells"] (sp_miap K d):=by
 refine F.ok sc_miap (λvs _ _ _ h=>ve4 vs h λ_ _ _ _ _=>rfl) (λ_ _ _ _ H vs Q E hr h=>?_);have hu:=bG hr;obtain⟨aALL_SIDES,bI,c_ALL_SIDES⟩:=T.bI;refine ve4 vs h λv p c C hY=>an3 hY λhv hC k=>?_;clear hY h
 have yes:∀i,i<4->bB C p i=true->(bB C p 0||(bB C p 1||(bB C p 2||bB C p 3)))=true:=by
  intro i hi e;have cs:i=0\/i=1\/i=2\/i=3:=Hc
  rcases cs with rfl|rfl|rfl|rfl<;>simp[e]
 refine⟨_,(aA (c8 PassesOwn.never rfl (lH (eE bI rfl)) (pgN (i:=2) sc_miap.nd) (aA (psN (i:=3) sc_miap.nd (pfN D_b hr (a7 (pv 0) (a7 (pv 2) aC))))
   (aA (psN (i:=4) sc_miap.nd (pfN D_b hr (a7 (pv 0) (a7 (pfN D_lo hr (a7 (pv 2) aC)) aC))))
   (aF (cJ (PW.pt (nP (dU (d4 hu (pv 3) (pv 1))) (nP (dU (d4 hu (pv 4) (pv 1))) (mK (dU (yS hu (pfN D_b hr (a7 (pv 3) (a7 (pfN D_lo hr (a7 (pv 2) aC)) aC))) (pv 1))))))) (aF (aS iM)) bF)))))
   (aF (aS iM))),?_⟩
 refine⟨_,rfl,⟨_,c_ALL_SIDES _⟩,kF (K:=K) (a:=aALL_SIDES) (xs:=[.int 0,.int 1,.int 2,.int 3]) (λi σ H2=>∃(v2 v3 v4:Option V),σ=[some v,some (.ref c),v2,v3,v4]/\a9 H H2/\∀j,j<i->bB C p j=false)
  ⟨none,none,none,rfl,(a9.refl _),by intro j hj;omega⟩ (λi σ H2 _ _=>c_ALL_SIDES H2) ?_ ?_⟩
 ·intro i x σ H2 hx hI;refine ve3 σ hI λv2 v3 v4 hY=>an2 hY λs2 old=>?_;clear hI hY
  obtain⟨hi,rfl⟩:=oQ hx;have zp:bB C p i=false->∀j,j<i+1->bB C p j=false:=λe j hj=>by
   by_cases h:j=i
   ·rw[h];exact e
   ·exact old j Hc
  refine⟨_,rfl,_,rfl,v,p,i,rfl,(hv.mono s2).c,hi,λn H3 s3 t3=>?_⟩;refine⟨_,rfl,_,rfl,_,rfl,v,p,(i+1)%4,by simp,(hv.mono (a9.trans s2 s3)).c,Hc,λf H4 s4 t4=>?_⟩;have zm:a9 H H4:=a9.trans s2 (a9.trans s3 s4);obtain⟨na,rfl,ql⟩:=t3.mono s4;obtain⟨fa,rfl,hfa⟩:=t4;refine⟨_,rfl,_,rfl,c,_,rfl,R2.get (p:=aK p i) (hC.mono zm) ql,_,rfl,?_⟩;rw[C1];refine cK (λc1=>?_) (λc1=>DJ ?_)
  ·refine⟨_,rfl,_,rfl,c,_,rfl,R2.get (p:=aK p ((i+1)%4)) (hC.mono zm) hfa,_,rfl,?_⟩;rw[C1];refine cK (λc2=>?_) (λc2=>DJ ?_)
   ·refine⟨_,rfl,_,rfl,_,rfl,.ref na,aK p i,(i+1)%4,by simp,T2.c ⟨na,rfl,ql⟩,Hc,λg H5 s5 t5=>?_⟩;obtain⟨ga,rfl,hga⟩:=t5;refine⟨_,rfl,c,_,rfl,R2.get (p:=aK (aK p i) ((i+1)%4)) (hC.mono (a9.trans zm s5)) hga,_,rfl,?_⟩;rw[C1];refine cK (λc3=>?_) (λc3=>?_)
    ·have e:bB C p i=true:=by unfold bB;rw[c1,c2,c3];rfl
     have h:=k H5 (a9.trans zm s5);rw[yes i hi e]at h;exact h
    ·exact⟨_,_,_,rfl,a9.trans zm s5,zp (by unfold bB;rw[not_true c3];simp)⟩
   ·exact⟨_,_,_,rfl,zm,zp (by unfold bB;rw[not_true c2];simp)⟩
  ·exact⟨_,_,_,rfl,zm,zp (by unfold bB;rw[not_true c1];simp)⟩
 ·intro σ H2 hI;refine ve3 σ hI λv2 v3 v4 hY=>an2 hY λs2 old=>?_;clear hI hY
  have h:=k H2 s2;rw[old 0 Hd,old 1 Hd,old 2 Hd,old 3 Hd]at h;exact h
abbrev s_ij:Ga:=(top 39)
theorem sc_ij:aN ["cells","waiting","reached","cell","side"] ["cells"] (aH s_ij):=fS
noncomputable def sp_ij(K:Fg)(d:Adr):Sp:=λvs H Q _=>∃(c:xv)(C:List (Nat×Nat))(c0:Nat×Nat)(r:List (Nat×Nat)),vs=[.ref c]/\R2 H c (CS C)/\C=c0::r/\C.Nodup/\C.length<=256/\∀H',a9 H H'->Q (.bl ((Roof.reach C C.length [c0] [c0]).length==C.length)) H'
theorem ok_ij(F:Fun K "is_joined" "is_joined" s_ij f fd)(T:Txt K mg base d)(D_b:aO P w K mg base CX0 2 "beyond" ["place","direction"] (sp_b K d)):bJ P w K mg base CX0 3 f fd ["cells"] (sp_ij K d):=by
 refine F.ok sc_ij (λvs _ _ _ h=>ve4 vs h λ_ _ _ _ _=>rfl) (λ_ _ _ _ H vs Q E hr h=>?_);have hu:=bG hr;obtain⟨aALL_SIDES,bI,c_ALL_SIDES⟩:=T.bI;refine ve4 vs h λc C c0 r hY=>an5 hY λhC eC nd hl k=>?_;clear hY h
 have hc0:c0∈C:=by rw[eC];exact ay
 have cl:(CS C).length=C.length:=rF C;refine⟨_,(aA (psN (i:=1) sc_ij.nd (JJ M8 (wY (E7 rfl) Hi T.list Hi (a7 (pv 0) aC)) MD (MC aJ)))
   (aA (psN (i:=2) sc_ij.nd fH)
   (aA (lG PassesOwn.never (uA (pv 1) (λ_=>rfl)) (aA (psN (i:=3) sc_ij.nd (CO PySem.F.plainAttrs_list PySem.F.slot_list_pop PySem.F.type_list_pop D5 (pv 1)))
   (aF (cJ (PW.pt (nP (dU (yS hu (pv 3) (pv 0))) (mK (dU (d4 hu (pv 3) (pv 2)))))) (aA (gV hu (pv 2) (pv 3) iM rfl)
   (aF (c8 PassesOwn.never rfl (lH (eE bI rfl)) (pgN (i:=4) sc_ij.nd) (aF (dC (jA PySem.F.plainAttrs_list PySem.F.slot_list_append PySem.F.type_list_append cQ (pv 1) (a7 (pfN D_b hr (a7 (pv 3) (a7 (pv 4) aC))) aC))))))) bF))))
   (aF (aS (yR lM (bP mZ Hi T.len PySem.boot_len (a7 (pv 2) aC)) (bP mZ Hi T.len PySem.boot_len (a7 (pv 0) aC)) (bU _))))))),?_⟩
 refine⟨_,rfl,c,_,rfl,hC,λl qs rj hk=>⟨_,rfl,l,qs,rfl,SqL.of a8,λp hp=>?_⟩⟩;have hk:=AZ hk;obtain⟨q0,qr,rfl,t0⟩:∃q0 qr,qs=q0::qr/\T2 H q0 (iP c0):=by
  rw[n4,eC,bh]at hk;cases hk with
  |cons t0 _=>exact⟨_,_,rfl,t0⟩
 rw[HW];have s1:a9 H (upd H l (.lst (q0::qr))):=a9.upd rj;have s2:a9 H (upd (upd H l (.lst (q0::qr))) p (.lst ((q0::qr).take 1))):=a9.trans s1 (a9.upd hp);have hp2:(upd (upd H l (.lst (q0::qr))) p (.lst ((q0::qr).take 1))) p=some (.lst [q0]):=a8;have fp:H p=none:=s1.free hp;generalize (upd (upd H l (.lst (q0::qr))) p (.lst ((q0::qr).take 1)))=H1 at s2 hp2 ⊢;refine λrd Af=>?_
 have npr:p≠rd:=aI hp2 Af;have frd:H rd=none:=s2.free Af;dsimp only[jJ,G7];refine kX (λσ H2=>∃(xs:List V)(ws:List PI)(kvs:List (PI×V))(v3 v4:Option V),σ=[some (.ref c),some (.ref p),some (.ref rd),v3,v4]/\a9 H H2/\H2 p=some (.lst xs)/\Paired (T2 H2) xs ws/\D2 H2 rd kvs/\Dfs C c0 (kvs.map (·.1)) ws/\xs.length<=1+4*kvs.length)
  (λ_ H2=>vR H2 p+5*(C.length+1 - n6 H2 rd))
  ⟨[q0],[iP c0],[],none,none,rfl,a9.trans s2 (a9.upd Af),by rw[aB npr];exact hp2,.cons (t0.mono (a9.trans s2 (a9.upd Af))) .nil,a8,Dfs.first,by simp⟩ ?_ (λ_ _ _ _ f ⟨v,e,k,t,q⟩=>⟨v,e,k,t,f _ _ q⟩)
 intro σ H2 hI;refine ve5 σ hI λxs ws kvs v3 v4 hY=>an6 hY λs3 h1 pr hD Ex len=>?_;clear hI hY
 have hlr:=Ex.len;rw[ai]at hlr;refine⟨_,rfl,_,.inl ⟨_,SqL.of h1,rfl⟩,?_⟩;refine cK (λcq=>?_) (λcq=>?_)
 ·have jw:xs≠[]:=by intro z;rw[z]at cq;cases cq
  have hpos:0<xs.length:=fy.mpr jw;obtain⟨y,hy⟩:∃y,xs[xs.length - 1]? =some y:=⟨_,cc Hc⟩
  obtain⟨q,hq,ty⟩:=pairs_at pr hy;have lxw:=pairs_len pr;have ews:ws=ws.dropLast++[q]:=by
   have:ws≠[]:=by intro z;rw[z]at hq;cases hq
   have e:=(jc this).symm;rw[List.getLast_eq_getElem]at e;have e2:ws[ws.length - 1]' Hc=q:=by have:=(ar.mp (by rw[<- lxw];exact hq:ws[ws.length - 1]? =some q)).2;exact this
   rw[e2]at e;exact e
  refine⟨_,rfl,.inl ⟨rfl,_,SqL.of h1⟩,p,xs,y,rfl,rfl,h1,hy,?_⟩;have s4:a9 H (upd H2 p (.lst xs.dropLast)):=a9.put s3 fp;have wy:Paired (T2 (upd H2 p (.lst xs.dropLast))) xs.dropLast ws.dropLast:=aM (λ_ _ z=>z.upd h1) (fJ pr);have md:D2 (upd H2 p (.lst xs.dropLast)) rd kvs:=by unfold D2;rw[aB npr.symm];exact hD
  have Bz:T2 (upd H2 p (.lst xs.dropLast)) y q:=ty.upd h1;have h14:(upd H2 p (.lst xs.dropLast)) p=some (.lst xs.dropLast):=a8;have ml:vR H2 p=xs.length:=mT h1;have mt:n6 H2 rd=kvs.length:=AV hD;generalize (upd H2 p (.lst xs.dropLast))=H4 at s4 wy md Bz h14 ⊢;rw[ews]at Ex;obtain⟨ya,rfl,xf⟩:=Bz;have ld:xs.dropLast.length=xs.length - 1:=gr ..;have skip:(q∉iW C\/q∈kvs.map (·.1))->∃(oq:List V)(ws:List PI)(zx:List (PI×V))(v3 v4':Option V),([some (.ref c),some (.ref p),some (.ref rd),some (.ref ya),v4]:List (Option V))=[some (.ref c),some (.ref p),some (.ref rd),v3,v4']/\a9 H H4/\H4 p=some (.lst oq)/\Paired (T2 H4) oq ws/\D2 H4 rd zx/\Dfs C c0 (zx.map (·.1)) ws/\oq.length<=1+4*zx.length:=
   λz=>⟨xs.dropLast,ws.dropLast,kvs,some (.ref ya),v4,rfl,s4,h14,wy,md,Ex.skip hc0 z,Hc⟩
  have less:vR H4 p+5*(C.length+1 - n6 H4 rd)<vR H2 p+5*(C.length+1 - n6 H2 rd):=by rw[ml,mt,mT h14,AV md,ld];omega
  refine⟨_,rfl,_,rfl,c,_,rfl,R2.get (p:=q) (hC.mono s4) xf,_,rfl,?_⟩;rw[C1];refine cK (λc1=>?_) (λc1=>DJ ⟨skip (.inl (by simpa using c1)),less⟩);have c1:q∈iW C:=by simpa using c1
  refine⟨_,rfl,_,rfl,rd,_,rfl,R2.get (p:=q) md.rd xf,_,rfl,?_⟩;refine cK (λc2=>?_) (λc2=>?_)
  ·have c2:q∉kvs.map (·.1):=λz=>by rw[(aV q kvs).mpr z]at c2;cases c2
   refine⟨_,rfl,_,rfl,rd,_,rfl,D2.put md xf (.bl true) (few (m:=256) Hc),?_⟩;rw[gI _ c2];have hd5:=Ex.take c1 c2;have xy:H4 rd=some (.dT (kvF k2 kvs)):=md;refine⟨_,rfl,⟨_,c_ALL_SIDES _⟩,kF (K:=K) (a:=aALL_SIDES) (xs:=[.int 0,.int 1,.int 2,.int 3]) (λi σ H2=>∃(oq:List V)(v4:Option V),σ=[some (.ref c),some (.ref p),some (.ref rd),some (.ref ya),v4]/\a9 H H2/\H2 p=some (.lst oq)/\Paired (T2 H2) oq (ws.dropLast++([aK q 0,aK q 1,aK q 2,aK q 3].take i))/\D2 H2 rd (kvs++[(q,V.bl true)])/\T2 H2 (.ref ya) q)
    ⟨xs.dropLast,v4,rfl,a9.put s4 frd,by rw[aB npr];exact h14,by rw[take_zero,di];exact aM (λ_ _ z=>z.sR xy (by intro _ z;cases z)) wy,a8,T2.sR ⟨ya,rfl,xf⟩ xy (by intro _ z;cases z)⟩ (λi σ H2 _ _=>c_ALL_SIDES H2) ?_ ?_⟩
   ·intro i x σ H5 hx hI;refine ve2 σ hI λoq v4 hY=>an5 hY λs5 h5 yh mm t5=>?_;clear hI hY
    obtain⟨hi,rfl⟩:=oQ hx;have l5:=pairs_len yh;rw[aj,bx,gr]at l5;refine⟨_,rfl,.inl ⟨rfl,_,SqL.of h5⟩,_,rfl,_,rfl,.ref ya,q,i,rfl,t5.c,hi,λn H6 s6 t6=>?_⟩;have h6:=s6 _ _ h5;refine⟨p,oq,n,rfl,rfl,h6,few (m:=2000) Hc,oq++[n],_,rfl,a9.put (a9.trans s5 s6) fp,a8,?_,by unfold D2;rw[aB npr.symm];exact s6 _ _ mm,(t5.mono s6).upd h6⟩;have e4:[aK q 0,aK q 1,aK q 2,aK q 3].take (i+1)=[aK q 0,aK q 1,aK q 2,aK q 3].take i++[aK q i]:=by
     have cs:i=0\/i=1\/i=2\/i=3:=Hc
     rcases cs with rfl|rfl|rfl|rfl<;>rfl
    rw[e4,<- fk];exact bC (t6.upd h6) (aM (λ_ _ z=>(z.mono s6).upd h6) yh)
   ·intro σ H5 hI;refine ve2 σ hI λoq v4 hY=>an5 hY λs5 h5 yh mm t5=>?_;clear hI hY
    have l5:=pairs_len yh;rw[aj,bx,gr]at l5;have l6:([aK q 0,aK q 1,aK q 2,aK q 3].length)=4:=rfl;have l7:([V.int 0,V.int 1,V.int 2,V.int 3].length)=4:=rfl;have Dy:=hd5.len;rw[aj,ai]at Dy;simp only[bo,fh]at Dy l5;refine⟨⟨oq,_,kvs++[(q,V.bl true)],_,_,rfl,s5,h5,yh,mm,by rw[cf];exact hd5,by rw[aj];simp only[bo,fh];omega⟩,?_⟩;rw[ml,mt,mT h5,AV mm,aj];simp only[bo,fh];omega
  ·have c2:q∈kvs.map (·.1):=by
    refine(aV q kvs).mp ?_;cases e:(aP kvs q).isSome with
    |true=>rfl
    |false=>rw[e]at c2;exact absurd rfl c2
   exact⟨skip (.inr c2),less⟩
 ·have e:xs=[]:=by
   cases xs with
   |nil=>rfl
   |cons _ _=>exact absurd rfl cq
  subst e;cases pr;refine⟨_,rfl,rd,_,rfl,hD.rd,_,rfl,c,_,rfl,hC.mono s3,rfl,?_⟩;have h:=k H2 s3;have e2:=Ex.done nd hc0;rw[ai]at e2;rw[<- e2]at h;refine cast (congrArg (λb=>Q (V.bl b) H2) ?_) h;rw[fM,fM,cl,df,decide_eq_true_iff,decide_eq_true_iff];constructor
  ·intro z;rw[z]
  ·intro z;have:=V.int.inj z;omega
abbrev s_ih:Ga:=(top 41)
theorem sc_ih:aN ["cells","cell"] ["cells"] (aH s_ih):=fS
theorem I0(F:Nat->Nat->Bool):(aW F).length<=4096:=by have:=qJ F 64;rw[RM.G9]at this;omega
theorem sJ(F:Nat->Nat->Bool):(aW F).Nodup:=(RM.nJ F).imp λ{a b} h e=>by rw[e,RM.cU]at h;omega
noncomputable def sp_ih(K:Fg)(d:Adr):Sp:=λvs H Q _=>∃(c:xv)(F:Nat->Nat->Bool),vs=[.ref c]/\D2 H c (CS (aW F))/\∀H',a9 H H'->Q (.bl (Roof.isHouse (aW F))) H'
theorem ok_ih(F:Fun K "is_house" "is_house" s_ih f fd)(T:Txt K mg base d)(D_miap:aO P w K mg base CX0 3 "meets_in_a_point" ["cell","cells"] (sp_miap K d))(D_ij:aO P w K mg base CX0 3 "is_joined" ["cells"] (sp_ij K d)):bJ P w K mg base CX0 4 f fd ["cells"] (sp_ih K d):=by
 refine F.ok sc_ih (λvs _ _ _ h=>ve2 vs h λ_ _ _=>rfl) (λ_ _ _ _ H vs Q E hr h=>?_);have hu:=bG hr;refine ve2 vs h λc F hY=>an2 hY λhC k=>?_;clear hY h
 have kc:=I0 F;have qk:=sJ F;have Dk:=RM.CM (l:=aW F);have wb:=@uT F;generalize aW F=C at*;have ekl:(kvF k2 (CS C)).length=C.length:=by rw[fM,rF]
 refine⟨_,(aA (cJ (PW.pt (A6 (bO JS (bP mZ Hi T.len PySem.boot_len (a7 (pv 0) aC)) aJ (bU _)) (u7 (bO uD (bP mZ Hi T.len PySem.boot_len (a7 (pv 0) aC)) (cW T.zA rfl) (bU _))))) (aF (aS iM)) bF)
   (aA (cJ (lF (bP (QE rfl) Hi T.any Hi (a7 (MK (JK (own:=[("cell",1)]) rfl sc_ih.nd (mL (pv 0)) (gH (by first|decide+kernel|kernel_rfl)) (λ_ _ _ _ _=>(pgN (i:=1) sc_ih.nd)) (λ_ _ _ _ _=>yO) (λ_ _ _ _ _=>(pfN D_miap hr (a7 (pv 1) (a7 (pv 0) aC)))))) aC)) (λ_=>rfl)) (aF (aS iM)) bF)
   (aF (aS (pfN D_ij hr (a7 (pv 0) aC)))))),?_⟩
 refine⟨_,rfl,c,_,rfl,hC.rd,_,_,rfl,rfl,_,rfl,?_⟩;rw[ekl];refine cK (λc1=>DI ?_) (λc1=>?_)
 ·have c1:C=[]:=fm (by have:=bq c1;omega);have h:=k H (a9.refl _);rw[c1,RM.B1]at h;exact h
 have c1:¬C.length<1:=λz=>c1 (decide_eq_true Hc)
 obtain⟨c0,r,eC⟩:∃c0 r,C=c0::r:=by
  cases C with
  |nil=>simp at c1
  |cons c0 r=>exact⟨c0,r,rfl⟩
 have wb:=wb eC;refine⟨_,rfl,c,_,rfl,hC.rd,_,_,rfl,rfl,_,rfl,?_⟩;rw[ekl];refine cK (λc2=>?_) (λc2=>?_)
 ·have c2:256<C.length:=by have:=bq c2;omega
  have h:=k H (a9.refl _);rw[wb,decide_eq_false Hc]at h;exact h
 have c2:C.length<=256:=by apply Nat.le_of_not_lt;intro z;exact c2 (decide_eq_true Hc)
 refine⟨c,_,hC,trivial,λod=>⟨_,rfl,c,od,rfl,.inr ⟨_,a8,λD hD=>N5 (d:=c) (od:=od) (kvs:=kvF k2 (CS C))
  (λi H2=>a9 (upd H c (.frz od (.dT (kvF k2 (CS C))))) H2/\H2 D=some (.lst ((((iW C).take i).map λp=>bB C p 0||(bB C p 1||(bB C p 2||bB C p 3))).map V.bl))) ⟨a9.upd hD,a8⟩ (λi H2 ⟨s2,_⟩=>s2 _ _ a8) ?_ ?_⟩⟩⟩
 ·rintro i kk vv q H2 hi hq ⟨s2,h2⟩;obtain⟨p,hp,rfl⟩:=uR hi;have hp2:(iW C)[i]? =some p:=by have:=congrArg (Option.map Prod.fst) hp;rw[<- bc,n4]at this;exact this
  have sj:i<C.length:=by have:=(ar.mp hp2).1;simpa[iW]using this
  refine⟨rfl,_,rfl,_,rfl,.ref q,p,c,C,rfl,⟨q,rfl,hq⟩,.inr ⟨od,s2 _ _ a8⟩,λH3 s3=>⟨_,s3 _ _ h2,?_,a9.put (a9.trans s2 s3) hD,?_⟩⟩
  ·rw[ai,ai,bx];exact few (m:=256) Hc
  ·rw[a8,take_snoc hp2];simp
 ·rintro H2 ⟨s2,h2⟩;have nD:D≠c:=(aI (H:=upd H c (.frz od (.dT (kvF k2 (CS C))))) a8 hD).symm;refine⟨s2 _ _ a8,D,_,rfl,SqL.of (by rw[aB nD];exact h2),_,rfl,?_⟩;have s3:a9 H (upd H2 c (.dT (kvF k2 (CS C)))):=a9.unlock hC s2;have el:(kvF k2 (CS C)).length=(iW C).length:=by rw[ekl];simp[iW]
  rw[el,bf (aw _)];have ea:(((iW C).map λp=>bB C p 0||(bB C p 1||(bB C p 2||bB C p 3))).any id)=Ge C:=by rw[Dk,any_map];rfl
  rw[ea];refine cK (λc3=>?_) (λc3=>?_)
  ·have h:=k _ s3;rw[wb,c3]at h;simp at h;exact h
  ·refine⟨_,rfl,c,C,c0,r,rfl,.inl a8,eC,qk,c2,λH3 s4=>?_⟩;have h:=k _ (a9.trans s3 s4);rw[wb,not_true c3,decide_eq_true c2]at h;simpa using h
abbrev s_haw:Ga:=(top 42)
theorem sc_haw:aN ["cells","headings","cell","side"] ["cells"] (aH s_haw):=fS
noncomputable def sp_haw(K:Fg)(d:Adr):Sp:=λvs H Q _=>∃(c:xv)(C:List (Nat×Nat)),vs=[.ref c]/\D2 H c (CS C)/\C.length<=256/\∀h H',a9 H H'->H h=none->D2 H' h (IV (d7 (iW C)))->Q (.ref h) H'
theorem ok_haw(F:Fun K "headings_along_walls" "headings_along_walls" s_haw f fd)(T:Txt K mg base d)(D_b:aO P w K mg base CX0 2 "beyond" ["place","direction"] (sp_b K d))(D_ss:aO P w K mg base CX0 2 "side_start" ["square","side"] (sp_ss K d))(D_lo:aO P w K mg base CX0 1 "left_of" ["direction"] (sp_lo K d)):bJ P w K mg base CX0 3 f fd ["cells"] (sp_haw K d):=by
 refine F.ok sc_haw (λvs _ _ _ h=>ve2 vs h λ_ _ _=>rfl) (λ_ _ _ _ H vs Q E hr h=>?_);have hu:=bG hr;obtain⟨aALL_SIDES,bI,c_ALL_SIDES⟩:=T.bI;refine ve2 vs h λc C hY=>an3 hY λhC hl k=>?_;clear hY h
 refine⟨_,(aA (psN (i:=1) sc_haw.nd fH)
   (aA (jV (c8 PassesOwn.never rfl (mL (pv 0)) (pgN (i:=2) sc_haw.nd) (aF (c8 PassesOwn.never rfl (lH (eE bI rfl)) (pgN (i:=3) sc_haw.nd) (aF (cJ (dU (d4 hu (pfN D_b hr (a7 (pv 2) (a7 (pv 3) aC))) (pv 0))) (aF (gV hu (pv 1) (pfN D_ss hr (a7 (pv 2) (a7 (pv 3) aC))) (pfN D_lo hr (a7 (pv 3) aC)) rfl)) bF))))))
   (aF (aS (pv 1))))),?_⟩
 refine λh hh=>?_
 have nc:c≠h:=aI hC hh;have lg:∀od,(upd H c (.frz od (.dT (kvF k2 (CS C))))) h=none:=λod=>fV hC hh
 refine⟨c,.dT (kvF k2 (CS C)),by rw[aB nc];exact hC,trivial,λod=>⟨_,rfl,c,od,rfl,.inr ⟨_,a8,lV (d:=c) (od:=od) (kvs:=kvF k2 (CS C))
  (λi σ H2=>∃(v2 v3:Option V),σ=[some (.ref c),some (.ref h),v2,v3]/\a9 (upd H c (.frz od (.dT (kvF k2 (CS C))))) H2/\D2 H2 h (IV (cO [] (dE (iW C) i))))
  ⟨none,none,rfl,a9.both (a9.upd hh),by unfold D2;rw[aB nc.symm,a8];rfl⟩ (λi σ H2 ⟨_,_,_,s2,_⟩=>s2 _ _ a8) ?_ ?_⟩⟩⟩
 ·intro i kk vv q σ H2 hi hq hI;refine ve2 σ hI λv2 v3 hY=>an2 hY λs2 hD=>?_;clear hI hY
  obtain⟨p,hp,rfl⟩:=uR hi;have hp2:(iW C)[i]? =some p:=by have:=congrArg (Option.map Prod.fst) hp;rw[<- bc,n4]at this;exact this
  have sj:i<C.length:=by have:=(ar.mp hp2).1;simpa[iW]using this
  refine⟨_,rfl,⟨_,c_ALL_SIDES _⟩,kF (K:=K) (a:=aALL_SIDES) (xs:=[.int 0,.int 1,.int 2,.int 3]) (λj σ H3=>∃(v3:Option V),σ=[some (.ref c),some (.ref h),some (.ref q),v3]/\a9 (upd H c (.frz od (.dT (kvF k2 (CS C))))) H3/\T2 H3 (.ref q) p/\D2 H3 h (IV (cO [] (dE (iW C) i++cT (iW C) p j))))
   ⟨v3,rfl,s2,⟨q,rfl,hq⟩,by rw[show cT (iW C) p 0=[]from rfl,di];exact hD⟩ (λi σ H2 _ _=>c_ALL_SIDES H2) ?_ ?_⟩
  ·intro j x σ H3 hx hI;refine ve1 σ hI λv3 hY=>an3 hY λs3 tq hD=>?_;clear hI hY
   obtain⟨hj,rfl⟩:=oQ hx;refine⟨_,rfl,_,rfl,.ref q,p,j,rfl,tq.c,hj,λn H4 s4 t4=>?_⟩;obtain⟨na,rfl,ql⟩:=t4;refine⟨_,rfl,c,_,rfl,R2.get (kvs:=CS C) (p:=aK p j) (.inr ⟨od,(a9.trans s3 s4) _ _ a8⟩) ql,_,rfl,?_⟩;rw[C1];have An:=RM.sT (iW C) p hj;refine cK (λc1=>?_) (λc1=>?_)
   ·have c1:¬aK p j∈iW C:=by simpa using c1
    rw[af c1]at An;refine⟨_,rfl,_,rfl,_,rfl,_,rfl,_,rfl,.ref q,p,j,rfl,(tq.mono s4).c,hj,λn H5 s5 t5=>?_⟩;obtain⟨ma,rfl,hma⟩:=t5;have mm:D2 H5 h (IV (cO [] (dE (iW C) i++cT (iW C) p j))):=s5 _ _ (s4 _ _ hD);refine⟨h,_,rfl,D2.put mm hma _ ?_,_,rfl,a9.put (a9.trans s3 (a9.trans s4 s5)) (lg od),T2.sR (tq.mono (a9.trans s4 s5)) mm (by intro _ z;cases z),?_⟩
    ·rw[fX];have h1:=hO (dE (iW C) i++cT (iW C) p j) [];have h2:=RM.B9 (iW C) i;have h3:=RM.m6 (iW C) p j;rw[aj]at h1;simp only[fh]at h1;exact few (m:=2000) Hc
    ·unfold D2;rw[a8,vI,An,<- fk,vG];rfl
   ·have c1:aK p j∈iW C:=by simpa using c1
    rw[ah c1,di]at An;exact⟨_,rfl,a9.trans s3 s4,tq.mono s4,by rw[An];exact s4 _ _ hD⟩
  ·intro σ H3 hI;refine ve1 σ hI λv3 hY=>an3 hY λs3 tq hD=>?_;clear hI hY
   refine⟨_,_,rfl,s3,?_⟩;rw[RM.pH hp2];exact hD
 ·intro σ H2 hI;refine ve2 σ hI λv2 v3 hY=>an2 hY λs2 hD=>?_;clear hI hY
  have el:(kvF k2 (CS C)).length=(iW C).length:=by rw[fM,rF];simp[iW]
  rw[el,RM.BA]at hD;exact⟨s2 _ _ a8,_,rfl,k h _ (a9.unlock hC s2) hh (by unfold D2;rw[aB nc.symm];exact hD)⟩
abbrev s_wf:Ga:=(top 43)
theorem sc_wf:aN ["start","headings","walked","corners","point","came","heading"] ["start","headings","walked"] (aH s_wf):=fS
noncomputable def sp_wf(K:Fg)(d:Adr):Sp:=λvs H Q _=>∃(v:V)(hA wA:xv)(hs:List (PI×Int))(wk:List PI)(s0:PI)(f:List (PI×Int)),vs=[v,.ref hA,.ref wA]/\T2 H v s0/\R2 H hA (IV hs)/\D2 H wA (KS wk)/\hA≠wA/\nK (aP hs) s0 f s0/\f≠[]/\(f.map (·.1)).Nodup/\(∀y∈f.map (·.1),y∉wk)/\wk.length+f.length<=5000/\∀r H',But wA H H'->H r=none->LT H' (.ref r) (bL none f)->D2 H' wA (KS (wk++f.map (·.1)))->Q (.ref r) H'
theorem ok_wf(F:Fun K "walk_from" "walk_from" s_wf f fd)(T:Txt K mg base d)(D_b:aO P w K mg base CX0 2 "beyond" ["place","direction"] (sp_b K d)):bJ P w K mg base CX0 3 f fd ["start","headings","walked"] (sp_wf K d):=by
 refine F.ok sc_wf (λvs _ _ _ h=>ve7 vs h λ_ _ _ _ _ _ _ _=>rfl) (λ_ _ _ _ H vs Q E hr h=>?_);have hu:=bG hr;refine ve7 vs h λv hA wA hs wk s0 f hY=>W9 hY λtv hH hW nHW Ck fne fnd fnew Er k=>?_;clear hY h
 have hHb:∀H',But wA H H'->R2 H' hA (IV hs):=λH' e=>by
  rcases hH with h|⟨o,h⟩
  ·exact .inl (e _ _ nHW h)
  ·exact .inr ⟨o,e _ _ nHW h⟩
 refine⟨_,(aA (psN (i:=3) sc_wf.nd (fF aC))
   (aA (psN (i:=4) sc_wf.nd (pv 0))
   (aA (psN (i:=5) sc_wf.nd P1)
   (aA (lG PassesOwn.never (dU (d4 hu (pv 4) (pv 2))) (aA (gV hu (pv 2) (pv 4) iM rfl)
   (aA (psN (i:=6) sc_wf.nd (eG hu (pv 1) (pv 4) (λ_ _=>rfl)))
   (aA (cJ (bO EU (pv 6) (pv 5) (bU _)) (aF (dC (jA PySem.F.plainAttrs_list PySem.F.slot_list_append PySem.F.type_list_append cQ (pv 3) (a7 (pv 4) aC)))) bF)
   (aA (psN (i:=5) sc_wf.nd (pv 6))
   (aF (psN (i:=4) sc_wf.nd (pfN D_b hr (a7 (pv 4) (a7 (pv 6) aC))))))))))
   (aF (aS (pv 3))))))),?_⟩
 refine⟨cn _,λr Ag=>⟨_,rfl,?_⟩⟩;have zq:r≠wA:=(aI hW Ag).symm;dsimp only[jJ,G7];refine kX (λσ H2=>∃(g rest:List (PI×Int))(q:PI)(vq:V)(came:Option Int)(xs:List V)(cs:List PI)(v6:Option V),σ=[some v,some (.ref hA),some (.ref wA),some (.ref r),some vq,some (match came with|none=>V.non|some h=>V.int h),v6]/\f=g++rest/\nK (aP hs) q rest s0/\T2 H2 vq q/\But wA H H2/\H2 r=some (.lst xs)/\Paired (T2 H2) xs cs/\cs++bL came rest=bL none f/\cs.length<=g.length/\D2 H2 wA (KS (wk++g.map (·.1))))
  (λ_ H2=>10000 - n6 H2 wA)
  ⟨[],f,s0,v,none,[],[],none,rfl,rfl,Ck,tv.mono (a9.upd Ag),a9.but (a9.upd Ag),a8,.nil,rfl,aw _,by unfold D2;rw[aB zq.symm,je,di];exact hW⟩ ?_ (λ_ _ _ _ f ⟨v,e,w,e2,a,o,ex,g,b,eb,q⟩=>⟨v,e,w,e2,a,o,ex,g,b,eb,f _ _ q⟩)
 intro σ H2 hI;refine ve8 σ hI λg rest q vq came xs cs v6 hY=>an9 hY λhf pq hY2 b2 h2 pr Br lcs hD=>?_;clear hI hY
 obtain⟨qa,rfl,rh⟩:=hY2;refine⟨_,rfl,_,rfl,wA,_,rfl,R2.get (p:=q) hD.rd rh,_,rfl,?_⟩;rw[LO];cases pq with
 |nil=>
  have me:s0∈wk++g.map (·.1):=by
   rw[di]at hf;subst hf;refine bg _ ?_;cases Ck with
   |nil=>exact absurd rfl fne
   |cons _ _ _ _=>simp
  refine cK (λc1=>?_) (λc1=>?_)
  ·exact absurd me (mQ c1)
  ·rw[di]at hf;subst hf;have Br:cs=bL none f:=by rw[<- Br];simp[bL]
   subst Br;exact⟨_,rfl,k r H2 b2 Ag ⟨r,xs,rfl,h2,pr⟩ hD⟩
 | @cons _ _ hd rest' hq h0 h4 pn=>
  have xh:q∉wk++g.map (·.1):=by
   intro z;rcases ax.mp z with z|z
   ·exact fnew q (by rw[hf];simp) z
   ·rw[hf,cf,da]at fnd;exact fnd.2.2 q z q (by simp) rfl
  refine cK (λc1=>?_) (λc1=>absurd (jE c1) xh);have kc:(wk++g.map (·.1)).length<=5000:=by rw[hf]at Er;simp only[aj,bo,ai]at Er ⊢;omega
  refine⟨_,rfl,_,rfl,wA,_,rfl,D2.put hD rh (.bl true) (by rw[EE];exact few kc),?_⟩;rw[O5 xh];have hD':H2 wA=some (.dT (kvF k2 (KS (wk++g.map (·.1))))):=hD;have Be:T2 (upd H2 wA (.dT (kvF k2 (KS (wk++g.map (·.1)++[q]))))) (.ref qa) q:=T2.sR ⟨qa,rfl,rh⟩ hD' (by intro _ z;cases z);have b3:But wA H (upd H2 wA (.dT (kvF k2 (KS (wk++g.map (·.1)++[q]))))):=b2.here;have h3:(upd H2 wA (.dT (kvF k2 (KS (wk++g.map (·.1)++[q]))))) r=some (.lst xs):=by rw[aB zq];exact h2
  have pf:Paired (T2 (upd H2 wA (.dT (kvF k2 (KS (wk++g.map (·.1)++[q])))))) xs cs:=aM (λ_ _ z=>z.sR hD' (by intro _ z;cases z)) pr;have mz:D2 (upd H2 wA (.dT (kvF k2 (KS (wk++g.map (·.1)++[q]))))) wA (KS (wk++(g++[(q,hd)]).map (·.1))):=by unfold D2;rw[a8];simp
  have m2:n6 H2 wA=(wk++g.map (·.1)).length:=by rw[AV hD,EE]
  generalize (upd H2 wA (.dT (kvF k2 (KS (wk++g.map (·.1)++[q])))))=H3 at Be b3 h3 pf mz ⊢;obtain⟨_,e,rh⟩:=Be;cases e;have dg:mG H3 hA (.ref qa) (some (.int hd)):=by have dg:=(hHb H3 b3).get (p:=q) rh;rw[dN,hq]at dg;exact dg
  refine⟨_,rfl,_,rfl,hA,_,rfl,dg,?_⟩;have Dg:f=g++[(q,hd)]++rest':=by rw[hf];simp
  have fin:∀(xs:List V)(cs:List PI)(H4:Hp),But wA H H4->H4 r=some (.lst xs)->Paired (T2 H4) xs cs->T2 H4 (.ref qa) q->D2 H4 wA (KS (wk++(g++[(q,hd)]).map (·.1)))->cs++bL (some hd) rest'=bL none f->cs.length<=g.length+1->∀(vn:V)(H5:Hp),a9 H4 H5->T2 H5 vn (aK q hd.toNat) ->
   (∃(g rest:List (PI×Int))(q:PI)(vq:V)(came:Option Int)(xs:List V)(cs:List PI)(v6:Option V),([some v,some (.ref hA),some (.ref wA),some (.ref r),some vn,some (.int hd),some (.int hd)]:List (Option V))=[some v,some (.ref hA),some (.ref wA),some (.ref r),some vq,some (match came with|none=>V.non|some h=>V.int h),v6]/\f=g++rest/\nK (aP hs) q rest s0/\T2 H5 vq q/\But wA H H5/\H5 r=some (.lst xs)/\Paired (T2 H5) xs cs/\cs++bL came rest=bL none f/\cs.length<=g.length/\D2 H5 wA (KS (wk++g.map (·.1))))/\10000 - n6 H5 wA<10000 - n6 H2 wA:=by
   intro xs cs H4 b4 h4 wy t4 md e4 l4 vn H5 s5 t5;refine⟨⟨g++[(q,hd)],rest',_,vn,some hd,xs,cs,_,rfl,Dg,pn,t5,b4.trans (a9.but s5),s5 _ _ h4,aM (λ_ _ z=>z.mono s5) wy,e4,by rw[aj];exact l4,s5 _ _ md⟩,?_⟩;have mm:D2 H5 wA (KS (wk++(g++[(q,hd)]).map (·.1))):=s5 _ _ md;rw[m2,AV mm,EE];simp only[aj,ai,bo,fh]at kc ⊢;omega
  have lcs5:cs.length<=5000:=by rw[aj,ai]at kc;omega
  have lx:=pairs_len pf;cases came with
  |none=>refine⟨_,rfl,_,rfl,rfl,_,rfl,DI ?_⟩;refine⟨_,rfl,.inl ⟨rfl,_,SqL.of h3⟩,_,rfl,r,xs,.ref qa,rfl,rfl,h3,few (m:=5000) Hc,?_⟩;refine⟨_,rfl,_,rfl,_,rfl,.ref qa,q,hd.toNat,congrArg (λz=>[V.ref qa,V.int z]) (dq h0).symm,T2.c ((T2.upd (D:=r) ⟨qa,rfl,rh⟩ h3)),Hc,λvn H5 s5 t5=>?_⟩;refine fin (xs++[.ref qa]) (cs++[q]) _ (b3.put Ag) a8 (bC (T2.upd (D:=r) ⟨qa,rfl,rh⟩ h3) (aM (λ_ _ z=>z.upd h3) pf)) (T2.upd (D:=r) ⟨qa,rfl,rh⟩ h3) (by unfold D2;rw[aB zq.symm];exact mz) ?_ (by rw[aj];simp;omega) vn H5 s5 t5;rw[<- Br];simp[bL]
  |some cm=>
   refine⟨_,rfl,_,rfl,rfl,_,rfl,?_⟩;refine cK (λc2=>?_) (λc2=>?_)
   ·have c2:¬hd=cm:=by intro z;rw[z]at c2;simp at c2
    refine⟨_,rfl,.inl ⟨rfl,_,SqL.of h3⟩,_,rfl,r,xs,.ref qa,rfl,rfl,h3,few (m:=5000) Hc,?_⟩;refine⟨_,rfl,_,rfl,_,rfl,.ref qa,q,hd.toNat,congrArg (λz=>[V.ref qa,V.int z]) (dq h0).symm,T2.c ((T2.upd (D:=r) ⟨qa,rfl,rh⟩ h3)),Hc,λvn H5 s5 t5=>?_⟩;refine fin (xs++[.ref qa]) (cs++[q]) _ (b3.put Ag) a8 (bC (T2.upd (D:=r) ⟨qa,rfl,rh⟩ h3) (aM (λ_ _ z=>z.upd h3) pf)) (T2.upd (D:=r) ⟨qa,rfl,rh⟩ h3) (by unfold D2;rw[aB zq.symm];exact mz) ?_ (by rw[aj];simp;omega) vn H5 s5 t5;rw[<- Br];simp[bL,c2]
   ·have c2:hd=cm:=by
     have:decide (V.int hd=V.int cm)=true:=by
      cases e:decide (V.int hd=V.int cm)with
      |true=>rfl
      |false=>rw[e]at c2;exact absurd rfl c2
     exact V.int.inj (bq this)
    subst c2;refine⟨_,rfl,_,rfl,_,rfl,.ref qa,q,hd.toNat,congrArg (λz=>[V.ref qa,V.int z]) (dq h0).symm,T2.c ⟨qa,rfl,rh⟩,Hc,λvn H5 s5 t5=>?_⟩;refine fin xs cs _ b3 h3 pf ⟨qa,rfl,rh⟩ mz ?_ Hc vn H5 s5 t5;rw[<- Br];simp[bL]
abbrev s_wr:Ga:=(top 44)
theorem sc_wr:aN ["cells","headings","walks","walked","point"] ["cells"] (aH s_wr):=fS
theorem tL{K:Fg}{d:Adr}{H:Hp}{as:List xv}{ps:List PI}(h:Paired (T2 H) (as.map V.ref) ps):∀a∈as,∀H2,a9 H H2->sp_br K d [.ref a] H2 (λr H3=>a9 H2 H3/\∃b,r=.ref b/\H3 b=some (.tup ((gJ H a).map V.int))) E0:=by intro a ha H2 s2;have t:=(AD h a ha).mono s2;refine⟨.ref a,pairOf H a,rfl,t.c,λr H3 s3 ⟨b,e,hb⟩=>⟨s3,b,e,hb⟩⟩
noncomputable def sp_wr(K:Fg)(d:Adr):Sp:=λvs H Q _=>∃(c:xv)(C:List (Nat×Nat)),vs=[.ref c]/\D2 H c (CS C)/\C.length<=256/\Ge C=false/\∀r H',a9 H H'->LLT H' (.ref r) (iWs (Roof.walksOf C))->Q (.ref r) H'
theorem ok_wr(F:Fun K "walks_round" "walks_round" s_wr f fd)(T:Txt K mg base d)(D_haw:aO P w K mg base CX0 3 "headings_along_walls" ["cells"] (sp_haw K d))(D_br:aO P w K mg base CX0 1 "by_row" ["place"] (sp_br K d))(D_wf:aO P w K mg base CX0 3 "walk_from" ["start","headings","walked"] (sp_wf K d)):bJ P w K mg base CX0 5 f fd ["cells"] (sp_wr K d):=by
 refine F.ok sc_wr (λvs _ _ _ h=>ve2 vs h λ_ _ _=>rfl) (λ_ _ _ _ H vs Q E hr h=>?_);have hu:=bG hr;refine ve2 vs h λc C hY=>an4 hY λhC hl tu k=>?_;clear hY h
 refine⟨_,(aA (psN (i:=1) sc_wr.nd (pfN D_haw hr (a7 (pv 0) aC)))
   (aA (psN (i:=2) sc_wr.nd (fF aC))
   (aA (psN (i:=3) sc_wr.nd fH)
   (aA (c8 PassesOwn.never rfl (fE (JI rfl D_br (hm hr) rfl T.sorted rfl (a7 (pv 1) aC))) (pgN (i:=4) sc_wr.nd) (aF (cJ (dU (d4 hu (pv 4) (pv 3))) (aF (dC (jA PySem.F.plainAttrs_list PySem.F.slot_list_append PySem.F.type_list_append cQ (pv 2) (a7 (pfN D_wf hr (a7 (pv 4) (a7 (pv 1) (a7 (pv 3) aC)))) aC)))) bF)))
   (aF (aS (pv 2))))))),?_⟩
 refine⟨_,rfl,c,C,rfl,hC,hl,λh H1 s1 hh hH=>?_⟩;refine⟨cn _,λw hw=>λwk hwk=>?_⟩;have nhw:w≠wk:=aI a8 hwk;have fwk:H1 wk=none:=(a9.upd hw).free hwk;have s2:a9 H1 (upd (upd H1 w (.lst [])) wk (.dT [])):=a9.trans (a9.upd hw) (a9.upd hwk);refine⟨_,rfl,h,_,rfl,R2.mono s2 hH.rd,λas hk=>?_⟩;have vz:=AZ hk;rw[tF]at vz;refine⟨gJ (upd (upd H1 w (.lst [])) wk (.dT [])),λa _=>by unfold gJ;exact jn _ _,tL vz,λL out H2 hL pm pw s3 h2=>?_⟩;obtain⟨ys,pr,yp,yr⟩:=lB vz pm pw;have ey:=RM.vN tu yp yr;subst ey;have nLw:L≠w:=(aI (by rw[aB nhw,a8]) hL).symm;have nLk:L≠wk:=(aI a8 hL).symm;have prT:∀{i:Nat}{v:V},(out.map V.ref)[i]? =some v->∃q,(c6 C)[i]? =some q/\T2 H1 v (iP q)\/(c6 C)[i]? =some q/\T2 (upd (upd H1 w (.lst [])) wk (.dT [])) v (iP q):=λ{i v} hv=>by
  obtain⟨z,hz,t⟩:=pairs_at pr hv;unfold iW at hz;rw[bc]at hz;cases e:(c6 C)[i]? with
  |none=>rw[e]at hz;cases hz
  |some q=>rw[e]at hz;cases hz;exact⟨q,.inr ⟨rfl,t⟩⟩
 have w2:(upd (upd H1 w (.lst [])) wk (.dT [])) w=some (.lst []):=by rw[aB nhw,a8]
 have k2':(upd (upd H1 w (.lst [])) wk (.dT [])) wk=some (.dT []):=a8;generalize hHa:(upd (upd H1 w (.lst [])) wk (.dT []))=Ha at*;refine⟨L,rfl,⟨_,SqL.of h2⟩,jK (K:=K) (a:=L) (xs:=out.map V.ref) (λi σ H3=>∃(seen:List Fu)(ws:List Roof.Walk)(xs:List V)(v4:Option V),σ=[some (.ref c),some (.ref h),some (.ref w),some (.ref wk),v4]/\a9 H1 H3/\(∀a p,T2 Ha (.ref a) p->T2 H3 (.ref a) p)/\H3 L=some (.lst (out.map V.ref))/\H3 w=some (.lst xs)/\Paired (λv z=>∃b,v=V.ref b/\b≠w/\LT H3 (.ref b) z) xs (iWs ws)/\D2 H3 wk (KS (iW seen))/\fQ C seen i ws/\ws.length<=i)
  ⟨[],[],[],none,rfl,a9.trans s2 s3,λa p t=>t.mono s3,h2,s3 _ _ w2,.nil,s3 _ _ k2',fQ.start C,aw _⟩ (λi σ H3 _ ⟨_,_,_,_,_,_,_,h3,_⟩=>SqL.of h3) ?_ ?_⟩
 ·intro i v σ H3 hv hI;refine ve4 σ hI λseen ws xs v4 hY=>an8 hY λs4 tup hL3 Bm wx mz st lws=>?_;clear hI hY
  obtain⟨q,hq,t⟩:∃q,(c6 C)[i]? =some q/\T2 Ha v (iP q):=by
   obtain⟨q,z|z⟩:=prT hv
   ·exact⟨q,z.1,z.2.mono s2⟩
   ·exact⟨q,z⟩
  obtain⟨a,rfl,ha⟩:=t;obtain⟨_,e,ha3⟩:=tup a _ ⟨a,rfl,ha⟩;cases e;have sj:i<out.length:=by have:=(ar.mp hv).1;simpa using this
  refine⟨_,rfl,_,rfl,wk,_,rfl,R2.get (p:=iP q) mz.rd ha3,_,rfl,?_⟩;rw[LO];refine cK (λc1=>?_) (λc1=>?_)
  ·have c1:q∉seen:=λz=>mQ c1 (iH.mpr z)
   obtain⟨f,f1,f2,f3,f4,oz,w',e1,e2,ow⟩:=st.next tu hq c1;have nhk:h≠wk:=aI hH fwk;have ls:=ow.len tu;have el:(iW oz).length=oz.length:=by simp[iW]
   refine⟨_,rfl,.inl ⟨rfl,_,SqL.of Bm⟩,_,rfl,_,rfl,_,rfl,.ref a,h,wk,d7 (iW C),iW seen,iP q,f,rfl,⟨a,rfl,ha3⟩,R2.mono s4 hH.rd,mz,nhk,f1,f2,f3,f4,?_,λr H4 b4 hr4 lt4 md=>?_⟩
   ·have:(iW seen++f.map (·.1)).length<=4*256:=by rw[<- e1,el];omega
    rw[aj,ai]at this;omega
   ·have hw4:H4 w=some (.lst xs):=b4 _ _ nhw Bm;have zq:r≠w:=λz=>by rw[z,Bm]at hr4;cases hr4
    have Ax:H3 wk=some (.dT (kvF k2 (KS (iW seen)))):=mz;have lx:=pairs_len wx;have lws2:xs.length<=1024:=by
     have h1:(iWs ws).length=ws.length:=by simp[iWs]
     have h2:out.length=(c6 C).length:=by have:=pairs_len pr;simpa[iW]using this
     have h3:(c6 C).length<=4*C.length:=by have a1:=RM.pG (iW C);have a2:=yp.length_eq;simp only[iW,ai]at a1 a2;omega
     omega
    have T4:∀{v:V}{p:PI},T2 H3 v p->T2 (upd H4 w (.lst (xs++[.ref r]))) v p:=λt=>(t.but b4 Ax (by intro _ z;cases z)).upd hw4
    refine⟨w,xs,.ref r,rfl,rfl,hw4,few lws2,oz,ws++[w'],xs++[.ref r],_,rfl,a9.put (But.same b4 s4 fwk) hw,λa p t=>T4 (tup a p t),by rw[aB nLw];exact b4 _ _ nLk hL3,a8,?_,by unfold D2;rw[aB nhw.symm,e1];exact md,ow,by rw[aj];simp;omega⟩;have e3:iWs (ws++[w'])=iWs ws++[bL none f]:=by simp[iWs,e2]
    rw[e3];refine bC ⟨r,rfl,zq,lt4.upd hw4 zq⟩ (aM (λv z ⟨b,e,nb,b0,ys,eb,hb,py⟩=>⟨b,e,nb,?_⟩) wx);cases eb;have nbk:b≠wk:=fK hb Ax (by intro z;cases z);exact LT.upd ⟨b,ys,rfl,b4 _ _ nbk hb,aM (λ_ _ t=>t.but b4 Ax (by intro _ z;cases z)) py⟩ hw4 nb
  ·have c1:q∈seen:=iH.mp (jE c1);exact⟨seen,ws,xs,_,rfl,s4,tup,hL3,Bm,wx,mz,st.skip hq c1,Hc⟩
 ·intro σ H3 hI;refine ve4 σ hI λseen ws xs v4 hY=>an8 hY λs4 tup hL3 Bm wx mz st lws=>?_;clear hI hY
  have h2:(out.map V.ref).length=(c6 C).length:=by have:=pairs_len pr;simpa[iW]using this
  rw[h2]at st;have e:=st.done;subst e;exact⟨_,rfl,k w H3 (a9.trans s1 s4) ⟨w,xs,rfl,Bm,aM (λv z ⟨b,e,nb,t⟩=>by rw[e];exact t) wx⟩⟩
abbrev s_ht:Ga:=(top 45)
theorem sc_ht:aN ["t","walks","cells"] ["t"] (aH s_ht):=fS
theorem NA{a b:List Roof.Walk}(h:iWs a=iWs b):a=b:=RM.map_inj (λx _ y _ q=>RM.map_inj (λp _ p' _ r=>gO r) q) h
theorem nB{F:Nat->Nat->Bool}(h:Roof.isHouse (aW F)=true):(aW F).length<=256/\Ge (aW F)=false/\aW F≠[]:=by
 cases e:aW F with
 |nil=>rw[e]at h;cases h
 |cons c r=>have h2:=uT e;rw[h]at h2;rw[e]at h2;simp only[Bool.true_eq,bw,decide_eq_true_iff,ie]at h2;exact⟨h2.1,h2.2.1,jn _ _⟩
noncomputable def sp_ht(K:Fg)(d:Adr):Sp:=λvs H Q E=>∃(a:xv)(ns:List Int),vs=[.ref a]/\SqL K H a (ns.map V.int)/\ns.length<=4096/\inB ns/\(∀F,Roof.houseOf (Fj ns)=some (aW F)->Roof.isHouse (aW F)=true->∀r H',a9 H H'->H r=none->D2 H' r (CS (aW F))->Q (.ref r) H')/\(Roof.houseOf (Fj ns)=none->E (.ref d.cE) none H)
theorem ok_ht(F:Fun K "house_told" "house_told" s_ht f fd)(T:Txt K mg base d)(D_wt2:aO P w K mg base CXf 5 "walks_told" ["t"] (sp_wt2 K d))(D_cw:aO P w K mg base CX0 2 "cells_within" ["walks"] (sp_cw K d))(D_wr:aO P w K mg base CX0 5 "walks_round" ["cells"] (sp_wr K d))(D_ih:aO P w K mg base CX0 4 "is_house" ["cells"] (sp_ih K d)):bJ P w K mg base CXf 6 f fd ["t"] (sp_ht K d):=by
 refine okX F sc_ht (λvs _ _ _ h=>ve2 vs h λ_ _ _=>rfl) (λ_ _ _ _ H vs Q E hr hok h=>?_);have hu:=bG hr;refine ve2 vs h λa ns hY=>an5 hY λhS hl hB k1 k2=>?_;clear hY h
 refine⟨_,(aA (psN (i:=1) sc_ht.nd (rP D_wt2 (hm hr) (JN hok) rfl (a7 (pv 0) aC)))
   (aA (psN (i:=2) sc_ht.nd (pfN D_cw hr (a7 (pv 1) aC)))
   (aA (cJ (PW.pt (A6 (OY (lF (pfN D_ih hr (a7 (pv 2) aC)) (λ_=>rfl))) (u7 (bO (P8 hr.units) (pfN D_wr hr (a7 (pv 2) aC)) (pv 1) (bU _))))) (aF (eY hok PySem.F.excBase_Exception T.eZ rfl)) bF)
   (aF (aS (pv 2)))))),?_⟩
 refine⟨_,rfl,a,ns,rfl,hS,hl,λz hz v H1 s1 llt=>?_,λhn=>k2 (RM.DO hB hn)⟩;obtain⟨W,oW,rfl,_⟩:=RM.rG hz;have hh:=RM.DN hB oW hz;have okp:uE W:=λw hw=>(oW.2 w hw).2
 refine⟨_,rfl,v,W,rfl,llt,okp,λc H2 s2 hc hD=>?_⟩;have wb:Roof.houseOf (Fj ns)=(if Roof.isHouse (aW (dJ W))=true/\Roof.walksOf (aW (dJ W))=W then some (aW (dJ W))else none):=hh;generalize dJ W=F at hD wb;refine⟨_,rfl,c,F,rfl,hD,λH3 s3=>⟨_,rfl,?_⟩⟩;refine cK (λc1=>DI (k2 ?_)) (λc1=>?_)
 ·rw[wb,af];intro z;rw[z.1]at c1;cases c1
 have c1:Roof.isHouse (aW F)=true:=by
  cases e:Roof.isHouse (aW F)with
  |true=>rfl
  |false=>rw[e]at c1;exact absurd rfl c1
 obtain⟨jt,tu,jw⟩:=nB c1;have mz:D2 H3 c (CS (aW F)):=s3 _ _ hD;refine⟨_,rfl,c,aW F,rfl,mz,jt,tu,λr H4 s4 llt4=>?_⟩;refine⟨_,rfl,dWs (iWs (Roof.walksOf (aW F))),dWs (iWs W),OE llt4,OE (llt.mono (a9.trans s2 (a9.trans s3 s4))),wH _,wH _,_,rfl,?_⟩;rw[Q4];refine cK (λc2=>k2 ?_) (λc2=>?_)
 ·rw[wb,af];intro z;exact mQ c2 (by rw[z.2])
 ·have e:Roof.walksOf (aW F)=W:=NA (jE c2);exact⟨_,rfl,k1 F (by rw[wb,ah ⟨c1,e⟩]) c1 c H4 (a9.trans s1 (a9.trans s2 (a9.trans s3 s4))) (s1.free hc) (s4 _ _ mz)⟩
abbrev s_hco:Ga:=(top 50)
theorem sc_hco:aN ["cells","found","cell","quarter"] ["cells"] (aH s_hco):=fS
noncomputable def sp_hco(K:Fg)(d:Adr):Sp:=λvs H Q _=>∃(c:xv)(C:List (Nat×Nat)),vs=[.ref c]/\D2 H c (CS C)/\C.Nodup/\(Hh C)/\C.length<=256/\∀r H',a9 H H'->H r=none->LT H' (.ref r) ((Fc C).map RM.hP)->Q (.ref r) H'
theorem ok_hco(F:Fun K "half_cells_of" "half_cells_of" s_hco f fd)(T:Txt K mg base d)(D_m:aO P w K mg base CX0 1 "moved" ["place","step"] (sp_m K d))(D_br:aO P w K mg base CX0 1 "by_row" ["place"] (sp_br K d)):bJ P w K mg base CX0 5 f fd ["cells"] (sp_hco K d):=by
 refine F.ok sc_hco (λvs _ _ _ h=>ve2 vs h λ_ _ _=>rfl) (λ_ _ _ _ H vs Q E hr h=>?_);have hu:=bG hr;obtain⟨ud,nX,c_QUARTERS⟩:=T.nX;refine ve2 vs h λc C hY=>an5 hY λhC nd bd hl k=>?_;clear hY h
 refine⟨_,(aA (psN (i:=1) sc_hco.nd (fF aC))
   (aA (jV (c8 PassesOwn.never rfl (mL (pv 0)) (pgN (i:=2) sc_hco.nd) (aF (c8 PassesOwn.never rfl (lH (eE nX rfl)) (pgN (i:=3) sc_hco.nd) (aF (dC (jA PySem.F.plainAttrs_list PySem.F.slot_list_append PySem.F.type_list_append cQ (pv 1) (a7 (pfN D_m hr (a7 (c9 (a7 (bR iE aJ (aY aT (pv 2) aJ (λ_ _=>rfl))) (a7 (bR iE aJ (aY aT (pv 2) aJ (λ_ _=>rfl))) aC))) (a7 (pv 3) aC))) aC))))))))
   (aF (aS (uB D_br (hm hr) rfl T.sorted rfl (a7 (pv 1) aC)))))),?_⟩
 obtain⟨qs,uf,yg⟩:=c_QUARTERS;refine⟨cn _,λf hf=>?_⟩;have nc:c≠f:=aI hC hf;have lg:∀od,(upd H c (.frz od (.dT (kvF k2 (CS C))))) f=none:=λod=>fV hC hf
 refine⟨c,.dT (kvF k2 (CS C)),by rw[aB nc];exact hC,trivial,λod=>⟨_,rfl,c,od,rfl,.inr ⟨_,a8,lV (d:=c) (od:=od) (kvs:=kvF k2 (CS C))
  (λi σ H2=>∃(xs:List V)(v2 v3:Option V),σ=[some (.ref c),some (.ref f),v2,v3]/\a9 (upd H c (.frz od (.dT (kvF k2 (CS C))))) H2/\H2 f=some (.lst xs)/\Paired (T2 H2) xs (fD ((iW C).take i)))
  ⟨[],none,none,rfl,a9.both (a9.upd hf),by rw[aB nc.symm,a8],.nil⟩ (λi σ H2 ⟨_,_,_,_,s2,_⟩=>s2 _ _ a8) ?_ ?_⟩⟩⟩
 ·intro i kk vv q σ H2 hi hq hI;refine ve3 σ hI λxs v2 v3 hY=>an3 hY λs2 h2 pr=>?_;clear hI hY
  obtain⟨p,hp,rfl⟩:=uR hi;have hp2:(iW C)[i]? =some p:=by have:=congrArg (Option.map Prod.fst) hp;rw[<- bc,n4]at this;exact this
  have sj:i<C.length:=by have:=BF hp2;simpa[iW]using this
  refine⟨_,rfl,⟨_,uf _⟩,kF (K:=K) (a:=ud) (xs:=qs) (λj σ H3=>∃(xs:List V)(v3:Option V),σ=[some (.ref c),some (.ref f),some (.ref q),v3]/\a9 (upd H c (.frz od (.dT (kvF k2 (CS C))))) H3/\T2 H3 (.ref q) p/\H3 f=some (.lst xs)/\Paired (T2 H3) xs (fD ((iW C).take i)++(wN p).take j))
   ⟨xs,v3,rfl,s2,⟨q,rfl,hq⟩,h2,by rw[take_zero,di];exact pr⟩ (λi σ H2 _ _=>uf H2) ?_ ?_⟩
  ·intro j x σ H3 hx hI;refine ve2 σ hI λxs v3 hY=>an4 hY λs3 tq h3 pr=>?_;clear hI hY
   obtain⟨z,hz,cz⟩:=pairs_at yg hx;have lx:=pairs_len pr;rw[aj,RM.CJ,bx,bx]at lx;have lq:(wN p).length=4:=rfl;obtain⟨_,e,Di⟩:=id tq;cases e;refine⟨_,rfl,.inl ⟨rfl,_,SqL.of h3⟩,_,rfl,q,_,_,_,rfl,rfl,SqT.of Di,aQ Hd rfl,_,_,rfl,rfl,.inl ⟨Hd,Hd⟩,_,rfl,q,_,_,_,rfl,rfl,SqT.of Di,aQ Hd rfl,_,_,rfl,rfl,.inl ⟨Hd,Hd⟩,(by show 2<=Fh;decide),λt ht=>?_⟩;have s4:a9 H3 (upd H3 t (.tup [.int (2*p.1),.int (2*p.2)])):=a9.upd ht;refine⟨_,rfl,.ref t,x,(2*p.1,2*p.2),z,rfl,T2.c ⟨t,rfl,a8⟩,cz _,λn H5 s5 t5=>?_⟩;have h5:=s5 _ _ (s4 _ _ h3);have yf:=a9.trans s4 s5;refine⟨f,xs,n,rfl,rfl,h5,few (m:=2000) Hc,xs++[n],_,rfl,a9.put (a9.trans s3 yf) (lg od),(tq.mono yf).upd h5,a8,?_⟩;rw[RM.GC p hz,<- fk];exact bC (t5.upd h5) (aM (λ_ _ y=>(y.mono yf).upd h5) pr)
  ·intro σ H3 hI;refine ve2 σ hI λxs v3 hY=>an4 hY λs3 tq h3 pr=>?_;clear hI hY
   refine⟨xs,_,_,rfl,s3,h3,?_⟩;rw[RM.A5 hp2];have e:qs.length=4:=pairs_len yg;rw[e]at pr;exact pr
 ·intro σ H2 hI;refine ve3 σ hI λxs v2 v3 hY=>an3 hY λs2 h2 pr=>?_;clear hI hY
  have el:(kvF k2 (CS C)).length=(iW C).length:=by rw[fM,rF];simp[iW]
  rw[el,bf (aw _)]at pr;have s3:a9 H (upd H2 c (.dT (kvF k2 (CS C)))):=a9.unlock hC s2;have h3:(upd H2 c (.dT (kvF k2 (CS C)))) f=some (.lst xs):=by rw[aB nc.symm];exact h2
  have hC2:H2 c=some (.frz od (.dT (kvF k2 (CS C)))):=s2 _ _ a8;have pf:Paired (T2 (upd H2 c (.dT (kvF k2 (CS C))))) xs (fD (iW C)):=aM (λ_ _ z=>z.sR hC2 (by intro _ z;cases z)) pr;refine⟨hC2,?_⟩;generalize (upd H2 c (.dT (kvF k2 (CS C))))=H3 at s3 h3 pf ⊢;obtain⟨as,rfl⟩:=yH pf;refine⟨_,rfl,f,as,gJ H3,rfl,SqL.of h3,λa _=>by unfold gJ;exact jn _ _,tL pf,λL out H4 hL pm pw s4 h4=>?_⟩;obtain⟨ys,py,yp,yr⟩:=lB pf pm pw;have ey:=RM.vU nd bd yp yr;subst ey;exact k L H4 (a9.trans s3 s4) (s3.free hL) ⟨L,_,rfl,h4,aM (λ_ _ z=>z.mono s4) py⟩
abbrev s_id:Ga:=(top 51)
theorem sc_id:aN ["half","layer","step"] ["half","layer"] (aH s_id):=fS
noncomputable def sp_id(K:Fg)(d:Adr):Sp:=λvs H Q _=>∃(v:V)(p:PI)(l:xv)(L:List PI),vs=[v,.ref l]/\T2 H v p/\R2 H l (KS L)/\∀H',a9 H H'->Q (.bl ((cM p).all λq=>L.contains q)) H'
theorem ok_id(F:Fun K "is_deeper" "is_deeper" s_id f fd)(T:Txt K mg base d)(D_m:aO P w K mg base CX0 1 "moved" ["place","step"] (sp_m K d)):bJ P w K mg base CX0 2 f fd ["half","layer"] (sp_id K d):=by
 refine F.ok sc_id (λvs _ _ _ h=>ve4 vs h λ_ _ _ _ _=>rfl) (λ_ _ _ _ H vs Q E hr h=>?_);have hu:=bG hr;obtain⟨aHALVES_ABOUT,iI,c_HALVES_ABOUT⟩:=T.iI;refine ve4 vs h λv p l L hY=>an3 hY λhv hL k=>?_;clear hY h
 refine⟨_,(aA (c8 PassesOwn.never rfl (lH (eE iI rfl)) (pgN (i:=2) sc_id.nd) (aF (cJ (dU (d4 hu (pfN D_m hr (a7 (pv 0) (a7 (pv 2) aC))) (pv 1))) (aF (aS iM)) bF)))
   (aF (aS iM))),?_⟩
 obtain⟨qs,uf,yg⟩:=c_HALVES_ABOUT;have e8:qs.length=8:=pairs_len yg;refine⟨_,rfl,⟨_,uf _⟩,kF (K:=K) (a:=aHALVES_ABOUT) (xs:=qs) (λj σ H2=>∃(v2:Option V),σ=[some v,some (.ref l),v2]/\a9 H H2/\∀m,m<j->∀q,(cM p)[m]? =some q->q∈L)
  ⟨none,rfl,a9.refl _,by intro m hm;omega⟩ (λi σ H2 _ _=>uf H2) ?_ ?_⟩
 ·intro j x σ H2 hx hI;refine ve1 σ hI λv2 hY=>an2 hY λs2 old=>?_;clear hI hY
  obtain⟨z,hz,cz⟩:=pairs_at yg hx;have ha:=RM.ED p hz;refine⟨_,rfl,_,rfl,v,x,p,z,rfl,(hv.mono s2).c,cz _,λn H3 s3 t3=>?_⟩;obtain⟨na,rfl,ql⟩:=t3;refine⟨_,rfl,l,_,rfl,R2.get (hL.mono (a9.trans s2 s3)) ql,_,rfl,?_⟩;rw[LO];refine cK (λc1=>?_) (λc1=>?_)
  ·have c1:=mQ c1;have h:=k H3 (a9.trans s2 s3);have e:((cM p).all λq=>L.contains q)=false:=by rw[jh];intro z;rw[ia]at z;have:=z _ (ba ha);exact c1 (by simpa using this)
   rw[e]at h;exact h
  ·have c1:=jE c1;refine⟨_,rfl,a9.trans s2 s3,λm hm q hq=>?_⟩;by_cases e:m=j
   ·subst e;rw[ha]at hq;cases hq;exact c1
   ·exact old m Hc q hq
 ·intro σ H2 hI;refine ve1 σ hI λv2 hY=>an2 hY λs2 old=>?_;clear hI hY
  have h:=k H2 s2;have e:((cM p).all λq=>L.contains q)=true:=by rw[ia];intro q hq;obtain⟨m,hm⟩:=gp.mp hq;have ka:=BF hm;have hl8:(cM p).length=8:=rfl;have:=old m (by rw[e8];omega) q hm;simpa using this
  rw[e]at h;exact h
abbrev s_do:Ga:=(top 52)
theorem sc_do:aN ["cells","depths","layer","depth","half","layer_above"] ["cells"] (aH s_do):=fS
noncomputable def sp_do(K:Fg)(d:Adr):Sp:=λvs H Q _=>∃(c:xv)(C:List (Nat×Nat)),vs=[.ref c]/\D2 H c (CS C)/\C.Nodup/\(Hh C)/\C.length<=256/\C≠[]/\∀r H',a9 H H'->H r=none->D2 H' r (IV (bW (Fc C)))->Q (.ref r) H'
theorem ok_do(F:Fun K "depths_of" "depths_of" s_do f fd)(T:Txt K mg base d)(D_hco:aO P w K mg base CX0 5 "half_cells_of" ["cells"] (sp_hco K d))(D_id:aO P w K mg base CX0 2 "is_deeper" ["half","layer"] (sp_id K d)):bJ P w K mg base CX0 6 f fd ["cells"] (sp_do K d):=by
 refine F.ok sc_do (λvs _ _ _ h=>ve2 vs h λ_ _ _=>rfl) (λ_ _ _ _ H vs Q E hr h=>?_);have hu:=bG hr;refine ve2 vs h λc C hY=>an6 hY λhC nd bd hl jw k=>?_;clear hY h
 have hok:=aL bd;have hhl:=g7 C;have hlhs:((Fc C).map RM.hP).length<=1024:=by rw[ai];omega
 have qk:((Fc C).map RM.hP).Nodup:=d5 ((fZ nd bd).imp λ{a b} h e=>by omega) λx hx y hy e=>kC (hok x hx) (hok y hy) e
 have hend:∀n,64<=n->aR ((Fc C).map RM.hP) n=[]:=λn hn=>by rw[RM.d3 hok,RM.eS hok hn];rfl
 have hdep:∀n,0<n->aR ((Fc C).map RM.hP) n=[]->j1 ((Fc C).map RM.hP) n=bW (Fc C):=λn h0 e=>RM.E4 hok h0 e
 have hne0:aR ((Fc C).map RM.hP) 0≠[]:=by
  intro z;have:((Fc C).map RM.hP).length=0:=by rw[show(Fc C).map RM.hP=[]from z];rfl
  rw[ai,hhl]at this;exact jw (fm Hc)
 refine⟨_,(aA (psN (i:=1) sc_do.nd fH)
   (aA (psN (i:=2) sc_do.nd (pfN D_hco hr (a7 (pv 0) aC)))
   (aA (psN (i:=3) sc_do.nd aJ)
   (aA (lG PassesOwn.never (uA (pv 2) (λ_=>rfl)) (aA (c8 PassesOwn.never rfl (fE (pv 2)) (pgN (i:=4) sc_do.nd) (aF (gV hu (pv 1) (pv 4) (pv 3) rfl)))
   (aA (CL (i:=5) sc_do.nd rfl (Or.inr rfl) (wY (E8 rfl (uW hr)) Hi T.dict Hi (a7 (JK (own:=[("half",4)]) rfl sc_do.nd (fE (pv 2)) (gH (by first|decide+kernel|kernel_rfl)) (λ_ _ _ _ _=>(pgN (i:=4) sc_do.nd)) (λ_ _ _ _ _=>yO) (λ_ _ _ _ _=>(c9 (a7 (pv 4) (a7 iM aC))))) aC)))
   (aA (A8 (i:=2) (own:=[("half",4)]) rfl sc_do.nd rfl rfl (by exact sV rfl rfl rfl rfl) (fE (pv 2)) (gH (by first|decide+kernel|kernel_rfl)) (λ_ _ _ _ _=>(pgN (i:=4) sc_do.nd)) (λ_ _ _ _ _=>(EM (lF (pfN D_id hr (a7 (pv 4) (a7 (pv 5) aC))) (λ_=>rfl)))) (λ_ _ _ _ _=>(pv 4)))
   (aF (JF (i:=3) sc_do.nd rfl (Or.inl rfl) aJ KI))))))
   (aF (aS (pv 1))))))),?_⟩
 refine λd0 Bq=>?_
 have nc:c≠d0:=aI hC Bq;refine⟨_,rfl,c,C,rfl,by unfold D2;rw[aB nc];exact hC,nd,bd,hl,λr H1 s1 fr lt=>?_⟩;generalize (Fc C).map RM.hP=hs at*;have s01:a9 H H1:=a9.trans (a9.upd Bq) s1;have hD1:D2 H1 d0 []:=s1 _ _ a8;dsimp only[jJ,G7,CC,tC];refine kX (λσ H2=>∃(n:Nat)(la:xv)(v4 v5:Option V),σ=[some (.ref c),some (.ref d0),some (.ref la),some (.int (n:Int)),v4,v5]/\a9 H H2/\LT H2 (.ref la) (aR hs n)/\D2 H2 d0 (IV (j1 hs n)))
  (λσ _=>100 - cnt σ 3)
  ⟨0,r,none,none,rfl,s01,lt,hD1⟩ ?_ (λ_ _ _ _ f ⟨v,e,k,t,q⟩=>⟨v,e,k,t,f _ _ q⟩)
 intro σ H2 hI;refine ve4 σ hI λn la v4 v5 hY=>an3 hY λs2 Aw hD=>?_;clear hI hY
 obtain⟨_,xs,e,sg,pr⟩:=Aw;cases e;have lx:=pairs_len pr;have lL:(aR hs n).length<=hs.length:=by
  have xi:∀n,(aR hs n).Nodup:=λn=>by
   induction n with
   |zero=>exact qk
   |succ n ih=>exact ih.filter _
  exact c7 (xi n) λp hp=>RM.nV hs n p hp
 have xi:(aR hs n).Nodup:=by
  clear hD pr lx lL;induction n with
  |zero=>exact qk
  |succ n ih=>exact ih.filter _
 refine⟨_,rfl,_,.inl ⟨_,SqL.of sg,rfl⟩,?_⟩;refine cK (λcq=>?_) (λcq=>?_)
 ·have hn64:n<64:=by apply Nat.lt_of_not_le;intro z;rw[hend n z]at pr;cases pr;cases cq
  have ldT:(j1 hs n).length<=1024:=by
   unfold j1;split
   ·simp
   ·rw[ai];exact hlhs
  have nla:la≠d0:=fK sg hD (by intro z;cases z);refine⟨_,rfl,la,rfl,⟨_,SqL.of sg⟩,jK (K:=K) (a:=la) (xs:=xs) (λi σ H3=>∃(v4:Option V),σ=[some (.ref c),some (.ref d0),some (.ref la),some (.int (n:Int)),v4,v5]/\But d0 H2 H3/\D2 H3 d0 (IV (cO (j1 hs n) (((aR hs n).take i).map λp=>(p,(n:Int))))))
   ⟨v4,rfl,But.refl _ _,hD⟩ (λi σ H3 _ ⟨_,_,b3,_⟩=>SqL.of (b3 _ _ nla sg)) ?_ ?_⟩
  ·intro i x σ H3 hx hI;refine ve1 σ hI λv4 hY=>an2 hY λb3 mz=>?_;clear hI hY
   obtain⟨p,hp,tp⟩:=pairs_at pr hx;obtain⟨a,rfl,ha⟩:=tp.W5 b3 hD;refine⟨_,rfl,_,rfl,_,rfl,d0,_,rfl,D2.put mz ha _ ?_,_,rfl,b3.here,?_⟩
   ·rw[fX];have h1:=hO (((aR hs n).take i).map λp=>(p,(n:Int))) (j1 hs n);rw[ai,bx]at h1;exact few (m:=5000) (de h1 Hc)
   ·unfold D2;rw[a8,vI,<- vG,take_snoc hp,cf];rfl
  ·intro σ H3 hI;refine ve1 σ hI λv4 hY=>an2 hY λb3 mz=>?_;clear hI hY
   rw[lx,bf (aw _),RM.BQ qk]at mz;have xj:H3 la=some (.lst xs):=b3 _ _ nla sg;have pf:Paired (T2 H3) xs (aR hs n):=aM (λ_ _ z=>z.W5 b3 hD) pr;have s3:a9 H H3:=But.same b3 s2 Bq;refine⟨_,rfl,la,rfl,⟨_,SqL.of xj⟩,λD hD0=>pD (K:=K) (a:=la) (xs:=xs)
    (λi H4=>a9 H3 H4/\∃ps:List xv,H4 D=some (.lst (ps.map V.ref))/\Paired (λp (q:PI)=>∃a,H4 p=some (.tup [.ref a,.bl true])/\H4 a=some (.tup [.int q.1,.int q.2])) ps ((aR hs n).take i)) ⟨a9.upd hD0,[],a8,.nil⟩ (λi H4 _ ⟨s4,_⟩=>s4.seq (SqL.of xj)) ?_ ?_⟩
   ·rintro i x H4 hx ⟨s4,ps,h4,pp⟩;obtain⟨p,hp,tp⟩:=pairs_at pf hx;obtain⟨a,rfl,ha⟩:=tp.mono s4;have lp:=pairs_len pp;rw[bx]at lp;have sj:=BF hp;refine⟨rfl,_,rfl,(by show 2<=Fh;decide),λt ht=>?_⟩;have s5:a9 H4 (upd H4 t (.tup [.ref a,.bl true])):=a9.upd ht;have h5:=s5 _ _ h4;have kT:∀b ys,(upd H4 t (.tup [.ref a,.bl true])) b=some (.tup ys)->(upd (upd H4 t (.tup [.ref a,.bl true])) D (.lst (ps.map V.ref++[.ref t]))) b=some (.tup ys):=λb ys e=>by rw[aB (fK e h5 (by intro z;cases z))];exact e
    refine⟨_,h5,by rw[ai];exact few (m:=2000) Hc,a9.put (a9.trans s4 s5) hD0,ps++[t],by rw[a8,cf];rfl,?_⟩;rw[take_snoc hp];exact bC (R:=λp' (q:PI)=>∃a',(upd (upd H4 t (.tup [.ref a,.bl true])) D (.lst (ps.map V.ref++[.ref t]))) p'=some (.tup [.ref a',.bl true])/\(upd (upd H4 t (.tup [.ref a,.bl true])) D (.lst (ps.map V.ref++[.ref t]))) a'=some (.tup [.int q.1,.int q.2]))
     ⟨a,kT _ _ a8,kT _ _ (s5 _ _ ha)⟩ (aM (λp' q ⟨a',e1,e2⟩=>⟨a',kT _ _ (s5 _ _ e1),kT _ _ (s5 _ _ e2)⟩) pp)
   ·rintro H4 ⟨s4,ps,h4,pp⟩;rw[lx,bf (aw _)]at pp;have pk:Paired (λp (kv:List Key×V)=>∃q,H4 p=some (.tup [.ref q,kv.2])/\H4 q=some (.tup (kv.1.map kV))) ps (kvF k2 (KS (aR hs n))):=by
     clear xj pf lx lL xi mz sg pr hD h4;generalize aR hs n=L at pp;induction pp with
     |nil=>exact .nil
     |cons h _ ih=>exact .cons h ih
    refine⟨D,ps,_,rfl,SqL.of h4,pk,λab vh=>?_⟩;rw[GD xi];have s5:a9 H4 (upd H4 ab (.dT (kvF k2 (KS (aR hs n))))):=a9.upd vh;have hA5:D2 (upd H4 ab (.dT (kvF k2 (KS (aR hs n))))) ab (KS (aR hs n)):=a8;have yf:a9 H3 (upd H4 ab (.dT (kvF k2 (KS (aR hs n))))):=a9.trans s4 s5;generalize (upd H4 ab (.dT (kvF k2 (KS (aR hs n)))))=H5 at s5 hA5 yf ⊢;have Ea:=yf _ _ xj;refine⟨_,rfl,la,rfl,⟨_,SqL.of Ea⟩,λD2' Eo=>pD (K:=K) (a:=la) (xs:=xs)
     (λi H6=>a9 H5 H6/\∃ys,H6 D2'=some (.lst ys)/\Paired (T2 H6) ys (((aR hs n).take i).filter λp=>(cM p).all λq=>(aR hs n).contains q)) ⟨a9.upd Eo,[],a8,.nil⟩ (λi H6 _ ⟨s6,_⟩=>s6.seq (SqL.of Ea)) ?_ ?_⟩
    ·rintro i x H6 hx ⟨s6,ys,h6,py⟩;obtain⟨p,hp,tp⟩:=pairs_at pf hx;have tp6:=tp.mono (a9.trans yf s6);have ly:=pairs_len py;have lf:=ff (λp=>(cM p).all λq=>(aR hs n).contains q) ((aR hs n).take i);rw[bx]at lf;refine⟨rfl,_,rfl,_,rfl,x,p,ab,aR hs n,rfl,tp6,R2.mono s6 hA5.rd,λH7 s7=>⟨_,rfl,?_⟩⟩;have h7:=s7 _ _ h6;refine cK (λc1=>?_) (λc1=>?_)
     ·refine⟨_,rfl,ys,h7,few (m:=2000) (de (iq ly) (de lf Hc)),a9.put (a9.trans s6 s7) Eo,ys++[x],a8,?_⟩;rw[take_snoc hp,gg,List.filter_cons_of_pos (by exact c1),List.filter_nil];exact bC ((tp6.mono s7).upd h7) (aM (λ_ _ z=>(z.mono s7).upd h7) py)
     ·refine⟨a9.trans s6 s7,ys,h7,?_⟩;rw[take_snoc hp,gg,List.filter_cons_of_neg (by exact c1),List.filter_nil,di];exact aM (λ_ _ z=>z.mono s7) py
    ·rintro H6 ⟨s6,ys,h6,py⟩;rw[lx,bf (aw _)]at py;have Bh:a9 H3 H6:=a9.trans yf s6;refine⟨_,rfl,_,_,rfl,rfl,⟨n+1,D2',_,_,rfl,a9.trans s3 Bh,⟨D2',ys,rfl,h6,py⟩,Bh _ _ mz⟩,?_⟩;show 100 - ((n:Int)+1).toNat<100 - ((n:Int)).toNat
     omega
 ·have e:xs=[]:=by
   cases xs with
   |nil=>rfl
   |cons _ _=>exact absurd rfl cq
  subst e;have en:aR hs n=[]:=by
   cases h:aR hs n with
   |nil=>rfl
   |cons _ _=>rw[h]at pr;cases pr
  have n0:0<n:=by apply Nat.pos_of_ne_zero;intro z;subst z;exact hne0 en
  rw[hdep n n0 en]at hD;exact⟨_,rfl,k d0 H2 s2 Bq hD⟩
abbrev s_ho:Ga:=(top 53)
theorem sc_ho:aN ["point","depths","step"] ["point","depths"] (aH s_ho):=fS
noncomputable def sp_ho(K:Fg)(d:Adr):Sp:=λvs H Q _=>∃(v:V)(p:PI)(dA:xv)(h:List Nat),vs=[v,.ref dA]/\T2 H v p/\R2 H dA (IV (bW h))/\∀m H',a9 H H'->m∈cN h p->(∀x∈cN h p,m<=x)->Q (.int m) H'
theorem ok_ho(F:Fun K "height_over" "height_over" s_ho f fd)(T:Txt K mg base d)(D_m:aO P w K mg base CX0 1 "moved" ["place","step"] (sp_m K d)):bJ P w K mg base CX0 2 f fd ["point","depths"] (sp_ho K d):=by
 refine F.ok sc_ho (λvs _ _ _ h=>ve4 vs h λ_ _ _ _ _=>rfl) (λ_ _ _ _ H vs Q E hr h=>?_);have hu:=bG hr;obtain⟨aHALVES_AT_A_POINT,dX,c_HALVES_AT_A_POINT⟩:=T.dX;refine ve4 vs h λv p dA h hY=>an3 hY λhv hA k=>?_;clear hY
 refine⟨_,(aF (aS (bP (QD rfl) Hi T.min Hi (a7 (JK (own:=[("step",2)]) rfl sc_ho.nd (lH (eE dX rfl)) (gH (by first|decide+kernel|kernel_rfl)) (λ_ _ _ _ _=>(pgN (i:=2) sc_ho.nd)) (λ_ _ _ _ _=>yO) (λ_ _ _ _ _=>(bR gM (JL hu (pv 1) (pfN D_m hr (a7 (pv 0) (a7 (pv 2) aC))) (O7 IP aJ) ⟨rfl,rfl,rfl,rfl⟩) aJ))) aC)))),?_⟩;obtain⟨qs,uf,yg⟩:=c_HALVES_AT_A_POINT;have e4:qs.length=4:=pairs_len yg;refine⟨_,rfl,⟨_,uf _⟩,λD hD=>PJ (K:=K) (a:=aHALVES_AT_A_POINT) (xs:=qs)
  (λi H2=>a9 H H2/\H2 D=some (.lst (((cN h p).take i).map V.int))) ⟨a9.upd hD,a8⟩ (λi H2 _ _=>uf H2) ?_ ?_⟩
 ·rintro i x H2 hx ⟨s2,h2⟩;obtain⟨z,hz,cz⟩:=pairs_at yg hx;have hat:=RM.NZ h p hz;refine⟨rfl,_,rfl,dA,rfl,.inr ⟨_,hA.mono s2⟩,_,rfl,_,rfl,v,x,p,z,rfl,(hv.mono s2).c,cz _,λn H3 s3 t3=>?_⟩;obtain⟨na,rfl,ql⟩:=t3;have h3:=s3 _ _ h2;have eg:(aP (IV (bW h)) (p.1+z.1,p.2+z.2)).getD (V.int (-1))=V.int (bS h (p.1+z.1,p.2+z.2)):=by rw[dN,<- RM.LD];cases aP (bW h) (p.1+z.1,p.2+z.2)<;>rfl
  refine⟨_,rfl,_,R2.get (p:=(p.1+z.1,p.2+z.2)) (hA.mono (a9.trans s2 s3)) ql,bS h (p.1+z.1,p.2+z.2),1,eg,rfl,_,h3,?_,a9.put (a9.trans s2 s3) hD,?_⟩
  ·rw[ai,bx];have:(cN h p).length=4:=rfl;exact few (m:=10) Hc
  ·rw[a8,take_snoc hat];simp
 ·rintro H2 ⟨s2,h2⟩;rw[e4]at h2;have h2:H2 D=some (.lst ((cN h p).map V.int)):=h2;exact⟨D,cN h p,rfl,SqL.of h2,by show 0<4;decide,λm hm qo=>k m H2 s2 hm qo⟩
abbrev s_ho2:Ga:=(top 54)
theorem sc_ho2:aN ["depths","heights","half","side","point"] ["depths"] (aH s_ho2):=fS
noncomputable def sp_ho2(K:Fg)(d:Adr):Sp:=λvs H Q _=>∃(dA:xv)(h:List Nat),vs=[.ref dA]/\D2 H dA (IV (bW h))/\(∀r∈h,okR r)/\h.length<=1024/\∀r ht H',a9 H H'->H r=none->D2 H' r (IV ht)->LR h ht->Q (.ref r) H'
theorem ok_ho2(F:Fun K "heights_of" "heights_of" s_ho2 f fd)(T:Txt K mg base d)(D_ss:aO P w K mg base CX0 2 "side_start" ["square","side"] (sp_ss K d))(D_ho:aO P w K mg base CX0 2 "height_over" ["point","depths"] (sp_ho K d)):bJ P w K mg base CX0 3 f fd ["depths"] (sp_ho2 K d):=by
 refine F.ok sc_ho2 (λvs _ _ _ h=>ve2 vs h λ_ _ _=>rfl) (λ_ _ _ _ H vs Q E hr h=>?_);have hu:=bG hr;obtain⟨aALL_SIDES,bI,c_ALL_SIDES⟩:=T.bI;refine ve2 vs h λdA h hY=>an4 hY λhA hok hl k=>?_;clear hY
 refine⟨_,(aA (psN (i:=1) sc_ho2.nd fH)
   (aA (jV (c8 PassesOwn.never rfl (mL (pv 0)) (pgN (i:=2) sc_ho2.nd) (aF (c8 PassesOwn.never rfl (lH (eE bI rfl)) (pgN (i:=3) sc_ho2.nd) (aA (psN (i:=4) sc_ho2.nd (pfN D_ss hr (a7 (pv 2) (a7 (pv 3) aC))))
   (aF (cJ (dU (d4 hu (pv 4) (pv 1))) (aF (gV hu (pv 1) (pv 4) (pfN D_ho hr (a7 (pv 4) (a7 (pv 0) aC))) rfl)) bF)))))))
   (aF (aS (pv 1))))),?_⟩
 refine λf hf=>?_
 have nc:dA≠f:=aI hA hf;have lg:∀od,(upd H dA (.frz od (.dT (kvF k2 (IV (bW h)))))) f=none:=λod=>fV hA hf
 have Ew:(IV (bW h)).map (·.1)=h.map RM.hP:=by rw[tF];unfold bW;rw[iG]
 refine⟨dA,.dT (kvF k2 (IV (bW h))),by rw[aB nc];exact hA,trivial,λod=>⟨_,rfl,dA,od,rfl,.inr ⟨_,a8,lV (d:=dA) (od:=od) (kvs:=kvF k2 (IV (bW h)))
  (λi σ H2=>∃(ht:List (PI×Int))(v2 v3 v4:Option V),σ=[some (.ref dA),some (.ref f),v2,v3,v4]/\a9 (upd H dA (.frz od (.dT (kvF k2 (IV (bW h)))))) H2/\D2 H2 f (IV ht)/\gS h ht i 0)
  ⟨[],none,none,none,rfl,a9.both (a9.upd hf),by unfold D2;rw[aB nc.symm,a8];rfl,gS.start h⟩ (λi σ H2 ⟨_,_,_,_,_,s2,_⟩=>s2 _ _ a8) ?_ ?_⟩⟩⟩
 ·intro i kk vv q σ H2 hi hq hI;refine ve4 σ hI λht v2 v3 v4 hY=>an3 hY λs2 hD pre=>?_;clear hI hY
  obtain⟨p,hp,rfl⟩:=uR hi;have hp2:(h.map RM.hP)[i]? =some p:=by have:=congrArg (Option.map Prod.fst) hp;rw[<- bc,Ew]at this;exact this
  obtain⟨r,hr,rfl⟩:∃r,h[i]? =some r/\p=RM.hP r:=by
   rw[bc]at hp2;cases e:h[i]? with
   |none=>rw[e]at hp2;cases hp2
   |some r=>rw[e]at hp2;exact⟨r,rfl,(Option.some.inj hp2).symm⟩
  have sj:=BF hr;refine⟨_,rfl,⟨_,c_ALL_SIDES _⟩,kF (K:=K) (a:=aALL_SIDES) (xs:=[.int 0,.int 1,.int 2,.int 3]) (λj σ H3=>∃(ht:List (PI×Int))(v3 v4:Option V),σ=[some (.ref dA),some (.ref f),some (.ref q),v3,v4]/\a9 (upd H dA (.frz od (.dT (kvF k2 (IV (bW h)))))) H3/\T2 H3 (.ref q) (RM.hP r)/\D2 H3 f (IV ht)/\gS h ht i j)
   ⟨ht,v3,v4,rfl,s2,⟨q,rfl,hq⟩,hD,pre⟩ (λi σ H2 _ _=>c_ALL_SIDES H2) ?_ ?_⟩
  ·intro j x σ H3 hx hI;refine ve3 σ hI λht v3 v4 hY=>an4 hY λs3 tq hD pre=>?_;clear hI hY
   obtain⟨hj,rfl⟩:=oQ hx;refine⟨_,rfl,_,rfl,.ref q,RM.hP r,j,rfl,tq.c,hj,λn H4 s4 t4=>?_⟩;obtain⟨na,rfl,ql⟩:=t4;have md:D2 H4 f (IV ht):=s4 _ _ hD;refine⟨_,rfl,_,rfl,f,_,rfl,R2.get (p:=aE (RM.hP r) j) md.rd ql,_,rfl,?_⟩;rw[LQ];refine cK (λc1=>?_) (λc1=>?_)
   ·refine⟨_,rfl,_,rfl,.ref na,aE (RM.hP r) j,dA,h,rfl,⟨na,rfl,ql⟩,.inr ⟨od,(a9.trans s3 s4) _ _ a8⟩,λm H5 s5 hm qo=>?_⟩;have em:=RM.F8 hok (ba hr) hm qo;subst em;have mm:D2 H5 f (IV ht):=s5 _ _ md;have lp:=pre.len;refine⟨_,rfl,_,rfl,f,_,rfl,D2.put mm (s5 _ _ ql) _ (by rw[fX];exact few (m:=5000) Hc),_,_,_,rfl,a9.put (a9.trans s3 (a9.trans s4 s5)) (lg od),T2.sR (tq.mono (a9.trans s4 s5)) mm (by intro _ z;cases z),?_,pre.put hr⟩;unfold D2;rw[a8,vI]
   ·have c1:(aP ht (aE (RM.hP r) j)).isSome=true:=by
     cases e:(aP ht (aE (RM.hP r) j)).isSome with
     |true=>rfl
     |false=>rw[e]at c1;exact absurd rfl c1
    exact⟨ht,_,_,rfl,a9.trans s3 s4,tq.mono s4,md,pre.keep hr c1⟩
  ·intro σ H3 hI;refine ve3 σ hI λht v3 v4 hY=>an4 hY λs3 tq hD pre=>?_;clear hI hY
   exact⟨ht,_,_,_,rfl,s3,hD,pre.next⟩
 ·intro σ H2 hI;refine ve4 σ hI λht v2 v3 v4 hY=>an3 hY λs2 hD pre=>?_;clear hI hY
  have el:(kvF k2 (IV (bW h))).length=h.length:=by rw[fM,fX];unfold bW;rw[ai,ai]
  rw[el]at pre;exact⟨s2 _ _ a8,_,rfl,k f ht _ (a9.unlock hA s2) hf (by unfold D2;rw[aB nc.symm];exact hD) pre.done⟩
abbrev s_fo2:Ga:=(top 57)
theorem sc_fo2:aN ["half","side","depth","heights","start_is_low","end_is_low"] ["half","side","depth","heights"] (aH s_fo2):=fS
noncomputable def sp_fo2(K:Fg)(d:Adr):Sp:=λvs H Q _=>∃(v:V)(r s0:Nat)(h:List Nat)(hA:xv)(ht:List (PI×Int)),vs=[v,.int (s0:Nat),.int (bS h (RM.hP r)),.ref hA]/\T2 H v (RM.hP r)/\s0<4/\r∈h/\R2 H hA (IV ht)/\LR h ht/\∀H',a9 H H'->Q (.int (fN h ((RM.hP r).1,(RM.hP r).2,(s0:Int)))) H'
theorem ok_fo2(F:Fun K "facing_of" "facing_of" s_fo2 f fd)(T:Txt K mg base d)(D_ss:aO P w K mg base CX0 2 "side_start" ["square","side"] (sp_ss K d))(D_se:aO P w K mg base CX0 3 "side_end" ["square","side"] (sp_se K d))(D_lo:aO P w K mg base CX0 1 "left_of" ["direction"] (sp_lo K d))(D_ro:aO P w K mg base CX0 1 "right_of" ["direction"] (sp_ro K d))(D_o:aO P w K mg base CX0 1 "opposite" ["direction"] (sp_o K d)):bJ P w K mg base CX0 4 f fd ["half","side","depth","heights"] (sp_fo2 K d):=by
 refine F.ok sc_fo2 (λvs _ _ _ h=>ve6 vs h λ_ _ _ _ _ _ _=>rfl) (λ_ _ _ _ H vs Q E hr h=>?_);have hu:=bG hr;refine ve6 vs h λv r s0 h hA ht hY=>an6 hY λhv hs hrm hT ok k=>?_;clear hY
 have g1:=ok.all r hrm s0 hs;have ec:aE (RM.hP r) ((s0+1)%4)=aE (RM.hP r) (s0+1):=by unfold aE;rw[mod_mod]
 have g2:aP ht (aE (RM.hP r) (s0+1))=some (hgt h (aE (RM.hP r) (s0+1))):=by rw[<- ec];exact ok.all r hrm ((s0+1)%4) Hc
 have ef:fN h ((RM.hP r).1,(RM.hP r).2,(s0:Int))=HN s0 (hgt h (aE (RM.hP r) s0)) (hgt h (aE (RM.hP r) (s0+1))) (bS h (RM.hP r)):=by unfold fN;simp
 rw[ef]at k;generalize hgt h (aE (RM.hP r) s0)=u at*;generalize hgt h (aE (RM.hP r) (s0+1))=w at*;generalize bS h (RM.hP r)=dd at*;refine⟨_,(aA (psN (i:=4) sc_fo2.nd (yR lM (eG hu (pv 3) (pfN D_ss hr (a7 (pv 0) (a7 (pv 1) aC))) (λ_ _=>rfl)) (pv 2) (bU _)))
   (aA (psN (i:=5) sc_fo2.nd (yR lM (eG hu (pv 3) (pfN D_se hr (a7 (pv 0) (a7 (pv 1) aC))) (λ_ _=>rfl)) (pv 2) (bU _)))
   (aA (cJ (PW.pt (nP (lF (pv 4) (λ_=>rfl)) (mK (lF (pv 5) (λ_=>rfl))))) (aF (aS (pv 1))) bF)
   (aA (cJ (lF (pv 5) (λ_=>rfl)) (aF (aS (pfN D_lo hr (a7 (pv 1) aC)))) bF)
   (aA (cJ (lF (pv 4) (λ_=>rfl)) (aF (aS (pfN D_ro hr (a7 (pv 1) aC)))) bF)
   (aF (aS (pfN D_o hr (a7 (pv 1) aC))))))))),?_⟩
 refine⟨_,rfl,_,rfl,_,rfl,v,RM.hP r,s0,rfl,hv.c,hs,λn H1 s1 t1=>?_⟩;obtain⟨na,rfl,ql⟩:=t1;have d1:mG H1 hA (.ref na) (some (.int u)):=by have:=(hT.mono s1).get (p:=aE (RM.hP r) s0) ql;rw[dN,g1]at this;exact this
 refine⟨hA,_,rfl,d1,_,rfl,rfl,?_⟩;refine⟨_,rfl,_,rfl,_,rfl,v,RM.hP r,s0,rfl,(hv.mono s1).c,hs,λn H2 s2 t2=>?_⟩;obtain⟨ma,rfl,hma⟩:=t2;have d2:mG H2 hA (.ref ma) (some (.int w)):=by have:=(hT.mono (a9.trans s1 s2)).get (p:=aE (RM.hP r) (s0+1)) hma;rw[dN,g2]at this;exact this
 refine⟨hA,_,rfl,d2,_,rfl,rfl,?_⟩;have k:=k H2 (a9.trans s1 s2);unfold HN at k;have du:decide (V.int u=V.int dd)=true↔u=dd:=by rw[decide_eq_true_iff];exact⟨V.int.inj,λz=>by rw[z]⟩
 have dw:decide (V.int w=V.int dd)=true↔w=dd:=by rw[decide_eq_true_iff];exact⟨V.int.inj,λz=>by rw[z]⟩
 by_cases cu:u=dd
 ·by_cases cw:w=dd
  ·rw[ah ⟨cu,cw⟩]at k;rw[du.mpr cu,dw.mpr cw];exact⟨_,rfl,_,rfl,_,rfl,_,rfl,_,rfl,k⟩
  ·rw[af (λz=>cw z.2),af cw,ah cu]at k;have e2:decide (V.int w=V.int dd)=false:=by rw[jh];exact λz=>cw (dw.mp z)
   rw[du.mpr cu,e2];exact⟨_,rfl,_,rfl,_,rfl,_,rfl,_,rfl,_,rfl,_,rfl,_,rfl,_,rfl,_,rfl,k⟩
 ·by_cases cw:w=dd
  ·rw[af (λz=>cu z.1),ah cw]at k;have e1:decide (V.int u=V.int dd)=false:=by rw[jh];exact λz=>cu (du.mp z)
   rw[e1,dw.mpr cw];exact⟨_,rfl,_,rfl,_,rfl,_,rfl,_,rfl,_,rfl,k⟩
  ·rw[af (λz=>cu z.1),af cw,af cu]at k;have e1:decide (V.int u=V.int dd)=false:=by rw[jh];exact λz=>cu (du.mp z)
   have e2:decide (V.int w=V.int dd)=false:=by rw[jh];exact λz=>cw (dw.mp z)
   rw[e1,e2];exact⟨_,rfl,_,rfl,_,rfl,_,rfl,_,rfl,_,rfl,_,rfl,_,rfl,k⟩
abbrev s_fo3:Ga:=(top 58)
theorem sc_fo3:aN ["depths","heights","facings","half","depth","side"] ["depths","heights"] (aH s_fo3):=fS
theorem NQ{h:List Nat}{i:Nat}{p:PI}{v:V}(hp:(IV (bW h))[i]? =some (p,v)):∃r,h[i]? =some r/\p=RM.hP r/\v=.int (bS h (RM.hP r)):=by
 unfold IV bW at hp;rw[bc,bc,bc]at hp;cases e:h[i]? with
 |none=>rw[e]at hp;cases hp
 |some r=>rw[e]at hp;cases hp;exact⟨r,rfl,rfl,rfl⟩
noncomputable def sp_fo3(K:Fg)(d:Adr):Sp:=λvs H Q _=>∃(dA hA:xv)(h:List Nat)(ht:List (PI×Int)),vs=[.ref dA,.ref hA]/\D2 H dA (IV (bW h))/\D2 H hA (IV ht)/\dA≠hA/\LR h ht/\(h.map RM.hP).Nodup/\h.length<=1024/\∀r H',a9 H H'->H r=none->D3 H' r (IV (cV h))->Q (.ref r) H'
theorem ok_fo3(F:Fun K "facings_of" "facings_of" s_fo3 f fd)(T:Txt K mg base d)(D_fo2:aO P w K mg base CX0 4 "facing_of" ["half","side","depth","heights"] (sp_fo2 K d)):bJ P w K mg base CX0 5 f fd ["depths","heights"] (sp_fo3 K d):=by
 refine F.ok sc_fo3 (λvs _ _ _ h=>ve4 vs h λ_ _ _ _ _=>rfl) (λ_ _ _ _ H vs Q E hr h=>?_);have hu:=bG hr;obtain⟨aALL_SIDES,bI,c_ALL_SIDES⟩:=T.bI;refine ve4 vs h λdA hA h ht hY=>an7 hY λhD hT nAT ok qk hl k=>?_;clear hY
 refine⟨_,(aA (psN (i:=2) sc_fo3.nd fH)
   (aA (jV (c8 PassesOwn.never rfl (wW (pv 0)) (jW rfl (aX (pgN (i:=3) sc_fo3.nd) (aX (pgN (i:=4) sc_fo3.nd) fY))) (aF (c8 PassesOwn.never rfl (lH (eE bI rfl)) (pgN (i:=5) sc_fo3.nd) (aF (gV hu (pv 2) (c9 (a7 (aY aT (pv 3) aJ (λ_ _=>rfl)) (a7 (aY aT (pv 3) aJ (λ_ _=>rfl)) (a7 (pv 5) aC)))) (pfN D_fo2 hr (a7 (pv 3) (a7 (pv 5) (a7 (pv 4) (a7 (pv 1) aC))))) rfl))))))
   (aF (aS (pv 2))))),?_⟩
 refine λf hf=>?_
 have nc:dA≠f:=aI hD hf;have lg:∀od,(upd H dA (.frz od (.dT (kvF k2 (IV (bW h)))))) f=none:=λod=>fV hD hf
 have Cu:∀od,D2 (upd H dA (.frz od (.dT (kvF k2 (IV (bW h)))))) hA (IV ht):=λod=>by unfold D2;rw[aB nAT.symm];exact hT
 refine⟨dA,.dT (kvF k2 (IV (bW h))),by rw[aB nc];exact hD,trivial,λod=>⟨_,rfl,dA,od,_,rfl,a8,xK (d:=dA) (od:=od) (kvs:=kvF k2 (IV (bW h)))
  (λi σ H2=>∃(v3 v4 v5:Option V),σ=[some (.ref dA),some (.ref hA),some (.ref f),v3,v4,v5]/\a9 (upd H dA (.frz od (.dT (kvF k2 (IV (bW h)))))) H2/\D3 H2 f (IV ((g9 ((h.map RM.hP).take i)).map λt=>(t,fN h t))))
  ⟨none,none,none,rfl,a9.both (a9.upd hf),by unfold D3;rw[aB nc.symm,a8];rfl⟩ (λi σ H2 ⟨_,_,_,_,s2,_⟩=>s2 _ _ a8) ?_ ?_⟩⟩
 ·intro i kk vv q T2' σ H2 hi hq yz hI;refine ve3 σ hI λv3 v4 v5 hY=>an2 hY λs2 hF=>?_;clear hI hY
  obtain⟨p,hp,rfl⟩:=uR hi;obtain⟨r,Ah,rfl,rfl⟩:=NQ hp;have hp2:(h.map RM.hP)[i]? =some (RM.hP r):=by rw[bc,Ah];rfl
  have sj:=BF Ah;have s3:a9 H2 (upd H2 T2' (.tup [.ref q,.int (bS h (RM.hP r))])):=a9.upd yz;refine⟨T2',_,rfl,SqT.of a8,rfl,_,_,rfl,_,_,rfl,rfl,?_⟩;have hF3:D3 (upd H2 T2' (.tup [.ref q,.int (bS h (RM.hP r))])) f _:=s3 _ _ hF;have Di:=s3 _ _ hq;have nz:=a9.trans s2 s3;generalize (upd H2 T2' (.tup [.ref q,.int (bS h (RM.hP r))]))=H3 at s3 hF3 Di nz ⊢;refine⟨_,rfl,⟨_,c_ALL_SIDES _⟩,kF (K:=K) (a:=aALL_SIDES) (xs:=[.int 0,.int 1,.int 2,.int 3]) (λj σ H4=>∃(v5:Option V),σ=[some (.ref dA),some (.ref hA),some (.ref f),some (.ref q),some (.int (bS h (RM.hP r))),v5]/\a9 (upd H dA (.frz od (.dT (kvF k2 (IV (bW h)))))) H4/\T2 H4 (.ref q) (RM.hP r)/\D3 H4 f (IV ((g9 ((h.map RM.hP).take i)++(yF (RM.hP r)).take j).map λt=>(t,fN h t))))
   ⟨v5,rfl,nz,⟨q,rfl,Di⟩,by rw[take_zero,di];exact hF3⟩ (λi σ H2 _ _=>c_ALL_SIDES H2) ?_ ?_⟩
  ·intro j x σ H4 hx hI;refine ve1 σ hI λv5 hY=>an3 hY λs4 tq hF=>?_;clear hI hY
   obtain⟨hj,rfl⟩:=oQ hx;refine⟨_,rfl,_,rfl,_,rfl,_,rfl,.ref q,r,j,h,hA,ht,rfl,tq,hj,ba Ah,R2.mono s4 (Cu od).rd,ok,λH5 s5=>?_⟩;obtain⟨_,e,hq5⟩:=tq.mono s5;cases e;refine⟨_,rfl,_,rfl,q,_,_,_,rfl,rfl,SqT.of hq5,aQ Hd rfl,_,rfl,q,_,_,_,rfl,rfl,SqT.of hq5,aQ Hd rfl,_,rfl,(by show 3<=Fh;decide),λt px=>?_⟩;have s6:a9 H5 (upd H5 t (.tup [.int (RM.hP r).1,.int (RM.hP r).2,.int (j:Int)])):=a9.upd px;have En:D3 (upd H5 t (.tup [.int (RM.hP r).1,.int (RM.hP r).2,.int (j:Int)])) f (IV ((g9 ((h.map RM.hP).take i)++(yF (RM.hP r)).take j).map λt=>(t,fN h t))):=s6 _ _ (s5 _ _ hF);refine⟨f,_,rfl,D3.put (p:=((RM.hP r).1,(RM.hP r).2,(j:Int))) En a8 _ ?_,_,rfl,a9.put (a9.trans s4 (a9.trans s5 s6)) (lg od),T2.sR (tq.mono (a9.trans s5 s6)) En (by intro _ z;cases z),?_⟩
   ·rw[fX,ai,aj,bx];have h1:=RM.G3 (h.map RM.hP) i;rw[ai]at h1;have h2:(yF (RM.hP r)).length=4:=rfl;exact few (m:=5000) Hc
   ·unfold D3;rw[a8,vI,gI,RM.G5 (RM.hP r) hj]
    ·simp
    ·rw[iG];exact RM.G4 qk hp2 hj
  ·intro σ H4 hI;refine ve1 σ hI λv5 hY=>an3 hY λs4 tq hF=>?_;clear hI hY
   refine⟨_,_,_,rfl,s4,?_⟩;rw[RM.CA hp2];exact hF
 ·intro σ H2 hI;refine ve3 σ hI λv3 v4 v5 hY=>an2 hY λs2 hF=>?_;clear hI hY
  have el:(kvF k2 (IV (bW h))).length=(h.map RM.hP).length:=by rw[fM,fX];unfold bW;rw[ai]
  rw[el,bf (aw _)]at hF;exact⟨s2 _ _ a8,_,rfl,k f _ (a9.unlock hD s2) hf (by unfold D3;rw[aB nc.symm];exact hF)⟩
abbrev s_ta:Ga:=(top 59)
theorem sc_ta:aN ["triangle","across","i","j","side"] ["triangle"] (aH s_ta):=fS
noncomputable def sp_ta(K:Fg)(d:Adr):Sp:=λvs H Q _=>∃(v:V)(t:PI3),vs=[v]/\T3 H v t/\0<=t.2.2/\t.2.2<4/\∀r H',a9 H H'->T3 H' r ((aK (t.1,t.2.1) t.2.2.toNat).1,(aK (t.1,t.2.1) t.2.2.toNat).2,(t.2.2+2)%4)->Q r H'
theorem ok_ta(F:Fun K "triangle_across" "triangle_across" s_ta f fd)(T:Txt K mg base d)(D_b:aO P w K mg base CX0 2 "beyond" ["place","direction"] (sp_b K d))(D_o:aO P w K mg base CX0 1 "opposite" ["direction"] (sp_o K d)):bJ P w K mg base CX0 3 f fd ["triangle"] (sp_ta K d):=by
 refine F.ok sc_ta (λvs _ _ _ h=>ve2 vs h λ_ _ _=>rfl) (λ_ _ _ _ H vs Q E hr h=>?_);have hu:=bG hr;refine ve2 vs h λv t hY=>an4 hY λlu h0 h4 k=>?_;clear hY h
 obtain⟨a,rfl,ha⟩:=lu;refine⟨_,(aA (nQ (pv 0) (jW rfl (aX (pgN (i:=2) sc_ta.nd) (aX (pgN (i:=3) sc_ta.nd) (aX (pgN (i:=4) sc_ta.nd) fY)))))
   (aA (psN (i:=1) sc_ta.nd (pfN D_b hr (a7 (c9 (a7 (pv 2) (a7 (pv 3) aC))) (a7 (pv 4) aC))))
   (aF (aS (c9 (a7 (aY aT (pv 1) aJ (λ_ _=>rfl)) (a7 (aY aT (pv 1) aJ (λ_ _=>rfl)) (a7 (pfN D_o hr (a7 (pv 4) aC)) aC)))))))),?_⟩
 refine⟨_,rfl,a,_,rfl,SqT.of ha,rfl,_,_,rfl,_,_,rfl,_,_,rfl,rfl,?_⟩;refine⟨_,rfl,_,rfl,(by show 2<=Fh;decide),λb hb=>?_⟩;have s1:a9 H (upd H b (.tup [.int t.1,.int t.2.1])):=a9.upd hb;refine⟨_,rfl,.ref b,(t.1,t.2.1),t.2.2.toNat,congrArg (λz=>[V.ref b,V.int z]) (dq h0).symm,T2.c ⟨b,rfl,a8⟩,Hc,λn H2 s2 t2=>?_⟩;obtain⟨na,rfl,ql⟩:=t2;refine⟨_,rfl,na,_,_,_,rfl,rfl,SqT.of ql,aQ Hd rfl,_,rfl,na,_,_,_,rfl,rfl,SqT.of ql,aQ Hd rfl,_,rfl,_,rfl,(by show 3<=Fh;decide),λc hc=>?_⟩;exact k _ _ (a9.trans s1 (a9.trans s2 (a9.upd hc))) ⟨c,rfl,a8⟩
abbrev s_tol:Ga:=(top 60)
theorem sc_tol:aN ["triangle","i","j","side"] ["triangle"] (aH s_tol):=fS
noncomputable def sp_tol(K:Fg)(d:Adr):Sp:=λvs H Q _=>∃(v:V)(t:PI3),vs=[v]/\T3 H v t/\∀r H',a9 H H'->T3 H' r (t.1,t.2.1,(t.2.2+1)%4)->Q r H'
theorem ok_tol(F:Fun K "triangle_on_left" "triangle_on_left" s_tol f fd)(T:Txt K mg base d)(D_lo:aO P w K mg base CX0 1 "left_of" ["direction"] (sp_lo K d)):bJ P w K mg base CX0 2 f fd ["triangle"] (sp_tol K d):=by
 refine F.ok sc_tol (λvs _ _ _ h=>ve2 vs h λ_ _ _=>rfl) (λ_ _ _ _ H vs Q E hr h=>?_);have hu:=bG hr;refine ve2 vs h λv t hY=>an2 hY λlu k=>?_;clear hY h
 obtain⟨a,rfl,ha⟩:=lu;refine⟨_,(aA (nQ (pv 0) (jW rfl (aX (pgN (i:=1) sc_tol.nd) (aX (pgN (i:=2) sc_tol.nd) (aX (pgN (i:=3) sc_tol.nd) fY)))))
   (aF (aS (c9 (a7 (pv 1) (a7 (pv 2) (a7 (pfN D_lo hr (a7 (pv 3) aC)) aC))))))),?_⟩
 refine⟨_,rfl,a,_,rfl,SqT.of ha,rfl,_,_,rfl,_,_,rfl,_,_,rfl,rfl,?_⟩;refine⟨_,rfl,_,rfl,_,rfl,_,rfl,(by show 3<=Fh;decide),λc hc=>?_⟩;exact k _ _ (a9.upd hc) ⟨c,rfl,a8⟩
abbrev s_tor:Ga:=(top 61)
theorem sc_tor:aN ["triangle","i","j","side"] ["triangle"] (aH s_tor):=fS
noncomputable def sp_tor(K:Fg)(d:Adr):Sp:=λvs H Q _=>∃(v:V)(t:PI3),vs=[v]/\T3 H v t/\∀r H',a9 H H'->T3 H' r (t.1,t.2.1,(t.2.2+3)%4)->Q r H'
theorem ok_tor(F:Fun K "triangle_on_right" "triangle_on_right" s_tor f fd)(T:Txt K mg base d)(D_ro:aO P w K mg base CX0 1 "right_of" ["direction"] (sp_ro K d)):bJ P w K mg base CX0 2 f fd ["triangle"] (sp_tor K d):=by
 refine F.ok sc_tor (λvs _ _ _ h=>ve2 vs h λ_ _ _=>rfl) (λ_ _ _ _ H vs Q E hr h=>?_);have hu:=bG hr;refine ve2 vs h λv t hY=>an2 hY λlu k=>?_;clear hY h
 obtain⟨a,rfl,ha⟩:=lu;refine⟨_,(aA (nQ (pv 0) (jW rfl (aX (pgN (i:=1) sc_tor.nd) (aX (pgN (i:=2) sc_tor.nd) (aX (pgN (i:=3) sc_tor.nd) fY)))))
   (aF (aS (c9 (a7 (pv 1) (a7 (pv 2) (a7 (pfN D_ro hr (a7 (pv 3) aC)) aC))))))),?_⟩
 refine⟨_,rfl,a,_,rfl,SqT.of ha,rfl,_,_,rfl,_,_,rfl,_,_,rfl,rfl,?_⟩;refine⟨_,rfl,_,rfl,_,rfl,_,rfl,(by show 3<=Fh;decide),λc hc=>?_⟩;exact k _ _ (a9.upd hc) ⟨c,rfl,a8⟩
abbrev s_nf:Ga:=(top 62)
theorem sc_nf:aN ["first","number","facings","numbers","facing","waiting","triangle"] ["first","number","facings","numbers"] (aH s_nf):=fS
noncomputable def sp_nf(K:Fg)(d:Adr):Sp:=λvs H Q _=>∃(v:V)(n:Int)(fA nA:xv)(fac kg:List (PI3×Int))(t0:PI3),vs=[v,.int n,.ref fA,.ref nA]/\T3 H v t0/\R3 H fA (IV fac)/\D3 H nA (IV kg)/\fA≠nA/\(∀t z,aP fac t=some z->0<=t.2.2/\t.2.2<4)/\(aP fac t0).isSome=true/\aP kg t0=none/\fac.length<=4096/\(kg.map (·.1)).Nodup/\(∀t∈kg.map (·.1),t∈fac.map (·.1))/\∀(N:List PI3)(H':Hp),But nA H H'->D3 H' nA (IV (kg++N.map λp=>(p,n)))->N.Nodup->(∀p,p∈N↔RM.Rch (okT (aP fac) t0) nbP (isN (aP kg)) t0 p)->Q .non H'
theorem ok_nf(F:Fun K "number_face" "number_face" s_nf f fd)(T:Txt K mg base d)(D_tol:aO P w K mg base CX0 2 "triangle_on_left" ["triangle"] (sp_tol K d))(D_tor:aO P w K mg base CX0 2 "triangle_on_right" ["triangle"] (sp_tor K d))(D_ta:aO P w K mg base CX0 3 "triangle_across" ["triangle"] (sp_ta K d)):bJ P w K mg base CX0 4 f fd ["first","number","facings","numbers"] (sp_nf K d):=by
 refine F.ok sc_nf (λvs _ _ _ h=>ve7 vs h λ_ _ _ _ _ _ _ _=>rfl) (λ_ _ _ _ H vs Q E hr h=>?_);have hu:=bG hr;refine ve7 vs h λv n fA nA fac kg t0 hY=>W8 hY λlu hF hN nFN Df h0s h0n kc nnd nsub k=>?_;clear hY h
 obtain⟨a0,rfl,ha0⟩:=lu;obtain⟨fz,hfz⟩:∃fz,aP fac t0=some fz:=by
  cases e:aP fac t0 with
  |none=>rw[e]at h0s;cases h0s
  |some z=>exact⟨z,rfl⟩
 have hFb:∀H',But nA H H'->R3 H' fA (IV fac):=λH' e=>by
  rcases hF with h|⟨o,h⟩
  ·exact .inl (e _ _ nFN h)
  ·exact .inr ⟨o,e _ _ nFN h⟩
 have d0:mG H fA (.ref a0) (some (.int fz)):=by have:=hF.get (p:=t0) ha0;rw[dN,hfz]at this;exact this
 refine⟨_,(aA (psN (i:=4) sc_nf.nd (eG hu (pv 2) (pv 0) (λ_ _=>rfl)))
   (aA (psN (i:=5) sc_nf.nd (fF (a7 (pv 0) aC)))
   (aF (lG PassesOwn.never (uA (pv 5) (λ_=>rfl)) (aA (psN (i:=6) sc_nf.nd (CO PySem.F.plainAttrs_list PySem.F.slot_list_pop PySem.F.type_list_pop D5 (pv 5)))
   (aF (cJ (PW.pt (nP (bO lM (JM hu (pv 2) (pv 6) ⟨rfl,rfl,rfl,rfl⟩) (pv 4) (bU _)) (mK (dU (d4 hu (pv 6) (pv 3)))))) (aA (gV hu (pv 3) (pv 6) (pv 1) rfl)
   (aA (dC (jA PySem.F.plainAttrs_list PySem.F.slot_list_append PySem.F.type_list_append cQ (pv 5) (a7 (pfN D_tol hr (a7 (pv 6) aC)) aC)))
   (aA (dC (jA PySem.F.plainAttrs_list PySem.F.slot_list_append PySem.F.type_list_append cQ (pv 5) (a7 (pfN D_tor hr (a7 (pv 6) aC)) aC)))
   (aF (dC (jA PySem.F.plainAttrs_list PySem.F.slot_list_append PySem.F.type_list_append cQ (pv 5) (a7 (pfN D_ta hr (a7 (pv 6) aC)) aC))))))) bF))))))),?_⟩
 refine⟨_,rfl,_,rfl,fA,_,rfl,d0,_,rfl,(by show 1<=Fh;decide),λw hw=>?_⟩;have Cn:w≠nA:=(aI hN hw).symm;have s1:a9 H (upd H w (.lst [.ref a0])):=a9.upd hw;dsimp only[jJ,G7,CC,tC];refine kX (λσ H2=>∃(xs:List V)(ws N:List PI3)(v6:Option V),σ=[some (.ref a0),some (.int n),some (.ref fA),some (.ref nA),some (.int fz),some (.ref w),v6]/\But nA H H2/\H2 w=some (.lst xs)/\Paired (T3 H2) xs ws/\D3 H2 nA (IV (kg++N.map λp=>(p,n)))/\hV (okT (aP fac) t0) nbP (isN (aP kg)) t0 N ws/\N.Nodup/\(∀p∈N,(aP fac p).isSome=true/\aP kg p=none)/\xs.length<=1+3*N.length)
  (λ_ H2=>vR H2 w+4*(10000 - n6 H2 nA))
  ⟨[.ref a0],[t0],[],none,rfl,a9.but s1,a8,.cons ⟨a0,rfl,s1 _ _ ha0⟩ .nil,by rw[je,di];exact s1 _ _ hN,hV.first,nodup_nil,λp hp=>(by cases hp),by simp⟩ ?_ (λ_ _ _ _ f ⟨v,e,k,t,q⟩=>⟨v,e,k,t,f _ _ q⟩)
 intro σ H2 hI;refine ve4 σ hI λxs ws N v6 hY=>an8 hY λb2 h2 pr hD sr Nnd Nin lxs=>?_;clear hI hY
 have yl:(kg++N.map λp=>(p,n)).map (·.1)=kg.map (·.1)++N:=by rw[cf];congr 1;rw[dt];exact map_id N
 have tot:kg.length+N.length<=4096:=by
  have hnd2:(kg.map (·.1)++N).Nodup:=by rw[da];exact⟨nnd,Nnd,λa ha b hb e=>jP.mp (Nin b hb).2 (e▸ha)⟩
  have:=c7 hnd2 (b:=fac.map (·.1)) λp hp=>by
   rcases ax.mp hp with hp|hp
   ·exact nsub p hp
   ·exact(aV p fac).mp (Nin p hp).1
  rw[aj,ai,ai]at this;omega
 refine⟨_,rfl,_,.inl ⟨_,SqL.of h2,rfl⟩,?_⟩;refine cK (λcq=>?_) (λcq=>?_)
 ·have jw:xs≠[]:=by intro z;rw[z]at cq;cases cq
  have hpos:0<xs.length:=fy.mpr jw;obtain⟨y,hy⟩:∃y,xs[xs.length - 1]? =some y:=⟨_,cc Hc⟩
  obtain⟨q,hq,ty⟩:=pairs_at pr hy;have ews:=N6 (pairs_len pr).symm hq;refine⟨_,rfl,.inl ⟨rfl,_,SqL.of h2⟩,w,xs,y,rfl,rfl,h2,hy,?_⟩;have b4:But nA H (upd H2 w (.lst xs.dropLast)):=b2.put hw;have wy:Paired (T3 (upd H2 w (.lst xs.dropLast))) xs.dropLast ws.dropLast:=aM (λ_ _ z=>z.upd h2) (fJ pr);have md:D3 (upd H2 w (.lst xs.dropLast)) nA (IV (kg++N.map λp=>(p,n))):=by unfold D3;rw[aB Cn.symm];exact hD
  have Bz:T3 (upd H2 w (.lst xs.dropLast)) y q:=ty.upd h2;have h4:(upd H2 w (.lst xs.dropLast)) w=some (.lst xs.dropLast):=a8;have ml:vR H2 w=xs.length:=mT h2;have mt:n6 H2 nA=kg.length+N.length:=by rw[K5 hD,fX,aj,ai]
  generalize (upd H2 w (.lst xs.dropLast))=H4 at b4 wy md Bz h4 ⊢;rw[ews]at sr;obtain⟨ya,rfl,xf⟩:=Bz;have ld:xs.dropLast.length=xs.length - 1:=gr ..;have less:vR H4 w+4*(10000 - n6 H4 nA)<vR H2 w+4*(10000 - n6 H2 nA):=by rw[ml,mt,mT h4,K5 md,fX,aj,ai,ld];omega
  have o0:okT (aP fac) t0 t0:=rfl;have u0:¬isN (aP kg) t0:=by unfold isN;rw[h0n];intro z;cases z
  have skip:(¬okT (aP fac) t0 q\/isN (aP kg) q\/q∈N)->∃(oq:List V)(ws' N':List PI3)(v6':Option V),([some (.ref a0),some (.int n),some (.ref fA),some (.ref nA),some (.int fz),some (.ref w),some (.ref ya)]:List (Option V))=[some (.ref a0),some (.int n),some (.ref fA),some (.ref nA),some (.int fz),some (.ref w),v6']/\But nA H H4/\H4 w=some (.lst oq)/\Paired (T3 H4) oq ws'/\D3 H4 nA (IV (kg++N'.map λp=>(p,n)))/\hV (okT (aP fac) t0) nbP (isN (aP kg)) t0 N' ws'/\N'.Nodup/\(∀p∈N',(aP fac p).isSome=true/\aP kg p=none)/\oq.length<=1+3*N'.length:=
   λz=>⟨xs.dropLast,ws.dropLast,N,some (.ref ya),rfl,b4,h4,wy,md,sr.pop o0 u0 z,Nnd,Nin,Hc⟩
  have gq:=(hFb H4 b4).get (p:=q) xf;rw[dN]at gq;cases eq:aP fac q with
  |none=>rw[eq]at gq;refine⟨_,rfl,fA,rfl,.inr ⟨_,hFb H4 b4⟩,_,rfl,_,gq,_,rfl,rfl,_,rfl,?_⟩;refine⟨skip (.inl λz=>?_),less⟩;have z:aP fac q=aP fac t0:=z;rw[eq,hfz]at z;cases z
  |some z=>
   rw[eq]at gq;refine⟨_,rfl,fA,rfl,.inr ⟨_,hFb H4 b4⟩,_,rfl,_,gq,_,rfl,rfl,_,rfl,?_⟩;refine cK (λc1=>?_) (λc1=>DJ ⟨skip (.inl λz'=>c1 (decide_eq_true ?_)),less⟩)
   ·have c1:z=fz:=V.int.inj (bq c1);have okq:okT (aP fac) t0 q:=by
     show aP fac q=aP fac t0
     rw[eq,hfz,c1]
    refine⟨_,rfl,_,rfl,nA,_,rfl,R3.get (p:=q) md.rd xf,_,rfl,?_⟩;rw[LQ];refine cK (λc2=>?_) (λc2=>?_)
    ·have c2:q∉ (kg++N.map λp=>(p,n)).map (·.1):=λz=>by rw[(aV q _).mpr z]at c2;cases c2
     have c3:q∉kg.map (·.1)/\q∉N:=by rw[yl]at c2;exact⟨λz=>c2 (cg _ z),λz=>c2 (bg _ z)⟩
     have nq:=jP.mpr c3.1;have uq:¬isN (aP kg) q:=by unfold isN;rw[nq];intro z;cases z
     have sr5:=sr.push okq uq;obtain⟨sd0,sd4⟩:=Df q z eq;refine⟨_,rfl,_,rfl,_,rfl,nA,_,rfl,D3.put md xf _ (by rw[fX,aj,ai];exact few (m:=5000) Hc),?_⟩;rw[vI,gI _ c2];have eN:kg++N.map (λp=>(p,n))++[(q,n)]=kg++(N++[q]).map λp=>(p,n):=by simp
     rw[eN];have xy:H4 nA=some (.dT (kvF k3 (IV (kg++N.map λp=>(p,n))))):=md;have tK:∀{v:V}{p:PI3},T3 H4 v p->T3 (upd H4 nA (.dT (kvF k3 (IV (kg++(N++[q]).map λp=>(p,n)))))) v p:=λt=>t.sR xy (by intro _ z;cases z)
     have b5:But nA H (upd H4 nA (.dT (kvF k3 (IV (kg++(N++[q]).map λp=>(p,n)))))):=b4.here;have h5:(upd H4 nA (.dT (kvF k3 (IV (kg++(N++[q]).map λp=>(p,n)))))) w=some (.lst xs.dropLast):=by rw[aB Cn];exact h4
     have yh:=aM (λ_ _ t=>tK t) wy;have ty5:=tK ⟨ya,rfl,xf⟩;have mm:D3 (upd H4 nA (.dT (kvF k3 (IV (kg++(N++[q]).map λp=>(p,n)))))) nA (IV (kg++(N++[q]).map λp=>(p,n))):=a8;generalize (upd H4 nA (.dT (kvF k3 (IV (kg++(N++[q]).map λp=>(p,n))))))=H5 at b5 h5 yh ty5 mm ⊢;refine⟨_,rfl,.inl ⟨rfl,_,SqL.of h5⟩,_,rfl,.ref ya,q,rfl,ty5,λr1 H6 s6 t6=>?_⟩;have h6:=s6 _ _ h5;refine⟨w,xs.dropLast,r1,rfl,rfl,h6,few (m:=20000) Hc,?_⟩;have b7:But nA H (upd H6 w (.lst (xs.dropLast++[r1]))):=(b5.trans (a9.but s6)).put hw;have pr7:Paired (T3 (upd H6 w (.lst (xs.dropLast++[r1])))) (xs.dropLast++[r1]) (ws.dropLast++[(q.1,q.2.1,(q.2.2+1)%4)]):=bC (t6.upd h6) (aM (λ_ _ t=>(t.mono s6).upd h6) yh);have ty7:T3 (upd H6 w (.lst (xs.dropLast++[r1]))) (.ref ya) q:=(ty5.mono s6).upd h6;have Bu:D3 (upd H6 w (.lst (xs.dropLast++[r1]))) nA (IV (kg++(N++[q]).map λp=>(p,n))):=by unfold D3;rw[aB Cn.symm];exact s6 _ _ mm
     have h7:(upd H6 w (.lst (xs.dropLast++[r1]))) w=some (.lst (xs.dropLast++[r1])):=a8;generalize (upd H6 w (.lst (xs.dropLast++[r1])))=H7 at b7 pr7 ty7 Bu h7 ⊢;refine⟨_,rfl,.inl ⟨rfl,_,SqL.of h7⟩,_,rfl,.ref ya,q,rfl,ty7,λr2 H8 s8 t8=>?_⟩;have h8:=s8 _ _ h7;refine⟨w,_,r2,rfl,rfl,h8,few (m:=20000) (by rw[aj];simp;omega),?_⟩;have b9:But nA H (upd H8 w (.lst (xs.dropLast++[r1]++[r2]))):=(b7.trans (a9.but s8)).put hw;have pr9:=bC (t8.upd (o:=.lst (xs.dropLast++[r1]++[r2])) h8) (aM (λ_ _ t=>(t.mono s8).upd h8) pr7);have ty9:T3 (upd H8 w (.lst (xs.dropLast++[r1]++[r2]))) (.ref ya) q:=(ty7.mono s8).upd h8;have Bt:D3 (upd H8 w (.lst (xs.dropLast++[r1]++[r2]))) nA (IV (kg++(N++[q]).map λp=>(p,n))):=by unfold D3;rw[aB Cn.symm];exact s8 _ _ Bu
     have h9:(upd H8 w (.lst (xs.dropLast++[r1]++[r2]))) w=some (.lst (xs.dropLast++[r1]++[r2])):=a8;generalize (upd H8 w (.lst (xs.dropLast++[r1]++[r2])))=H9 at b9 pr9 ty9 Bt h9 ⊢;refine⟨_,rfl,.inl ⟨rfl,_,SqL.of h9⟩,_,rfl,.ref ya,q,rfl,ty9,sd0,sd4,λr3 HA sA tA=>?_⟩;have hA:=sA _ _ h9;have hDA:D3 (upd HA w (.lst (xs.dropLast++[r1]++[r2]++[r3]))) nA (IV (kg++(N++[q]).map λp=>(p,n))):=by unfold D3;rw[aB Cn.symm];exact sA _ _ Bt
     refine⟨w,_,r3,rfl,rfl,hA,few (m:=20000) (by rw[aj,aj];simp;omega),⟨_,_,N++[q],_,rfl,(b9.trans (a9.but sA)).put hw,a8,bC (tA.upd hA) (aM (λ_ _ t=>(t.mono sA).upd hA) pr9),hDA,?_,?_,?_,?_⟩,?_⟩
     ·have e:ws.dropLast++nbP q=ws.dropLast++[(q.1,q.2.1,(q.2.2+1)%4)]++[(q.1,q.2.1,(q.2.2+3)%4)]++[((aK (q.1,q.2.1) q.2.2.toNat).1,(aK (q.1,q.2.1) q.2.2.toNat).2,(q.2.2+2)%4)]:=by unfold nbP;simp
      rw[e]at sr5;exact sr5
     ·rw[da];exact⟨Nnd,by simp,λa ha b hb e=>c3.2 (by simp at hb;rw[<- hb,<- e];exact ha)⟩
     ·intro p hp;rcases ax.mp hp with hp|hp
      ·exact Nin p hp
      ·have:p=q:=by simpa using hp
       rw[this];exact⟨by rw[eq];rfl,nq⟩
     ·simp only[aj,bo,fh];omega
     ·rw[ml,mt,mT a8,K5 hDA,fX];simp only[aj,ai,bo,fh];omega
    ·have c2:q∈kg.map (·.1)++N:=by
      rw[<- yl];refine(aV q _).mp ?_;cases e:(aP (kg++N.map λp=>(p,n)) q).isSome with
      |true=>rfl
      |false=>rw[e]at c2;exact absurd rfl c2
     refine⟨skip (.inr ?_),less⟩;rcases ax.mp c2 with z|z
     ·exact .inl ((aV q kg).mpr z)
     ·exact .inr z
   ·have z':aP fac q=aP fac t0:=z';rw[eq,hfz]at z';rw[Option.some.inj z'];rfl
 ·have e:xs=[]:=by
   cases xs with
   |nil=>rfl
   |cons _ _=>exact absurd rfl cq
  subst e;cases pr;exact k N H2 b2 hD Nnd λp=>sr.done p
abbrev s_no:Ga:=(top 63)
theorem sc_no:aN ["facings","numbers","count","triangle"] ["facings"] (aH s_no):=fS
noncomputable def sp_no(K:Fg)(d:Adr):Sp:=λvs H Q _=>∃(fA:xv)(h:List Nat),vs=[.ref fA]/\D3 H fA (IV (cV h))/\(∀r∈h,okR r)/\h.length<=1024/\∀r Ns H',a9 H H'->H r=none->D3 H' r (IV (aD 0 Ns))->Numbering h (Fd h).length Ns->Q (.ref r) H'
theorem ok_no(F:Fun K "numbers_of" "numbers_of" s_no f fd)(T:Txt K mg base d)(D_nf:aO P w K mg base CX0 4 "number_face" ["first","number","facings","numbers"] (sp_nf K d)):bJ P w K mg base CX0 5 f fd ["facings"] (sp_no K d):=by
 refine F.ok sc_no (λvs _ _ _ h=>ve2 vs h λ_ _ _=>rfl) (λ_ _ _ _ H vs Q E hr h=>?_);have hu:=bG hr;refine ve2 vs h λfA h hY=>an4 hY λhF hok hl k=>?_;clear hY
 have tl:=zV h;have ka:(Fd h).length<Roof.NONE:=by unfold Roof.NONE;omega
 have fl:(cV h).length<=4096:=by have:=congrArg List.length (mW h);rw[ai,ai]at this;omega
 refine⟨_,(aA (psN (i:=1) sc_no.nd fH)
   (aA (psN (i:=2) sc_no.nd aJ)
   (aA (jV (c8 PassesOwn.never rfl (mL (pv 0)) (pgN (i:=3) sc_no.nd) (aF (cJ (dU (d4 hu (pv 3) (pv 1))) (aA (dC (pfN D_nf hr (a7 (pv 3) (a7 (pv 2) (a7 (pv 0) (a7 (pv 1) aC))))))
   (aF (JF (i:=2) sc_no.nd rfl (Or.inl rfl) aJ KI))) bF))))
   (aF (aS (pv 1)))))),?_⟩
 refine λf hf=>?_
 have nc:fA≠f:=aI hF hf;have lg:∀od,(upd H fA (.frz od (.dT (kvF k3 (IV (cV h)))))) f=none:=λod=>fV hF hf
 refine⟨fA,.dT (kvF k3 (IV (cV h))),by rw[aB nc];exact hF,trivial,λod=>⟨_,rfl,fA,od,rfl,.inr ⟨_,a8,lV (d:=fA) (od:=od) (kvs:=kvF k3 (IV (cV h)))
  (λi σ H2=>∃(Ns:List (List PI3))(v3:Option V),σ=[some (.ref fA),some (.ref f),some (.int (Ns.length:Nat)),v3]/\a9 (upd H fA (.frz od (.dT (kvF k3 (IV (cV h)))))) H2/\D3 H2 f (IV (aD 0 Ns))/\Numbering h i Ns)
  ⟨[],none,rfl,a9.both (a9.upd hf),by unfold D3;rw[aB nc.symm,a8];rfl,Numbering.start hok⟩ (λi σ H2 ⟨_,_,_,s2,_⟩=>s2 _ _ a8) ?_ ?_⟩⟩⟩
 ·intro i kk vv q σ H2 hi hq hI;refine ve2 σ hI λNs v3 hY=>an3 hY λs2 hD R=>?_;clear hI hY
  obtain⟨t,ht,rfl⟩:=DE hi;obtain⟨tn,qg,rfl⟩:∃tn,(Fd h)[i]? =some tn/\t=tP tn:=by
   have:=congrArg (Option.map Prod.fst) ht;rw[<- bc,tF,mW,bc]at this;cases e:(Fd h)[i]? with
   |none=>rw[e]at this;cases this
   |some tn=>rw[e]at this;exact⟨tn,rfl,(Option.some.inj this).symm⟩
  have hm:=ba qg;refine⟨_,rfl,_,rfl,f,_,rfl,R3.get (p:=tP tn) hD.rd hq,_,rfl,?_⟩;rw[LQ];refine cK (λc1=>?_) (λc1=>?_)
  ·have c1:aP (aD 0 Ns) (tP tn)=none:=by
    cases e:aP (aD 0 Ns) (tP tn)with
    |none=>rfl
    |some z=>rw[e]at c1;cases c1
   obtain⟨lab,firsts,O,_,_⟩:=R.ex;have me:=FD hok tn hm;refine⟨_,rfl,_,rfl,_,rfl,_,rfl,.ref q,(Ns.length:Int),fA,f,cV h,aD 0 Ns,tP tn,rfl,⟨q,rfl,hq⟩,.inr ⟨od,s2 _ _ a8⟩,hD,nc,λt z e=>RM.HL e,by rw[me];rfl,c1,fl,by rw[aU];exact O.nd,λt ht=>by rw[aU]at ht;rw[mW];exact O.sub t ht,λN H3 b3 mz nd3 hN=>?_⟩;have s3:a9 (upd H fA (.frz od (.dT (kvF k3 (IV (cV h)))))) H3:=But.same b3 s2 (lg od);refine⟨_,rfl,_,_,rfl,rfl,Ns++[N],some (.ref q),?_,s3,by rw[RM.jB];exact mz,R.face hok (λt ht=>FD hok t ht) (λp hp=>RM.BL h p hp) ka qg c1 hN nd3⟩;have el:((Ns++[N]).length:Int)=(Ns.length:Int)+1:=by rw[aj];simp
   rw[el];rfl
  ·have c1:(aP (aD 0 Ns) (tP tn)).isSome=true:=by
    cases e:(aP (aD 0 Ns) (tP tn)).isSome with
    |true=>rfl
    |false=>rw[e]at c1;exact absurd rfl c1
   exact⟨Ns,_,rfl,s2,hD,R.skip qg c1⟩
 ·intro σ H2 hI;refine ve2 σ hI λNs v3 hY=>an3 hY λs2 hD R=>?_;clear hI hY
  have el:(kvF k3 (IV (cV h))).length=(Fd h).length:=by have:=congrArg List.length (mW h);rw[ai,ai]at this;rw[fM,fX,this]
  rw[el]at R;exact⟨s2 _ _ a8,_,rfl,k f Ns _ (a9.unlock hF s2) hf (by unfold D3;rw[aB nc.symm];exact hD) R⟩
abbrev s_fo:Ga:=(top 64)
theorem sc_fo:aN ["numbers","faces","triangle","number"] ["numbers"] (aH s_fo):=fS
noncomputable def sp_fo(K:Fg)(d:Adr):Sp:=λvs H Q _=>∃(nA:xv)(Ns:List (List PI3)),vs=[.ref nA]/\D3 H nA (IV (aD 0 Ns))/\(∀N∈Ns,N≠[])/\(aD 0 Ns).length<=4096/\∀r H',a9 H H'->H r=none->LLS H' r Ns->Q (.ref r) H'
theorem ok_fo(F:Fun K "faces_of" "faces_of" s_fo f fd)(T:Txt K mg base d):bJ P w K mg base CX0 1 f fd ["numbers"] (sp_fo K d):=by
 refine F.ok sc_fo (λvs _ _ _ h=>ve2 vs h λ_ _ _=>rfl) (λ_ _ _ _ H vs Q E hr h=>?_);have hu:=bG hr;refine ve2 vs h λnA Ns hY=>an4 hY λhN jw hl k=>?_;clear hY h
 refine⟨_,(aA (psN (i:=1) sc_fo.nd (fF aC))
   (aA (jV (c8 PassesOwn.never rfl (wW (pv 0)) (jW rfl (aX (pgN (i:=2) sc_fo.nd) (aX (pgN (i:=3) sc_fo.nd) fY))) (aA (cJ (bO lM (pv 3) (bP cD Hi T.len PySem.boot_len (a7 (pv 1) aC)) (bU _)) (aF (dC (jA PySem.F.plainAttrs_list PySem.F.slot_list_append PySem.F.type_list_append cQ (pv 1) (a7 (fF aC) aC)))) bF)
   (aF (dC (jA PySem.F.plainAttrs_list PySem.F.slot_list_append PySem.F.type_list_append cQ (aY gY (pv 1) (pv 3) (λ_ _=>rfl)) (a7 (pv 2) aC)))))))
   (aF (aS (pv 1))))),?_⟩
 refine⟨cn _,λf hf=>?_⟩;have nc:nA≠f:=aI hN hf;have lg:∀od,(upd H nA (.frz od (.dT (kvF k3 (IV (aD 0 Ns)))))) f=none:=λod=>fV hN hf
 refine⟨nA,.dT (kvF k3 (IV (aD 0 Ns))),by rw[aB nc];exact hN,trivial,λod=>⟨_,rfl,nA,od,_,rfl,a8,xK (d:=nA) (od:=od) (kvs:=kvF k3 (IV (aD 0 Ns)))
  (λi σ H2=>∃(bs:List xv)(Fs:List (List PI3))(v2 v3:Option V),σ=[some (.ref nA),some (.ref f),v2,v3]/\a9 (upd H nA (.frz od (.dT (kvF k3 (IV (aD 0 Ns)))))) H2/\H2 f=some (.lst (bs.map V.ref))/\Paired (LS H2) bs Fs/\(f::bs).Nodup/\(∀b∈bs,(upd H nA (.frz od (.dT (kvF k3 (IV (aD 0 Ns)))))) b=none)/\rE Ns i Fs)
  ⟨[],[],none,none,rfl,a9.both (a9.upd hf),by rw[aB nc.symm,a8];rfl,.nil,by simp,λb hb=>(by cases hb),rE.start Ns⟩ (λi σ H2 ⟨_,_,_,_,_,s2,_⟩=>s2 _ _ a8) ?_ ?_⟩⟩
 ·intro i kk vv q T' σ H2 hi hq hT' hI;refine ve4 σ hI λbs Fs v2 v3 hY=>an6 hY λs2 hf2 pr nd fr pre=>?_;clear hI hY
  obtain⟨t,ht,rfl⟩:=DE hi;obtain⟨m,hm,rfl⟩:∃m,(aD 0 Ns)[i]? =some (t,m)/\vv=.int m:=by
   unfold IV at ht;rw[bc]at ht;cases e:(aD 0 Ns)[i]? with
   |none=>rw[e]at ht;cases ht
   |some x=>rw[e]at ht;cases ht;exact⟨x.2,rfl,rfl⟩
  have s3:a9 H2 (upd H2 T' (.tup [.ref q,.int m])):=a9.upd hT';refine⟨T',_,rfl,SqT.of a8,rfl,_,_,rfl,_,_,rfl,rfl,?_⟩;have nz:=a9.trans s2 s3;have Au:=s3 _ _ hf2;have Be:T3 (upd H2 T' (.tup [.ref q,.int m])) (.ref q) t:=⟨q,rfl,s3 _ _ hq⟩;have pf:=aM (λ_ _ z=>LS.mono s3 z) pr;generalize (upd H2 T' (.tup [.ref q,.int m]))=H3 at s3 nz Au Be pf ⊢;have sj:=BF hm;have lb:=pairs_len pr;have lFs:Fs.length<=4096:=by have h1:=RM.lX pre.ne;have h2:=congrArg List.length (aU Fs 0);rw[ai,pre.eq,bx]at h2;omega
  have fin:∀(H5:Hp)(cs:List xv)(b:xv)(F:List (List PI3))(L:List PI3),a9 (upd H nA (.frz od (.dT (kvF k3 (IV (aD 0 Ns)))))) H5->H5 f=some (.lst ((cs++[b]).map V.ref))->Paired (LS H5) cs F->LS H5 b L->(f::(cs++[b])).Nodup->(∀c∈cs++[b],(upd H nA (.frz od (.dT (kvF k3 (IV (aD 0 Ns)))))) c=none)->T3 H5 (.ref q) t->m=(F.length:Int)->rE Ns (i+1) (F++[L++[t]]) ->
    ∃ys,H5 b=some (.lst ys)/\ys.length<=4096/\((cs++[b]).map V.ref)[m.toNat]? =some (.ref b)/\∃(bs:List xv)(Fs:List (List PI3))(v2 v3:Option V),([some (.ref nA),some (.ref f),some (.ref q),some (.int m)]:List (Option V))=[some (.ref nA),some (.ref f),v2,v3]/\a9 (upd H nA (.frz od (.dT (kvF k3 (IV (aD 0 Ns)))))) (upd H5 b (.lst (ys++[.ref q])))/\(upd H5 b (.lst (ys++[.ref q]))) f=some (.lst (bs.map V.ref))/\Paired (LS (upd H5 b (.lst (ys++[.ref q])))) bs Fs/\(f::bs).Nodup/\(∀b∈bs,(upd H nA (.frz od (.dT (kvF k3 (IV (aD 0 Ns)))))) b=none)/\rE Ns (i+1) Fs:=by
   intro H5 cs b F L s5 hf5 pF pL nd5 fr5 tq5 em sq;obtain⟨ys,hb5,py⟩:=pL;have hat:((cs++[b]).map V.ref)[m.toNat]? =some (.ref b):=by
    have e1:m.toNat=F.length:=Hc
    have e2:=pairs_len pF;rw[e1,<- e2,cf,dv (by simp)];simp
   have ly:=pairs_len py;have lL:L.length<=4096:=by have h2:=congrArg List.length sq.eq;have h3:=congrArg List.length (aU (F++[L++[t]]) 0);rw[ai]at h3;rw[bx]at h2;rw[gi,aj]at h3;simp at h3;omega
   have ndp:=dh.mp nd5;have nbf:b≠f:=λz=>ndp.1 (z▸bg _ ay)
   have ncb:∀c∈cs,c≠b:=λc hc=>(da.mp ndp.2).2.2 c hc b ay
   refine⟨ys,hb5,Hc,hat,cs++[b],F++[L++[t]],_,_,rfl,a9.put s5 (fr5 b (bg _ ay)),by rw[aB nbf.symm];exact hf5,?_,nd5,fr5,sq⟩;exact bC ⟨ys++[.ref q],a8,bC (tq5.upd hb5) (aM (λ_ _ z=>z.upd hb5) py)⟩ (aM (λc G ⟨hc,_,z⟩=>z.upd hb5 (ncb c hc)) (mM pF))
  refine⟨_,rfl,_,rfl,f,_,rfl,.inl (SqL.of Au),rfl,_,rfl,?_⟩;rw[ai,lb];rcases pre.step jw hm with⟨em,sq⟩|⟨F,L,eF,em,sq⟩
  ·refine cK (λc1=>?_) (λc1=>absurd (decide_eq_true (by rw[em])) c1);refine⟨_,rfl,.inl ⟨rfl,_,SqL.of Au⟩,cn _,λl rj=>?_⟩;have s4:a9 H3 (upd H3 l (.lst [])):=a9.upd rj;have hf4:=s4 _ _ Au;have nlf:l≠f:=λz=>by rw[z,Au]at rj;cases rj
   refine⟨f,_,.ref l,rfl,rfl,hf4,by rw[ai,lb];exact few (m:=4096) lFs,?_⟩;have nlb:∀b∈bs,b≠l:=λb hb z=>by obtain⟨j,hj⟩:=gp.mp hb;obtain⟨_,_,⟨ys,hy,_⟩⟩:=pairs_at pf hj;rw[z,rj]at hy;cases hy
   have nbf:∀b∈bs,b≠f:=λb hb z=>(dh.mp nd).1 (z▸hb)
   have eb:bs.map V.ref++[V.ref l]=(bs++[l]).map V.ref:=by simp
   rw[eb];have hf5:(upd (upd H3 l (.lst [])) f (.lst ((bs++[l]).map V.ref))) f=some (.lst ((bs++[l]).map V.ref)):=a8;obtain⟨ys,y1,y2,y3,y4⟩:=fin (upd (upd H3 l (.lst [])) f (.lst ((bs++[l]).map V.ref))) bs l Fs [] (a9.put (a9.trans nz s4) (lg od)) hf5 (aM (λb F ⟨hb,_,z⟩=>(LS.mono s4 z).upd hf4 (nbf b hb)) (mM pf)) ⟨[],by rw[aB nlf,a8],.nil⟩ (by
     rw[dh]at nd ⊢;refine⟨λz=>?_,?_⟩
     ·rcases ax.mp z with z|z
      ·exact nd.1 z
      ·exact nlf (iz.mp z).symm
     ·rw[da];exact⟨nd.2,by simp,λa ha b hb e=>nlb a ha (by simp at hb;rw[e,hb])⟩) (by
     intro c hc;rcases ax.mp hc with hc|hc
     ·exact fr c hc
     ·have:c=l:=by simpa using hc
      rw[this];exact nz.free rj) ((Be.mono s4).upd hf4) em sq
   exact⟨_,rfl,_,rfl,f,_,_,_,rfl,rfl,SqL.of hf5,aQ Hc y3,.inl ⟨rfl,_,SqL.of y1⟩,_,rfl,l,ys,.ref q,rfl,rfl,y1,few y2,y4⟩
  ·refine cK (λc1=>?_) (λc1=>?_)
   ·have c1:=V.int.inj (bq c1);rw[eF,aj]at c1;simp at c1;omega
   ·subst eF;obtain⟨cs,b,eb,p1,p2⟩:=rQ pf;subst eb;obtain⟨ys,y1,y2,y3,y4⟩:=fin _ cs b F L nz Au p1 p2 nd fr Be em sq;exact⟨_,rfl,_,rfl,f,_,_,_,rfl,rfl,SqL.of Au,aQ Hc y3,.inl ⟨rfl,_,SqL.of y1⟩,_,rfl,b,ys,.ref q,rfl,rfl,y1,few y2,y4⟩
 ·intro σ H2 hI;refine ve4 σ hI λbs Fs v2 v3 hY=>an6 hY λs2 hf2 pr nd fr pre=>?_;clear hI hY
  have el:(kvF k3 (IV (aD 0 Ns))).length=(aD 0 Ns).length:=by rw[fM,fX]
  rw[el]at pre;have e:=pre.done jw;subst e;have hN2:H2 nA=some (.frz od (.dT (kvF k3 (IV (aD 0 Fs))))):=s2 _ _ a8;refine⟨hN2,_,rfl,k f _ (a9.unlock hN s2) hf ⟨bs,by rw[aB nc.symm];exact hf2,aM (λb F ⟨xs,h1,h2⟩=>⟨xs,?_,aM (λ_ _ z=>z.sR hN2 (by intro _ z;cases z)) h2⟩) pr⟩⟩;rw[aB (fK h1 hN2 (by intro z;cases z))];exact h1
abbrev s_i:Ga:=(inClass (top 56) 0)
theorem sc_i:aN ["self","cells"] ["self","cells"] (aH s_i):=fS
structure zN(C:List (Nat×Nat))(R:xv)(H:Hp)(x:xv)(cA dA hA fA nA gA:xv)(ht:List (PI×Int))(Ns:List (List PI3)):Prop where
 ins:∃dx fs,H x=some (.ins R dx fs)/\fs.lookup ("cells" : Str)=some (.ref cA)/\fs.lookup ("depths" : Str)=some (.ref dA)/\fs.lookup ("heights" : Str)=some (.ref hA)/\fs.lookup ("facings" : Str)=some (.ref fA)/\fs.lookup ("numbers" : Str)=some (.ref nA)/\fs.lookup ("faces" : Str)=some (.ref gA)
 cells:D2 H cA (CS C)
 a0O:D2 H dA (IV (bW (Fc C)))
 WC:D2 H hA (IV ht)
 hok:LR (Fc C) ht
 NJ:D3 H fA (IV (cV (Fc C)))
 MQ:D3 H nA (IV (aD 0 Ns))
 nok:Numbering (Fc C) (Fd (Fc C)).length Ns
 faces:LLS H gA Ns
 apart:[cA,dA,hA,fA,nA,gA].Nodup
theorem LLS.WI{H:Hp}{a x:xv}{Fs:List (List PI3)}{C dx:xv}{fs:List (Str×V)}{o:HO}(h:LLS H a Fs)(hx:H x=some (.ins C dx fs)):LLS (upd H x o) a Fs:=by obtain⟨bs,h1,h2⟩:=h;refine⟨bs,by rw[aB (fK h1 hx (by intro z;cases z))];exact h1,aM (λb F ⟨xs,e1,e2⟩=>⟨xs,by rw[aB (fK e1 hx (by intro z;cases z))];exact e1,aM (λ_ _ z=>z.sR hx (by intro _ z;cases z)) e2⟩) h2⟩
noncomputable def sp_i(K:Fg)(d:Adr):Sp:=λvs H Q _=>∃(x dx cA:xv)(C:List (Nat×Nat)),vs=[.ref x,.ref cA]/\H x=some (.ins d.Roof dx [])/\D2 H cA (CS C)/\C.Nodup/\(Hh C)/\C.length<=256/\C≠[]/\∀dA hA fA nA gA ht Ns H',(∀b o,H b=some o->b≠x->H' b=some o)->zN C d.Roof H' x cA dA hA fA nA gA ht Ns->Q .non H'
theorem ok_i(F:Fun K "__init__" "Roof.__init__" s_i f fd)(T:Txt K mg base d)(D_do:aO P w K mg base CX0 6 "depths_of" ["cells"] (sp_do K d))(D_ho2:aO P w K mg base CX0 3 "heights_of" ["depths"] (sp_ho2 K d))(D_fo3:aO P w K mg base CX0 5 "facings_of" ["depths","heights"] (sp_fo3 K d))(D_no:aO P w K mg base CX0 5 "numbers_of" ["facings"] (sp_no K d))(D_fo:aO P w K mg base CX0 1 "faces_of" ["numbers"] (sp_fo K d)):bJ P w K mg base CX0 7 f fd ["self","cells"] (sp_i K d):=by
 refine F.ok sc_i (λvs _ _ _ h=>ve4 vs h λ_ _ _ _ _=>rfl) (λ_ _ _ _ H vs Q E hr h=>?_);have hu:=bG hr;refine ve4 vs h λx dx cA C hY=>an7 hY λhx hC nd bd jt jw k=>?_;clear hY h
 have hok:=aL bd;have hhl:=g7 C;have hl:(Fc C).length<=1024:=Hc
 have qk:((Fc C).map RM.hP).Nodup:=d5 ((fZ nd bd).imp λ{a b} h e=>by omega) λa ha b hb e=>kC (hok a ha) (hok b hb) e
 refine⟨_,(aA (qL (pv 0) (pv 1) rfl)
   (aA (qL (pv 0) (pfN D_do hr (a7 (pv 1) aC)) rfl)
   (aA (qL (pv 0) (pfN D_ho2 hr (a7 (fG (pv 0) rfl) aC)) rfl)
   (aA (qL (pv 0) (pfN D_fo3 hr (a7 (fG (pv 0) rfl) (a7 (fG (pv 0) rfl) aC))) rfl)
   (aA (qL (pv 0) (pfN D_no hr (a7 (fG (pv 0) rfl) aC)) rfl)
   (aF (qL (pv 0) (pfN D_fo hr (a7 (fG (pv 0) rfl) aC)) rfl))))))),?_⟩
 refine⟨_,rfl,_,rfl,x,d.Roof,dx,[],rfl,hx,T.bY,T.MV,Hd,?_⟩;have zr:cA≠x:=fK hC hx (by intro z;cases z);have c1:But x H (upd H x (.ins d.Roof dx (bT "cells" (.ref cA) []))):=(But.refl x H).here;have x1:(upd H x (.ins d.Roof dx (bT "cells" (.ref cA) []))) x=some (.ins d.Roof dx (bT "cells" (.ref cA) [])):=a8;have l1:=dH "cells" (.ref cA) [];generalize e1:bT "cells" (V.ref cA) []=fs1 at c1 x1 l1 ⊢;have q1:fs1.lookup ("cells" : Str)=some (.ref cA):=by rw[<- e1,bM,ah rfl]
 generalize (upd H x (.ins d.Roof dx fs1))=H1 at c1 x1 ⊢;have hC1:D2 H1 cA (CS C):=c1 _ _ zr hC;refine⟨_,rfl,cA,C,rfl,hC1,nd,bd,jt,jw,λdA H2 s2 fd2 Eo=>?_⟩;refine⟨_,rfl,x,d.Roof,dx,fs1,rfl,s2 _ _ x1,T.bY,T.uI,by simp at l1;omega,?_⟩;have c2:But x H (upd H2 x (.ins d.Roof dx (bT "depths" (.ref dA) fs1))):=(c1.trans (a9.but s2)).here;have x2:(upd H2 x (.ins d.Roof dx (bT "depths" (.ref dA) fs1))) x=some (.ins d.Roof dx (bT "depths" (.ref dA) fs1)):=a8;have yk:dA≠x:=fK Eo (s2 _ _ x1) (by intro z;cases z);have mz:D2 (upd H2 x (.ins d.Roof dx (bT "depths" (.ref dA) fs1))) dA (IV (bW (Fc C))):=by unfold D2;rw[aB yk];exact Eo
 have l2:=dH "depths" (.ref dA) fs1;have a2:∀g,g≠("depths" : Str)->(bT "depths" (.ref dA) fs1).lookup g=fs1.lookup g:=λg hg=>by rw[bM,af hg]
 have q2:(bT "depths" (.ref dA) fs1).lookup ("depths" : Str)=some (.ref dA):=by rw[bM,ah rfl]
 have ncd:cA≠dA:=λz=>by have:=hC1;unfold D2 at this;rw[z,fd2]at this;cases this
 generalize bT "depths" (V.ref dA) fs1=fs2 at*;generalize (upd H2 x (.ins d.Roof dx fs2))=H3 at c2 x2 mz ⊢;refine⟨_,rfl,x,d.Roof,dx,fs2,_,rfl,x2,T.bY,T.uI,q2,?_⟩;refine⟨dA,Fc C,rfl,mz,hok,hl,λhA ht H4 s4 fh4 hH4 De=>?_⟩;refine⟨_,rfl,x,d.Roof,dx,fs2,rfl,s4 _ _ x2,T.bY,T.xB,by simp at l1;omega,?_⟩;have c3:But x H (upd H4 x (.ins d.Roof dx (bT "heights" (.ref hA) fs2))):=(c2.trans (a9.but s4)).here;have x3:(upd H4 x (.ins d.Roof dx (bT "heights" (.ref hA) fs2))) x=some (.ins d.Roof dx (bT "heights" (.ref hA) fs2)):=a8;have nhx:hA≠x:=fK hH4 (s4 _ _ x2) (by intro z;cases z);have hH5:D2 (upd H4 x (.ins d.Roof dx (bT "heights" (.ref hA) fs2))) hA (IV ht):=by unfold D2;rw[aB nhx];exact hH4
 have mm:D2 (upd H4 x (.ins d.Roof dx (bT "heights" (.ref hA) fs2))) dA (IV (bW (Fc C))):=by unfold D2;rw[aB yk];exact s4 _ _ mz
 have l3:=dH "heights" (.ref hA) fs2;have a3:∀g,g≠("heights" : Str)->(bT "heights" (.ref hA) fs2).lookup g=fs2.lookup g:=λg hg=>by rw[bM,af hg]
 have q3:(bT "heights" (.ref hA) fs2).lookup ("heights" : Str)=some (.ref hA):=by rw[bM,ah rfl]
 have zt:cA≠hA:=λz=>by have:=c2 _ _ zr hC;rw[z,fh4]at this;cases this
 have ndh:dA≠hA:=λz=>by have:=mz;unfold D2 at this;rw[z,fh4]at this;cases this
 generalize bT "heights" (V.ref hA) fs2=fs3 at*;generalize (upd H4 x (.ins d.Roof dx fs3))=H5 at c3 x3 hH5 mm ⊢;have q32:fs3.lookup ("depths" : Str)=some (.ref dA):=by rw[a3 _ Hd];exact q2
 refine⟨_,rfl,x,d.Roof,dx,fs3,_,rfl,x3,T.bY,T.uI,q32,_,rfl,x,d.Roof,dx,fs3,_,rfl,x3,T.bY,T.xB,q3,?_⟩;refine⟨dA,hA,Fc C,ht,rfl,mm,hH5,ndh,De,qk,hl,λfA H6 s6 ff6 En=>?_⟩;refine⟨_,rfl,x,d.Roof,dx,fs3,rfl,s6 _ _ x3,T.bY,T.qP,by simp at l1;omega,?_⟩;have c4:But x H (upd H6 x (.ins d.Roof dx (bT "facings" (.ref fA) fs3))):=(c3.trans (a9.but s6)).here;have x4:(upd H6 x (.ins d.Roof dx (bT "facings" (.ref fA) fs3))) x=some (.ins d.Roof dx (bT "facings" (.ref fA) fs3)):=a8;have nfx:fA≠x:=fK En (s6 _ _ x3) (by intro z;cases z);have hF7:D3 (upd H6 x (.ins d.Roof dx (bT "facings" (.ref fA) fs3))) fA (IV (cV (Fc C))):=by unfold D3;rw[aB nfx];exact En
 have hH7:D2 (upd H6 x (.ins d.Roof dx (bT "facings" (.ref fA) fs3))) hA (IV ht):=by unfold D2;rw[aB nhx];exact s6 _ _ hH5
 have Bu:D2 (upd H6 x (.ins d.Roof dx (bT "facings" (.ref fA) fs3))) dA (IV (bW (Fc C))):=by unfold D2;rw[aB yk];exact s6 _ _ mm
 have l4:=dH "facings" (.ref fA) fs3;have a4:∀g,g≠("facings" : Str)->(bT "facings" (.ref fA) fs3).lookup g=fs3.lookup g:=λg hg=>by rw[bM,af hg]
 have q4:(bT "facings" (.ref fA) fs3).lookup ("facings" : Str)=some (.ref fA):=by rw[bM,ah rfl]
 have ncf:cA≠fA:=λz=>by have:=c3 _ _ zr hC;rw[z,ff6]at this;cases this
 have ndf:dA≠fA:=λz=>by have:=mm;unfold D2 at this;rw[z,ff6]at this;cases this
 have nhf:hA≠fA:=λz=>by have:=hH5;unfold D2 at this;rw[z,ff6]at this;cases this
 generalize bT "facings" (V.ref fA) fs3=fs4 at*;generalize (upd H6 x (.ins d.Roof dx fs4))=H7 at c4 x4 hF7 hH7 Bu ⊢;refine⟨_,rfl,x,d.Roof,dx,fs4,_,rfl,x4,T.bY,T.qP,q4,?_⟩;refine⟨fA,Fc C,rfl,hF7,hok,hl,λnA Ns H8 s8 fn8 hN8 nok=>?_⟩;refine⟨_,rfl,x,d.Roof,dx,fs4,rfl,s8 _ _ x4,T.bY,T.d6,by simp at l1;omega,?_⟩;have c5:But x H (upd H8 x (.ins d.Roof dx (bT "numbers" (.ref nA) fs4))):=(c4.trans (a9.but s8)).here;have x5:(upd H8 x (.ins d.Roof dx (bT "numbers" (.ref nA) fs4))) x=some (.ins d.Roof dx (bT "numbers" (.ref nA) fs4)):=a8;have nnx:nA≠x:=fK hN8 (s8 _ _ x4) (by intro z;cases z);have hN9:D3 (upd H8 x (.ins d.Roof dx (bT "numbers" (.ref nA) fs4))) nA (IV (aD 0 Ns)):=by unfold D3;rw[aB nnx];exact hN8
 have hF9:D3 (upd H8 x (.ins d.Roof dx (bT "numbers" (.ref nA) fs4))) fA (IV (cV (Fc C))):=by unfold D3;rw[aB nfx];exact s8 _ _ hF7
 have hH9:D2 (upd H8 x (.ins d.Roof dx (bT "numbers" (.ref nA) fs4))) hA (IV ht):=by unfold D2;rw[aB nhx];exact s8 _ _ hH7
 have Bt:D2 (upd H8 x (.ins d.Roof dx (bT "numbers" (.ref nA) fs4))) dA (IV (bW (Fc C))):=by unfold D2;rw[aB yk];exact s8 _ _ Bu
 have l5:=dH "numbers" (.ref nA) fs4;have a5:∀g,g≠("numbers" : Str)->(bT "numbers" (.ref nA) fs4).lookup g=fs4.lookup g:=λg hg=>by rw[bM,af hg]
 have q5:(bT "numbers" (.ref nA) fs4).lookup ("numbers" : Str)=some (.ref nA):=by rw[bM,ah rfl]
 have ncn:cA≠nA:=λz=>by have:=c4 _ _ zr hC;rw[z,fn8]at this;cases this
 have ndn:dA≠nA:=λz=>by have:=Bu;unfold D2 at this;rw[z,fn8]at this;cases this
 have nhn:hA≠nA:=λz=>by have:=hH7;unfold D2 at this;rw[z,fn8]at this;cases this
 have nfn:fA≠nA:=λz=>by have:=hF7;unfold D3 at this;rw[z,fn8]at this;cases this
 generalize bT "numbers" (V.ref nA) fs4=fs5 at*;generalize (upd H8 x (.ins d.Roof dx fs5))=H9 at c5 x5 hN9 hF9 hH9 Bt ⊢;obtain⟨lab,firsts,O,_,_⟩:=nok.ex;have tl:=zV (Fc C);have nl:(aD 0 Ns).length<=4096:=by have h1:=congrArg List.length (aU Ns 0);have h2:=c7 O.nd O.sub;rw[ai]at h1 h2;omega
 refine⟨_,rfl,x,d.Roof,dx,fs5,_,rfl,x5,T.bY,T.d6,q5,?_⟩;refine⟨nA,Ns,rfl,hN9,O.ne,nl,λgA HA sA Eu hG=>?_⟩;refine⟨_,rfl,x,d.Roof,dx,fs5,rfl,sA _ _ x5,T.bY,T.MU,by simp at l1;omega,?_⟩;have a6:∀g,g≠("faces" : Str)->(bT "faces" (.ref gA) fs5).lookup g=fs5.lookup g:=λg hg=>by rw[bM,af hg]
 have q6:(bT "faces" (.ref gA) fs5).lookup ("faces" : Str)=some (.ref gA):=by rw[bM,ah rfl]
 have xA:=sA _ _ x5;have ncg:cA≠gA:=λz=>by have:=c5 _ _ zr hC;rw[z,Eu]at this;cases this
 have ndg:dA≠gA:=λz=>by have:=Bt;unfold D2 at this;rw[z,Eu]at this;cases this
 have nhg:hA≠gA:=λz=>by have:=hH9;unfold D2 at this;rw[z,Eu]at this;cases this
 have nfg:fA≠gA:=λz=>by have:=hF9;unfold D3 at this;rw[z,Eu]at this;cases this
 have nng:nA≠gA:=λz=>by have:=hN9;unfold D3 at this;rw[z,Eu]at this;cases this
 refine k dA hA fA nA gA ht Ns _ (λb o e nb=>by rw[aB nb];exact sA _ _ (c5 b o nb e)) ⟨⟨dx,_,a8,?_,?_,?_,?_,?_,q6⟩,?_,?_,?_,De,?_,?_,nok,LLS.WI hG xA,?_⟩
 ·rw[a6 _ Hd,a5 _ Hd,a4 _ Hd,a3 _ Hd,a2 _ Hd];exact q1
 ·rw[a6 _ Hd,a5 _ Hd,a4 _ Hd];exact q32
 ·rw[a6 _ Hd,a5 _ Hd,a4 _ Hd];exact q3
 ·rw[a6 _ Hd,a5 _ Hd];exact q4
 ·rw[a6 _ Hd];exact q5
 ·unfold D2;rw[aB zr];exact sA _ _ (c5 _ _ zr hC)
 ·unfold D2;rw[aB yk];exact sA _ _ Bt
 ·unfold D2;rw[aB nhx];exact sA _ _ hH9
 ·unfold D3;rw[aB nfx];exact sA _ _ hF9
 ·unfold D3;rw[aB nnx];exact sA _ _ hN9
 ·simp only[dh,aq,ej,or_false,not_or,not_false_eq_true,nodup_nil,and_true];exact⟨⟨ncd,zt,ncf,ncn,ncg⟩,⟨ndh,ndf,ndn,ndg⟩,⟨nhf,nhn,nhg⟩,⟨nfn,nfg⟩,nng⟩
abbrev s_rt:Ga:=(top 81)
theorem sc_rt:aN ["t"] ["t"] (aH s_rt):=fS
noncomputable def sp_rt(K:Fg)(d:Adr):Sp:=λvs H Q E=>∃(a:xv)(ns:List Int),vs=[.ref a]/\SqL K H a (ns.map V.int)/\ns.length<=4096/\inB ns/\(∀F,Roof.houseOf (Fj ns)=some (aW F)->Roof.isHouse (aW F)=true->∀x cA dA hA fA nA gA ht Ns H',a9 H H'->zN (aW F) d.Roof H' x cA dA hA fA nA gA ht Ns->Q (.ref x) H')/\(Roof.houseOf (Fj ns)=none->E (.ref d.cE) none H)
theorem ok_rt(F:Fun K "roof_told" "roof_told" s_rt f fd)(T:Txt K mg base d)(D_ht:aO P w K mg base CXf 6 "house_told" ["t"] (sp_ht K d)){fI:xv}{fdI:Gi}(oh:Mk K d.Roof fI)(D_i:bJ P w K mg base CX0 7 fI fdI ["self","cells"] (sp_i K d))(Fb:Binds K fdI ["self","cells"] []):bJ P w K mg base CXf 9 f fd ["t"] (sp_rt K d):=by
 refine okX F sc_rt (λvs _ _ _ h=>ve2 vs h λ_ _ _=>rfl) (λ_ _ _ _ H vs Q E hr hok h=>?_);have hu:=bG hr;refine ve2 vs h λa ns hY=>an5 hY λhS hl hB k1 k2=>?_;clear hY h
 refine⟨_,(aF (aS (MJ oh D_i (hm hr) rfl T.Q0 Fb .nil O9 (a7 (rP D_ht (hm hr) (JN hok) rfl (a7 (pv 0) aC)) aC)))),?_⟩;refine⟨_,rfl,a,ns,rfl,hS,hl,hB,λF hF hH cA H1 s1 fc hC=>?_,k2⟩;obtain⟨jt,tu,jw⟩:=nB hH;refine λx dx nx yk nex=>?_
 have hxx:(upd (upd H1 dx (.own x)) x (.ins d.Roof dx [])) x=some (.ins d.Roof dx []):=a8;refine⟨x,dx,cA,aW F,rfl,hxx,by unfold D2;rw[aB (aI hC nx),aB (aI hC yk)];exact hC,sJ F,λc hc=>⟨(oE.mp hc).1,(oE.mp hc).2.1⟩,jt,jw,λdA hA fA nA gA ht Ns H2 kp ra=>⟨rfl,k1 F hF hH x cA dA hA fA nA gA ht Ns H2 (a9.trans s1 (a9.made nx yk kp)) ra⟩⟩
abbrev s_c:Ga:=(top 82)
theorem sc_c:aN ["rows","answer","row"] ["rows"] (aH s_c):=fS
noncomputable def sp_c(K:Fg)(d:Adr):Sp:=λvs H Q _=>∃(a:xv)(kn:List (List Int)),vs=[.ref a]/\LLI H a kn/\kn.length<=20000/\kn.flatten.length<=60000/\∀r H',a9 H H'->H r=none->H' r=some (.lst (((kn.length:Int)::kn.flatten).map V.int))->Q (.ref r) H'
theorem ok_c(F:Fun K "counted" "counted" s_c f fd)(T:Txt K mg base d):bJ P w K mg base CX0 1 f fd ["rows"] (sp_c K d):=by
 refine F.ok sc_c (λvs _ _ _ h=>ve2 vs h λ_ _ _=>rfl) (λ_ _ _ _ H vs Q E hr h=>?_);have hu:=bG hr;refine ve2 vs h λa kn hY=>an4 hY λlu hl hl2 k=>?_;clear hY h
 obtain⟨xs,ha,pr⟩:=lu;have lx:=pairs_len pr;refine⟨_,(aA (psN (i:=1) sc_c.nd (fF (a7 (bP cD Hi T.len PySem.boot_len (a7 (pv 0) aC)) aC)))
   (aA (c8 PassesOwn.never rfl (fE (pv 0)) (pgN (i:=2) sc_c.nd) (aF (dC (jA PySem.F.plainAttrs_list PySem.F.slot_list_extend PySem.F.type_list_extend GL (pv 1) (a7 (pv 2) aC)))))
   (aF (aS (pv 1))))),?_⟩
 have tf:∀i,(kn.take i).flatten.length<=60000:=λi=>by have e:=congrArg List.length (congrArg List.flatten (List.take_append_drop i kn));rw[gi,aj]at e;omega
 refine⟨_,rfl,a,_,rfl,.inl (SqL.of ha),(by show 1<=Fh;decide),λl rj=>?_⟩;have s1:a9 H (upd H l (.lst [.int (xs.length:Int)])):=a9.upd rj;have sg:(upd H l (.lst [.int (xs.length:Int)])) l=some (.lst [.int (xs.length:Int)]):=a8;generalize (upd H l (.lst [.int (xs.length:Int)]))=H1 at s1 sg ⊢;refine⟨_,rfl,a,rfl,⟨_,SqL.of (s1 _ _ ha)⟩,jK (K:=K) (a:=a) (xs:=xs) (λi σ H2=>∃(v2:Option V),σ=[some (.ref a),some (.ref l),v2]/\a9 H H2/\H2 l=some (.lst (((kn.length:Int)::(kn.take i).flatten).map V.int))) ⟨none,rfl,s1,by rw[sg,lx];rfl⟩ (λi σ H2 _ ⟨_,_,s2,_⟩=>s2.seq (SqL.of ha)) ?_ ?_⟩
 ·intro i v σ H2 hv hI;refine ve1 σ hI λv2 hY=>an2 hY λs2 h2=>?_;clear hI hY
  obtain⟨row,hr,⟨b,rfl,hb⟩⟩:=pairs_at pr hv;have et:(kn.take (i+1)).flatten=(kn.take i).flatten++row:=by rw[take_snoc hr,gi];simp
  have h1:=tf (i+1);rw[et,aj]at h1;refine⟨_,rfl,.inl ⟨rfl,_,SqL.of h2⟩,_,rfl,l,b,_,_,rfl,rfl,h2,s2 _ _ hb,?_,_,rfl,a9.put s2 rj,?_⟩
  ·rw[ai,ai,bo];exact le_of_lt (few (m:=60002) Hc)
  ·rw[a8,et];simp
 ·intro σ H2 hI;refine ve1 σ hI λv2 hY=>an2 hY λs2 h2=>?_;clear hI hY
  rw[lx,bf (aw _)]at h2;exact⟨_,rfl,k l H2 s2 rj h2⟩
abbrev s_mo:Ga:=(top 69)
theorem sc_mo:aN ["triangle","step","i","j","side"] ["triangle"] (aH s_mo):=fS
noncomputable def sp_mo(K:Fg)(d:Adr):Sp:=λvs H Q _=>∃(v:V)(t:PI3),vs=[v]/\T3 H v t/\0<=t.2.2/\t.2.2<4/\∀r H',a9 H H'->T2 H' r (k8 t)->Q r H'
theorem ok_mo(F:Fun K "middle_of" "middle_of" s_mo f fd)(T:Txt K mg base d):bJ P w K mg base CX0 1 f fd ["triangle"] (sp_mo K d):=by
 refine F.ok sc_mo (λvs _ _ _ h=>ve2 vs h λ_ _ _=>rfl) (λ_ _ _ _ H vs Q E hr h=>?_);have hu:=bG hr;obtain⟨vk,gZ,c_STEPS⟩:=T.gZ;refine ve2 vs h λv t hY=>an4 hY λlu t0 t4 k=>?_;clear hY h
 obtain⟨a,rfl,ha⟩:=lu;obtain⟨xs,hx,pr⟩:=c_STEPS;have ct:t.2.2.toNat=0\/t.2.2.toNat=1\/t.2.2.toNat=2\/t.2.2.toNat=3:=Hc
 obtain⟨q,hq,e⟩:∃q:PI,([(0,-1),(1,0),(0,1),(-1,0)]:List PI)[t.2.2.toNat]? =some q/\k8 t=(6*t.1+3+2*q.1,6*t.2.1+3+2*q.2):=by unfold k8;rcases ct with e|e|e|e<;>rw[e]<;>exact⟨_,rfl,rfl⟩
 obtain⟨u,rg,ru⟩:=gE pr hq;refine⟨_,(aA (nQ (pv 0) (jW rfl (aX (pgN (i:=2) sc_mo.nd) (aX (pgN (i:=3) sc_mo.nd) (aX (pgN (i:=4) sc_mo.nd) fY)))))
   (aA (psN (i:=1) sc_mo.nd (aY aT (eE gZ rfl) (pv 4) (λ_ _=>rfl)))
   (aF (aS (c9 (a7 (bR gM (bR gM (bR iE aJ (pv 2)) aJ) (bR iE aJ (aY aT (pv 1) aJ (λ_ _=>rfl)))) (a7 (bR gM (bR gM (bR iE aJ (pv 3)) aJ) (bR iE aJ (aY aT (pv 1) aJ (λ_ _=>rfl)))) aC))))))),?_⟩
 refine⟨_,rfl,a,_,rfl,SqT.of ha,rfl,_,_,rfl,_,_,rfl,_,_,rfl,rfl,?_⟩;obtain⟨ua,rfl,hua⟩:=ru H;refine⟨_,rfl,_,_,_,_,rfl,rfl,hx _,aQ t0 rg,?_⟩;refine⟨_,rfl,_,_,rfl,rfl,.inl ⟨Hd,Hd⟩,_,_,rfl,rfl,_,rfl,ua,_,_,_,rfl,rfl,hua,aQ Hd rfl,_,_,rfl,rfl,.inl ⟨Hd,Hd⟩,_,_,rfl,rfl,?_⟩;refine⟨_,rfl,_,_,rfl,rfl,.inl ⟨Hd,Hd⟩,_,_,rfl,rfl,_,rfl,ua,_,_,_,rfl,rfl,hua,aQ Hd rfl,_,_,rfl,rfl,.inl ⟨Hd,Hd⟩,_,_,rfl,rfl,(by show 2<=Fh;decide),λr hr=>?_⟩;exact k _ _ (a9.upd hr) ⟨r,rfl,by rw[a8,e]⟩
abbrev s_kb:Ga:=(top 70)
theorem sc_kb:aN ["triangle","other","facings","facing","own","to","ahead"] ["triangle","other","facings"] (aH s_kb):=fS
noncomputable def sp_kb(K:Fg)(d:Adr):Sp:=λvs H Q _=>∃(v u:V)(fA:xv)(t z:PI3)(h:List Nat),vs=[v,u,.ref fA]/\T3 H v t/\T3 H u z/\R3 H fA (IV (cV h))/\(0<=t.2.2/\t.2.2<4)/\(0<=z.2.2/\z.2.2<4)/\(t.1,t.2.1)∈h.map RM.hP/\(z.1,z.2.1)∈h.map RM.hP/\(0<=fN h t/\fN h t<4)/\∀H',a9 H H'->Q (.int (xE h t z)) H'
theorem ok_kb(F:Fun K "kind_between" "kind_between" s_kb f fd)(T:Txt K mg base d)(D_o:aO P w K mg base CX0 1 "opposite" ["direction"] (sp_o K d))(D_mo:aO P w K mg base CX0 1 "middle_of" ["triangle"] (sp_mo K d)):bJ P w K mg base CX0 2 f fd ["triangle","other","facings"] (sp_kb K d):=by
 refine F.ok sc_kb (λvs _ _ _ h=>ve6 vs h λ_ _ _ _ _ _ _=>rfl) (λ_ _ _ _ H vs Q E hr h=>?_);have hu:=bG hr;obtain⟨vk,gZ,c_STEPS⟩:=T.gZ;refine ve6 vs h λv u fA t z h hY=>an9 hY λlu Aw hF hY3 hY4 m1 m2 hY7 k=>?_;clear hY
 obtain⟨a,rfl,ha⟩:=lu;obtain⟨b,rfl,hb⟩:=Aw;obtain⟨t0,t4⟩:=hY3;obtain⟨z0,z4⟩:=hY4;obtain⟨f0,f4⟩:=hY7;obtain⟨xs,hx,pr⟩:=c_STEPS;have ct:(fN h t).toNat=0\/(fN h t).toNat=1\/(fN h t).toNat=2\/(fN h t).toNat=3:=Hc
 obtain⟨q,hq,e⟩:∃q:PI,([(0,-1),(1,0),(0,1),(-1,0)]:List PI)[(fN h t).toNat]? =some q/\RM.oA (fN h t).toNat=q:=by rcases ct with e|e|e|e<;>rw[e]<;>exact⟨_,rfl,rfl⟩
 obtain⟨w,hw',qz⟩:=gE pr hq;have g1:=hF.get (p:=t) ha;rw[dN,xP t0 t4 m1]at g1;have g2:=hF.get (p:=z) hb;rw[dN,xP z0 z4 m2]at g2;unfold xE at k;rw[e]at k;refine⟨_,(aA (psN (i:=3) sc_kb.nd (eG hu (pv 2) (pv 0) (λ_ _=>rfl)))
   (aA (cJ (bO lM (eG hu (pv 2) (pv 1) (λ_ _=>rfl)) (pfN D_o hr (a7 (pv 3) aC)) (bU _)) (aF (aS (cW T.ND rfl))) bF)
   (aA (psN (i:=4) sc_kb.nd (pfN D_mo hr (a7 (pv 0) aC)))
   (aA (psN (i:=5) sc_kb.nd (pfN D_mo hr (a7 (pv 1) aC)))
   (aA (psN (i:=6) sc_kb.nd (aY aT (eE gZ rfl) (pv 3) (λ_ _=>rfl)))
   (aA (cJ (bO uD (bR gM (bR iE (bR lJ (aY aT (pv 5) aJ (λ_ _=>rfl)) (aY aT (pv 4) aJ (λ_ _=>rfl))) (aY aT (pv 6) aJ (λ_ _=>rfl))) (bR iE (bR lJ (aY aT (pv 5) aJ (λ_ _=>rfl)) (aY aT (pv 4) aJ (λ_ _=>rfl))) (aY aT (pv 6) aJ (λ_ _=>rfl)))) aJ (bU _)) (aF (aS (cW T.KR rfl))) bF)
   (aF (aS (cW T.VX rfl))))))))),?_⟩
 refine⟨_,rfl,_,rfl,fA,_,rfl,g1,?_⟩;refine⟨_,rfl,_,rfl,fA,_,rfl,g2,_,rfl,_,rfl,rfl,_,rfl,?_⟩;rw[pV];refine cK (λc1=>?_) (λc1=>?_)
 ·have c1:=bq c1;have z:=k H (a9.refl _);rw[ah c1]at z;exact z
 have c1:¬fN h z=(fN h t+2)%4:=λz=>c1 (decide_eq_true z)
 refine⟨_,rfl,.ref a,t,rfl,⟨a,rfl,ha⟩,t0,t4,λv1 H1 s1 k1=>?_⟩;refine⟨_,rfl,.ref b,z,rfl,⟨b,rfl,s1 _ _ hb⟩,z0,z4,λv2 H2 s2 k2=>?_⟩;obtain⟨o1,rfl,Dq⟩:=k1.mono s2;obtain⟨o2,rfl,ho2⟩:=k2;obtain⟨wa,rfl,hwa⟩:=qz H2;refine⟨_,rfl,_,_,_,_,rfl,rfl,hx _,aQ f0 hw',?_⟩;have qb:(-1<=q.1/\q.1<=1)/\-1<=q.2/\q.2<=1:=by have:=ba hq;simp only[aq,ej,or_false]at this;rcases this with rfl|rfl|rfl|rfl<;>decide
 refine⟨_,rfl,o2,_,_,_,rfl,rfl,SqT.of ho2,aQ Hd rfl,_,rfl,o1,_,_,_,rfl,rfl,SqT.of Dq,aQ Hd rfl,_,_,rfl,rfl,_,rfl,wa,_,_,_,rfl,rfl,hwa,aQ Hd rfl,_,_,rfl,rfl,.inr ⟨Hc,Hc⟩,?_⟩;refine⟨_,rfl,o2,_,_,_,rfl,rfl,SqT.of ho2,aQ Hd rfl,_,rfl,o1,_,_,_,rfl,rfl,SqT.of Dq,aQ Hd rfl,_,_,rfl,rfl,_,rfl,wa,_,_,_,rfl,rfl,hwa,aQ Hd rfl,_,_,rfl,rfl,.inr ⟨Hc,Hc⟩,_,_,rfl,rfl,_,_,rfl,rfl,_,rfl,?_⟩;have z2:=k H2 (a9.trans s1 s2);rw[af c1]at z2;refine cK (λc2=>?_) (λc2=>?_)
 ·have c2:LB (dif (k8 t) (k8 z)) q>0:=bq c2;rw[ah c2]at z2;exact z2
 ·have c2:¬LB (dif (k8 t) (k8 z)) q>0:=λz=>c2 (decide_eq_true z)
  rw[af c2]at z2;exact z2
abbrev s_pb3:Ga:=(top 74)
theorem sc_pb3:aN ["triangle","other","ends","roof","number","beside","step","start","end"] ["triangle","other","ends","roof"] (aH s_pb3):=fS
noncomputable def kf5(x:P5):List NK:=[.inl x.1,.inl x.2.1,.inl x.2.2.1,.inr [x.2.2.2.1.1,x.2.2.2.1.2],.inr [x.2.2.2.2.1,x.2.2.2.2.2]]
noncomputable def NR:List NK->P5
 |[.inl a,.inl b,.inl c,.inr [p,q],.inr [r,s]]=>(a,b,c,(p,q),(r,s))
 |_=>(0,0,0,(0,0),(0,0))
theorem v9(x:P5):NR (kf5 x)=x:=rfl
theorem F0{x y:P5}(h:kf5 x=kf5 y):x=y:=by rw[<- v9 x,<- v9 y,h]
noncomputable def T5(H:Hp)(r:xv)(x:P5):Prop:=∃a b,H r=some (.tup [.int x.1,.int x.2.1,.int x.2.2.1,.ref a,.ref b])/\T2 H (.ref a) x.2.2.2.1/\T2 H (.ref b) x.2.2.2.2
theorem T5.nt{H:Hp}{r:xv}{x:P5}(h:T5 H r x):pZ H (kf5 x) r:=by obtain⟨a,b,h1,⟨_,e,h2⟩,⟨_,e',h3⟩⟩:=h;cases e;cases e';exact⟨_,h1,.cons rfl (.cons rfl (.cons rfl (.cons ⟨a,rfl,h2⟩ (.cons ⟨b,rfl,h3⟩ .nil))))⟩
theorem pZ.t5{H:Hp}{r:xv}{x:P5}(h:pZ H (kf5 x) r):T5 H r x:=by
 obtain⟨vs,h1,p⟩:=h;cases p with
 |cons p1 p=>cases p with
  |cons p2 p=>cases p with
   |cons p3 p=>cases p with
    |cons p4 p=>cases p with
     |cons p5 p=>cases p;cases (show _=_ from p1);cases (show _=_ from p2);cases (show _=_ from p3);obtain⟨a,rfl,ha⟩:=p4;obtain⟨b,rfl,hb⟩:=p5;exact⟨a,b,h1,⟨a,rfl,ha⟩,⟨b,rfl,hb⟩⟩
theorem T5.mono{H H':Hp}{r:xv}{x:P5}(h:T5 H r x)(e:a9 H H'):T5 H' r x:=let⟨a,b,h1,h2,h3⟩:=h;⟨a,b,e _ _ h1,h2.mono e,h3.mono e⟩
theorem IS{ys:List PI}{x y:PI}(hp:ys.Perm [x,y])(hs:ys.Pairwise eX)(ne:x≠y):ys=[(bA (x,y)).1,(bA (x,y)).2]:=by
 have l:=hp.length_eq;match ys,l,hp,hs with
 |[a,b],_,hp,hs=>
  have hs:eX a b:=by simpa using hs
  have ha:a=x\/a=y:=by have:=hp.mem_iff (a:=a);simpa using this
  have hx:x=a\/x=b:=by have:=hp.mem_iff (a:=x);simpa using this
  have hy:y=a\/y=b:=by have:=hp.mem_iff (a:=y);simpa using this
  unfold bA;rcases ha with rfl|rfl
  ·have:y=b:=hy.resolve_left λz=>ne z.symm
   subst this;rw[ah];unfold eX at hs;unfold Roof.beforeT;simp only[gx,bw,decide_eq_true_eq,beq_iff_eq];have:a.1≠y.1\/a.2≠y.2:=by
    by_cases c:a.1=y.1
    ·exact .inr λd=>ne (Prod.ext c d)
    ·exact .inl c
   omega
  ·have:x=b:=hx.resolve_left ne;subst this;rw[af];unfold eX at hs;unfold Roof.beforeT;simp only[gx,bw,decide_eq_true_eq,beq_iff_eq];omega
noncomputable def sp_pb3(K:Fg)(d:Adr):Sp:=λvs H Q _=>∃(v u:V)(eA x dx nA fA:xv)(fs:List (Str×V))(t z:PI3)(h:List Nat)(wz:List (PI3×Int))(n m:Int)(e:PI×PI),vs=[v,u,.ref eA,.ref x]/\T3 H v t/\T3 H u z/\LT H (.ref eA) [e.1,e.2]/\e.1≠e.2/\H x=some (.ins d.Roof dx fs)/\fs.lookup ("numbers" : Str)=some (.ref nA)/\fs.lookup ("facings" : Str)=some (.ref fA)/\R3 H nA (IV wz)/\R3 H fA (IV (cV h))/\aP wz t=some n/\aP wz z=some m/\(0<=t.2.2/\t.2.2<4)/\(0<=z.2.2/\z.2.2<4)/\(t.1,t.2.1)∈h.map RM.hP/\(z.1,z.2.1)∈h.map RM.hP/\(0<=fN h t/\fN h t<4)/\∀r H',a9 H H'->T5 H' r (pcT h n m t z e)->Q (.ref r) H'
theorem ok_pb3(F:Fun K "piece_between" "piece_between" s_pb3 f fd)(T:Txt K mg base d)(D_br:aO P w K mg base CX0 1 "by_row" ["place"] (sp_br K d))(D_kb:aO P w K mg base CX0 2 "kind_between" ["triangle","other","facings"] (sp_kb K d)):bJ P w K mg base CX0 5 f fd ["triangle","other","ends","roof"] (sp_pb3 K d):=by
 refine F.ok sc_pb3 (λvs _ _ _ h=>QM vs h λ_ _ _ _ _ _ _ _ _ _ _ _ _ _ _ _=>rfl) (λ_ _ _ _ H vs Q E hr h=>?_);have hu:=bG hr;refine QM vs h λv u eA x dx nA fA fs t z h wz n m e hY=>a0Q hY λlu Aw he ne hx q1 q2 hN hF an am tb zb m1 m2 fb k=>?_;clear hY
 obtain⟨a,rfl,ha⟩:=lu;obtain⟨b,rfl,hb⟩:=Aw;have g1:=hN.get (p:=t) ha;rw[dN,an]at g1;have g2:=hN.get (p:=z) hb;rw[dN,am]at g2;refine⟨_,(aA (psN (i:=4) sc_pb3.nd (eG hu (fG (pv 3) rfl) (pv 0) (λ_ _=>rfl)))
   (aA (psN (i:=5) sc_pb3.nd (eG hu (fG (pv 3) rfl) (pv 1) (λ_ _=>rfl)))
   (aA (nQ (uB D_br (hm hr) rfl T.sorted rfl (a7 (pv 2) aC)) (OZ (n:=2) rfl (aX (pgN (i:=7) sc_pb3.nd) (aX (pgN (i:=8) sc_pb3.nd) fY))))
   (aA (psN (i:=6) sc_pb3.nd (c9 (a7 (bR lJ (aY aT (pv 8) aJ (λ_ _=>rfl)) (aY aT (pv 7) aJ (λ_ _=>rfl))) (a7 (bR lJ (aY aT (pv 8) aJ (λ_ _=>rfl)) (aY aT (pv 7) aJ (λ_ _=>rfl))) aC))))
   (aF (aS (c9 (a7 (bP (xX rfl) Hi T.min Hi (a7 (pv 4) (a7 (pv 5) aC))) (a7 (bP (xY rfl) Hi T.max Hi (a7 (pv 4) (a7 (pv 5) aC))) (a7 (pfN D_kb hr (a7 (pv 0) (a7 (pv 1) (a7 (fG (pv 3) rfl) aC)))) (a7 (pv 7) (a7 (pv 6) aC)))))))))))),?_⟩
 refine⟨_,rfl,x,d.Roof,dx,fs,_,rfl,hx,T.bY,T.d6,q1,_,rfl,nA,_,rfl,g1,?_⟩;refine⟨_,rfl,x,d.Roof,dx,fs,_,rfl,hx,T.bY,T.d6,q1,_,rfl,nA,_,rfl,g2,?_⟩;obtain⟨_,es,ee,hes,pe⟩:=he;cases ee;obtain⟨as,rfl⟩:=yH pe;refine⟨_,rfl,eA,as,gJ H,rfl,SqL.of hes,λa _=>by unfold gJ;exact jn _ _,tL pe,λL out H1 hL pm pw s1 El=>?_⟩;obtain⟨ys,py,yp,yr⟩:=lB pe pm pw;have ey:=IS yp yr ne;rw[ey]at py;obtain⟨o,xh⟩:∃o,o=out.map V.ref:=⟨_,rfl⟩
 rw[<- xh]at py El;cases py with
 |cons p1 py=>cases py with
  |cons p2 py=>
   cases py;obtain⟨pa,rfl,hpa⟩:=p1;obtain⟨qa,rfl,rh⟩:=p2;have Ak:=s1 _ _ hpa;have Dh:=s1 _ _ rh;refine⟨L,_,rfl,SqL.of El,rfl,_,_,rfl,_,_,rfl,rfl,?_⟩;refine⟨_,rfl,qa,_,_,_,rfl,rfl,SqT.of Dh,aQ Hd rfl,_,rfl,pa,_,_,_,rfl,rfl,SqT.of Ak,aQ Hd rfl,_,_,rfl,rfl,_,rfl,qa,_,_,_,rfl,rfl,SqT.of Dh,aQ Hd rfl,_,rfl,pa,_,_,_,rfl,rfl,SqT.of Ak,aQ Hd rfl,_,_,rfl,rfl,(by show 2<=Fh;decide),λsa hsa=>?_⟩;have s2:a9 H1 (upd H1 sa (.tup [.int ((bA e).2.1 - (bA e).1.1),.int ((bA e).2.2 - (bA e).1.2)])):=a9.upd hsa;have ks:T2 (upd H1 sa (.tup [.int ((bA e).2.1 - (bA e).1.1),.int ((bA e).2.2 - (bA e).1.2)])) (.ref sa) (dif (bA e).1 (bA e).2):=⟨sa,rfl,a8⟩;generalize (upd H1 sa (.tup [.int ((bA e).2.1 - (bA e).1.1),.int ((bA e).2.2 - (bA e).1.2)]))=H2 at s2 ks ⊢;have Ci:=a9.trans s1 s2;refine⟨_,rfl,_,rfl,_,_,rfl,_,rfl,_,rfl,_,_,rfl,_,rfl,_,rfl,_,rfl,x,d.Roof,dx,fs,_,rfl,Ci _ _ hx,T.bY,T.qP,q2,.ref a,.ref b,fA,t,z,h,rfl,⟨a,rfl,Ci _ _ ha⟩,⟨b,rfl,Ci _ _ hb⟩,R3.mono Ci hF,tb,zb,m1,m2,fb,λH3 s3=>?_⟩;refine⟨_,rfl,_,rfl,by show 5<=Fh;decide,λr hr=>?_⟩;have Ba:(if m<n then m else n)=min n m:=by split<;>omega
   have Bb:(if m>n then m else n)=max n m:=by split<;>omega
   rw[Ba,Bb];have s4:a9 H3 (upd H3 r (.tup [.int (min n m),.int (max n m),.int (xE h t z),.ref pa,.ref sa])):=a9.upd hr;exact k r _ (a9.trans Ci (a9.trans s3 s4)) ⟨pa,sa,a8,⟨pa,rfl,s4 _ _ (s3 _ _ (s2 _ _ Ak))⟩,(ks.mono s3).mono s4⟩
abbrev s_d:Ga:=(top 71)
theorem sc_d:aN ["point"] ["point"] (aH s_d):=fS
noncomputable def sp_d(K:Fg)(d:Adr):Sp:=λvs H Q _=>∃(v:V)(p:PI),vs=[v]/\C2 K H v p/\∀r H',a9 H H'->T2 H' r (dbl p)->Q r H'
theorem ok_d(F:Fun K "doubled" "doubled" s_d f fd)(T:Txt K mg base d):bJ P w K mg base CX0 1 f fd ["point"] (sp_d K d):=by
 refine F.ok sc_d (λvs _ _ _ h=>ve2 vs h λ_ _ _=>rfl) (λ_ _ _ _ H vs Q E hr h=>?_);have hu:=bG hr;refine ve2 vs h λv p hY=>an2 hY λlu k=>?_;clear hY h
 obtain⟨a,rfl,ha⟩:=lu;refine⟨_,(aF (aS (c9 (a7 (bR iE aJ (aY aT (pv 0) aJ (λ_ _=>rfl))) (a7 (bR iE aJ (aY aT (pv 0) aJ (λ_ _=>rfl))) aC))))),?_⟩;refine⟨_,rfl,a,_,_,_,rfl,rfl,ha,aQ Hd rfl,_,_,rfl,rfl,.inl ⟨Hd,Hd⟩,_,rfl,a,_,_,_,rfl,rfl,ha,aQ Hd rfl,_,_,rfl,rfl,.inl ⟨Hd,Hd⟩,(by show 2<=Fh;decide),λt ht=>?_⟩;exact k _ _ (a9.upd ht) ⟨t,rfl,a8⟩
abbrev s_ew:Ga:=(top 72)
theorem sc_ew:aN ["triangle","half"] ["triangle"] (aH s_ew):=fS
noncomputable def sp_ew(K:Fg)(d:Adr):Sp:=λvs H Q _=>∃(v:V)(t:PI3),vs=[v]/\T3 H v t/\0<=t.2.2/\t.2.2<4/\∀r H',a9 H H'->LT H' (.ref r) [(cG (t.1,t.2.1) t.2.2.toNat).1,(cG (t.1,t.2.1) t.2.2.toNat).2]->Q (.ref r) H'
theorem ok_ew(F:Fun K "ends_within" "ends_within" s_ew f fd)(T:Txt K mg base d)(D_d:aO P w K mg base CX0 1 "doubled" ["point"] (sp_d K d))(D_se:aO P w K mg base CX0 3 "side_end" ["square","side"] (sp_se K d))(D_m:aO P w K mg base CX0 1 "moved" ["place","step"] (sp_m K d)):bJ P w K mg base CX0 4 f fd ["triangle"] (sp_ew K d):=by
 refine F.ok sc_ew (λvs _ _ _ h=>ve2 vs h λ_ _ _=>rfl) (λ_ _ _ _ H vs Q E hr h=>?_);have hu:=bG hr;refine ve2 vs h λv t hY=>an4 hY λlu t0 t4 k=>?_;clear hY h
 obtain⟨a,rfl,ha⟩:=lu;have en:t.2.2=((t.2.2.toNat:Nat):Int):=(dq t0).symm;refine⟨_,(aA (psN (i:=1) sc_ew.nd (c9 (a7 (aY aT (pv 0) aJ (λ_ _=>rfl)) (a7 (aY aT (pv 0) aJ (λ_ _=>rfl)) aC))))
   (aF (aS (fF (a7 (pfN D_m hr (a7 (pfN D_d hr (a7 (pv 1) aC)) (a7 (c9 (a7 aJ (a7 aJ aC))) aC))) (a7 (pfN D_d hr (a7 (pfN D_se hr (a7 (pv 1) (a7 (aY aT (pv 0) aJ (λ_ _=>rfl)) aC))) aC)) aC)))))),?_⟩
 refine⟨_,rfl,a,_,_,_,rfl,rfl,SqT.of ha,aQ Hd rfl,_,rfl,a,_,_,_,rfl,rfl,SqT.of ha,aQ Hd rfl,(by show 2<=Fh;decide),λc hc=>?_⟩;have s1:a9 H (upd H c (.tup [.int t.1,.int t.2.1])):=a9.upd hc;have k1:T2 (upd H c (.tup [.int t.1,.int t.2.1])) (.ref c) (t.1,t.2.1):=⟨c,rfl,a8⟩;generalize (upd H c (.tup [.int t.1,.int t.2.1]))=H1 at s1 k1 ⊢;refine⟨_,rfl,.ref c,_,rfl,k1.c,λr2 H2 s2 t2=>?_⟩;refine⟨by show 2<=Fh;decide,λo ho=>?_⟩;have s3:a9 H2 (upd H2 o (.tup [.int 1,.int 1])):=a9.upd ho;have k3:T2 (upd H2 o (.tup [.int 1,.int 1])) (.ref o) (1,1):=⟨o,rfl,a8⟩;generalize (upd H2 o (.tup [.int 1,.int 1]))=H3 at s3 k3 ⊢;refine⟨r2,.ref o,_,(1,1),rfl,(t2.mono s3).c,k3.c,λr4 H4 s4 t4'=>?_⟩;have Cg:=a9.trans s2 (a9.trans s3 s4);have Cf:=a9.trans s1 Cg;refine⟨_,rfl,_,rfl,a,_,_,_,rfl,rfl,SqT.of (Cf _ _ ha),aQ Hd rfl,.ref c,(t.1,t.2.1),t.2.2.toNat,congrArg (λz=>[V.ref c,V.int z]) en,(k1.mono Cg).c,Hc,λr5 H5 s5 t5=>?_⟩;refine⟨r5,_,rfl,t5.c,λr6 H6 s6 t6=>?_⟩;refine⟨by show 2<=Fh;decide,λL hL=>?_⟩;have s7:a9 H6 (upd H6 L (.lst [r4,r6])):=a9.upd hL;refine k L _ (a9.trans Cf (a9.trans s5 (a9.trans s6 s7))) ⟨L,[r4,r6],rfl,a8,.cons ?_ (.cons (t6.mono s7) .nil)⟩;exact((t4'.mono s5).mono s6).mono s7
abbrev s_ea:Ga:=(top 73)
theorem sc_ea:aN ["triangle","half"] ["triangle"] (aH s_ea):=fS
noncomputable def sp_ea(K:Fg)(d:Adr):Sp:=λvs H Q _=>∃(v:V)(t:PI3),vs=[v]/\T3 H v t/\0<=t.2.2/\t.2.2<4/\∀r H',a9 H H'->LT H' (.ref r) [(dF (t.1,t.2.1) t.2.2.toNat).1,(dF (t.1,t.2.1) t.2.2.toNat).2]->Q (.ref r) H'
theorem ok_ea(F:Fun K "ends_across" "ends_across" s_ea f fd)(T:Txt K mg base d)(D_d:aO P w K mg base CX0 1 "doubled" ["point"] (sp_d K d))(D_se:aO P w K mg base CX0 3 "side_end" ["square","side"] (sp_se K d))(D_ss:aO P w K mg base CX0 2 "side_start" ["square","side"] (sp_ss K d)):bJ P w K mg base CX0 4 f fd ["triangle"] (sp_ea K d):=by
 refine F.ok sc_ea (λvs _ _ _ h=>ve2 vs h λ_ _ _=>rfl) (λ_ _ _ _ H vs Q E hr h=>?_);have hu:=bG hr;refine ve2 vs h λv t hY=>an4 hY λlu t0 t4 k=>?_;clear hY h
 obtain⟨a,rfl,ha⟩:=lu;have en:t.2.2=((t.2.2.toNat:Nat):Int):=(dq t0).symm;refine⟨_,(aA (psN (i:=1) sc_ea.nd (c9 (a7 (aY aT (pv 0) aJ (λ_ _=>rfl)) (a7 (aY aT (pv 0) aJ (λ_ _=>rfl)) aC))))
   (aF (aS (fF (a7 (pfN D_d hr (a7 (pfN D_ss hr (a7 (pv 1) (a7 (aY aT (pv 0) aJ (λ_ _=>rfl)) aC))) aC)) (a7 (pfN D_d hr (a7 (pfN D_se hr (a7 (pv 1) (a7 (aY aT (pv 0) aJ (λ_ _=>rfl)) aC))) aC)) aC)))))),?_⟩
 refine⟨_,rfl,a,_,_,_,rfl,rfl,SqT.of ha,aQ Hd rfl,_,rfl,a,_,_,_,rfl,rfl,SqT.of ha,aQ Hd rfl,(by show 2<=Fh;decide),λc hc=>?_⟩;have s1:a9 H (upd H c (.tup [.int t.1,.int t.2.1])):=a9.upd hc;have k1:T2 (upd H c (.tup [.int t.1,.int t.2.1])) (.ref c) (t.1,t.2.1):=⟨c,rfl,a8⟩;generalize (upd H c (.tup [.int t.1,.int t.2.1]))=H1 at s1 k1 ⊢;refine⟨_,rfl,_,rfl,a,_,_,_,rfl,rfl,SqT.of (s1 _ _ ha),aQ Hd rfl,.ref c,(t.1,t.2.1),t.2.2.toNat,congrArg (λz=>[V.ref c,V.int z]) en,k1.c,Hc,λr2 H2 s2 t2=>?_⟩;refine⟨r2,_,rfl,t2.c,λr4 H4 s4 t4'=>?_⟩;have Cg:=a9.trans s2 s4;have Cf:=a9.trans s1 Cg;refine⟨_,rfl,_,rfl,a,_,_,_,rfl,rfl,SqT.of (Cf _ _ ha),aQ Hd rfl,.ref c,(t.1,t.2.1),t.2.2.toNat,congrArg (λz=>[V.ref c,V.int z]) en,(k1.mono Cg).c,Hc,λr5 H5 s5 t5=>?_⟩;refine⟨r5,_,rfl,t5.c,λr6 H6 s6 t6=>?_⟩;refine⟨by show 2<=Fh;decide,λL hL=>?_⟩;have s7:a9 H6 (upd H6 L (.lst [r4,r6])):=a9.upd hL;refine k L _ (a9.trans Cf (a9.trans s5 (a9.trans s6 s7))) ⟨L,[r4,r6],rfl,a8,.cons ?_ (.cons (t6.mono s7) .nil)⟩;exact((t4'.mono s5).mono s6).mono s7
abbrev s_po:Ga:=(top 75)
theorem sc_po:aN ["roof","pieces","triangle","left","across"] ["roof"] (aH s_po):=fS
theorem PV{c:Bool}{A:Prop}{N:Hp->Prop}{H:Hp}(F:Hp->Prop)(h1:c=true->(∀H',F H'->N H')->A)(h2:¬c=true->F H)(h3:∀H',F H'->N H'):if c=true then A else N H:=by
 by_cases h:c=true
 ·rw[ah h];exact h1 h h3
 ·rw[af h];exact h3 H (h2 h)
theorem L6(p:PI)(s:Nat):(cG p s).1≠(cG p s).2:=λh=>by have:=congrArg Prod.fst h;simp only[cG,dbl]at this;omega
theorem L8(p:PI){s:Nat}(hs:s<4):(dF p s).1≠(dF p s).2:=λh=>by
 have h1:=congrArg Prod.fst h;have h2:=congrArg Prod.snd h;have cs:s=0\/s=1\/s=2\/s=3:=Hc
 rcases cs with rfl|rfl|rfl|rfl<;>simp[dF,dbl,aE]at h1 h2<;>omega
theorem D4{f:xv}{ks:NL}:∀ys,nO f ks≠ .tup ys:=λys z=>by unfold nO at z;cases z
theorem P9{S:List Bool}{H:Hp}{f b:xv}{ks:NL}{k:List NK}(hD:H f=some (nO f ks))(n:NS S H f ks)(t:pZ H k b)(sk:k.map Sum.isLeft=S)(hl:ks.length<Fh):NS S (upd H f (nO f (qO ks k b))) f (qO ks k b):=(n.put t sk hl).mono (sU hD D4)
noncomputable def PcS(C:List (Nat×Nat))(z:P5):Prop:=∃t∈(Ff C).tris,∃k,(k=0\/k=2)/\bsK t k∈(Ff C).tris/\(Ff C).face t≠(Ff C).face (bsK t k)/\z=pcN (Ff C) t k
noncomputable def ID(C:List (Nat×Nat))(ks:NL)(t k:Nat):Prop:=bsK t k∈(Ff C).tris->(Ff C).face t≠(Ff C).face (bsK t k)->kf5 (pcN (Ff C) t k)∈ks.map (λy:List NK×xv=>y.1)
structure PcI(C:List (Nat×Nat))(Ns:List (List PI3))(H:Hp)(f:xv)(ks:NL)(i n:Nat):Prop where
 at_:H f=some (nO f ks)
 ns:NS [true,true,true,false,false] H f ks
 len:ks.length<=n
 sub:∀y∈ks,∃z,PcS C z/\y.1=kf5 z
 old:∀t∈(Ff C).tris,tP t∈Ns.flatten.take i->ID C ks t 0/\ID C ks t 2
theorem PcI.mono{C:List (Nat×Nat)}{Ns:List (List PI3)}{H H':Hp}{f:xv}{ks:NL}{i n m:Nat}(h:PcI C Ns H f ks i n)(e:a9 H H')(hm:n<=m):PcI C Ns H' f ks i m:=⟨e _ _ h.at_,h.ns.mono (λb ys z=>e b _ z),de h.len hm,h.sub,h.old⟩
theorem PcI.put{C:List (Nat×Nat)}{Ns:List (List PI3)}{H:Hp}{f r:xv}{ks:NL}{i n:Nat}(h:PcI C Ns H f ks i n)(hn:n<9000){z:P5}(hz:PcS C z)(t:T5 H r z):PcI C Ns (upd H f (nO f (qO ks (kf5 z) r))) f (qO ks (kf5 z) r) i (n+1):=by
 have l:=h.len;refine⟨a8,P9 h.at_ h.ns t.nt rfl (few (m:=9000) Hc),de (JU _ _ _) Hc,λy hy=>?_,λt' px hm=>⟨λa b=>(jD _ _ _ _).mpr (.inl ((h.old t' px hm).1 a b)),λa b=>(jD _ _ _ _).mpr (.inl ((h.old t' px hm).2 a b))⟩⟩;rcases(jD _ _ _ _).mp (au.mpr ⟨y,hy,rfl⟩)with q|q
 ·obtain⟨y',ue,e⟩:=au.mp q;obtain⟨z',h1,h2⟩:=h.sub y' ue;exact⟨z',h1,by rw[<- h2];exact e.symm⟩
 ·exact⟨z,hz,q⟩
noncomputable def sp_po(K:Fg)(d:Adr):Sp:=λvs H Q _=>∃(x cA dA hA fA nA gA:xv)(C:List (Nat×Nat))(ht:List (PI×Int))(Ns:List (List PI3)),vs=[.ref x]/\zN C d.Roof H x cA dA hA fA nA gA ht Ns/\Roof.isHouse C=true/\∀(r:xv)(xs:NL)(KL:List P5)(H':Hp),a9 H H'->H r=none->H' r=some (nO r xs)->NS [true,true,true,false,false] H' r xs->xs.map (·.1)=KL.map kf5->KL.Nodup->(∀z,z∈KL↔∃y∈(Ff C).piecesOfLine,z=RM.pi5 y)->KL.length<=8192->Q (.ref r) H'
theorem ok_po(F:Fun K "pieces_of" "pieces_of" s_po f fd)(T:Txt K mg base d)(D_tol:aO P w K mg base CX0 2 "triangle_on_left" ["triangle"] (sp_tol K d))(D_pb3:aO P w K mg base CX0 5 "piece_between" ["triangle","other","ends","roof"] (sp_pb3 K d))(D_ew:aO P w K mg base CX0 4 "ends_within" ["triangle"] (sp_ew K d))(D_ta:aO P w K mg base CX0 3 "triangle_across" ["triangle"] (sp_ta K d))(D_ea:aO P w K mg base CX0 4 "ends_across" ["triangle"] (sp_ea K d)):bJ P w K mg base CX0 6 f fd ["roof"] (sp_po K d):=by
 refine F.ok sc_po (λvs _ _ _ h=>IL vs h λ_ _ _ _ _ _ _ _ _ _ _=>rfl) (λ_ _ _ _ H vs Q E hr h=>?_);have hu:=bG hr;refine IL vs h λx cA dA hA fA nA gA C ht Ns hY=>an3 hY λra hH k=>?_;clear hY h
 refine⟨_,(aA (psN (i:=1) sc_po.nd MH)
   (aA (jV (c8 PassesOwn.never rfl (mL (fG (pv 0) rfl)) (pgN (i:=2) sc_po.nd) (aA (psN (i:=3) sc_po.nd (pfN D_tol hr (a7 (pv 2) aC)))
   (aA (cJ (bO EU (eG hu (fG (pv 0) rfl) (pv 3) (λ_ _=>rfl)) (eG hu (fG (pv 0) rfl) (pv 2) (λ_ _=>rfl)) (bU _)) (aF (EN (S:=[true,true,true,false,false]) (uW hr) (pv 1) (pfN D_pb3 hr (a7 (pv 2) (a7 (pv 3) (a7 (pfN D_ew hr (a7 (pv 2) aC)) (a7 (pv 0) aC))))) iM rfl)) bF)
   (aA (psN (i:=4) sc_po.nd (pfN D_ta hr (a7 (pv 2) aC)))
   (aF (cJ (PW.pt (nP (dU (yS hu (pv 4) (fG (pv 0) rfl))) (mK (bO EU (eG hu (fG (pv 0) rfl) (pv 4) (λ_ _=>rfl)) (eG hu (fG (pv 0) rfl) (pv 2) (λ_ _=>rfl)) (bU _))))) (aF (EN (S:=[true,true,true,false,false]) (uW hr) (pv 1) (pfN D_pb3 hr (a7 (pv 2) (a7 (pv 4) (a7 (pfN D_ea hr (a7 (pv 2) aC)) (a7 (pv 0) aC))))) iM rfl)) bF)))))))
   (aF (aS (pv 1))))),?_⟩
 obtain⟨_,jt,hb,_,_⟩:=lT hH;obtain⟨dx,fs,hx,_,_,_,q4,q5,_⟩:=ra.ins;obtain⟨a1,_,a3,nd,_⟩:=ra.nok.all (aw _);obtain⟨m1,_,_⟩:=ra.nok.small jt;have hok:=aL hb;refine λf hf hsm=>?_
 have s1:a9 H (upd H f (nO f [])):=a9.upd hf;have hN:H nA=some (.dT (kvF k3 (IV (aD 0 Ns)))):=ra.MQ;have nfn:f≠nA:=(aI hN hf).symm;have nxn:x≠nA:=fK hx hN (λz=>nomatch z);have za:=ra.apart;have nff:fA≠nA:=λe=>by simp[e]at za
 refine⟨nA,.dT (kvF k3 (IV (aD 0 Ns))),s1 _ _ hN,trivial,λod=>?_⟩;have HB0:(upd H nA (.frz od (.dT (kvF k3 (IV (aD 0 Ns)))))) f=none:=fV hN hf;have xg:(upd H nA (.frz od (.dT (kvF k3 (IV (aD 0 Ns)))))) x=some (.ins d.Roof dx fs):=by rw[aB nxn];exact hx
 have hfB:R3 (upd H nA (.frz od (.dT (kvF k3 (IV (aD 0 Ns)))))) fA (IV (cV (Fc C))):=D3.rd (by unfold D3;rw[aB nff];exact ra.NJ);have Ao:(upd H nA (.frz od (.dT (kvF k3 (IV (aD 0 Ns)))))) nA=some (.frz od (.dT (kvF k3 (IV (aD 0 Ns))))):=a8;have sB:a9 (upd H nA (.frz od (.dT (kvF k3 (IV (aD 0 Ns)))))) (upd (upd H f (nO f [])) nA (.frz od (.dT (kvF k3 (IV (aD 0 Ns)))))):=a9.both s1;have fB:(upd (upd H f (nO f [])) nA (.frz od (.dT (kvF k3 (IV (aD 0 Ns)))))) f=some (nO f []):=by rw[aB nfn,a8]
 generalize eHB:(upd H nA (.frz od (.dT (kvF k3 (IV (aD 0 Ns))))))=HB at HB0 xg hfB Ao sB;have kl:(kvF k3 (IV (aD 0 Ns))).length=Ns.flatten.length:=by have:=congrArg List.length (aU Ns 0);rw[ai]at this;rw[fM,fX,this]
 refine⟨_,rfl,x,d.Roof,dx,fs,_,rfl,sB _ _ xg,T.bY,T.d6,q5,nA,od,rfl,.inr ⟨_,sB _ _ Ao,lV (d:=nA) (od:=od) (kvs:=kvF k3 (IV (aD 0 Ns)))
  (λi σ H2=>∃(ks:NL)(v2 v3 v4:Option V),σ=[some (.ref x),some (.ref f),v2,v3,v4]/\a9 HB H2/\PcI C Ns H2 f ks i (2*i))
  ⟨[],none,none,none,rfl,sB,⟨fB,⟨hsm,cn _,nodup_nil,λy hy=>(by cases hy)⟩,aw _,(λy hy=>(by cases hy)),λt _ hm=>(by rw[take_zero]at hm;cases hm)⟩⟩ (λi σ H2 ⟨_,_,_,_,_,s2,_⟩=>s2 _ _ Ao) ?_ ?_⟩⟩
 ·intro i kk vv q σ H2 hi hq hI;refine ve4 σ hI λks v2 v3 v4 hY=>an2 hY λs2 I=>?_;clear hI hY
  have sj:=BF hi;rw[kl]at sj;obtain⟨t,px,rfl⟩:=DE hi;have yu:Ns.flatten[i]? =some t:=by have:=congrArg (Option.map Prod.fst) px;rw[<- bc,tF,aU]at this;exact this
  obtain⟨tn,qg,rfl⟩:∃tn∈(Ff C).tris,t=tP tn:=by
   have h1:t∈(Ff C).tris.map tP:=Classical.byContradiction λc=>by
    have h2:=a3 t c;have h3:t∈(aD 0 Ns).map (·.1):=by rw[aU];exact ba yu
    exact(jP.mp h2) h3
   obtain⟨tn,h2,rfl⟩:=au.mp h1;exact⟨tn,h2,rfl⟩
  have t0:0<=(tP tn).2.2/\(tP tn).2.2<4:=by show 0<=((tn%4:Nat):Int)/\((tn%4:Nat):Int)<4;omega
  have hl:bsK tn 0∈(Ff C).tris:=by have e:=RM.bs0 (tn/4) (tn%4) Hc;rw[<- RM.gB]at e;rw[e];exact RM.rK hb (bE.mp qg)
  have wt:∀u:Nat,0<=(tP u).2.2/\(tP u).2.2<4:=λu=>by show 0<=((u%4:Nat):Int)/\((u%4:Nat):Int)<4;omega
  have qe:∀u∈(Ff C).tris,((tP u).1,(tP u).2.1)∈(Fc C).map RM.hP:=λu hu=>au.mpr ⟨u/4,bE.mp hu,rfl⟩
  have fb:=RM.FE hok qg;have hq:H2 q=some (.tup [.int (tP tn).1,.int (tP tn).2.1,.int (tP tn).2.2]):=hq;have fin:∀(ks:NL)(H':Hp),PcI C Ns H' f ks i (2*i+2)->ID C ks tn 0->ID C ks tn 2->PcI C Ns H' f ks (i+1) (2*(i+1)):=λks H' J o0 o2=>⟨J.at_,J.ns,J.len,J.sub,λt ht hm=>by
   rw[take_snoc yu]at hm;rcases ax.mp hm with hm|hm
   ·exact J.old t ht hm
   ·cases RM.LX hb ht qg (iz.mp hm);exact⟨o0,o2⟩⟩
  refine⟨_,rfl,.ref q,tP tn,rfl,⟨q,rfl,hq⟩,λvl H3 s3 tl=>?_⟩;have tl:T3 H3 vl (tP (bsK tn 0)):=by rw[<- RM.MY];exact tl
  obtain⟨la,rfl,sg⟩:=tl;have nz:=a9.trans s2 s3;have hn3:R3 H3 nA (IV (aD 0 Ns)):=.inr ⟨od,nz _ _ Ao⟩;have gl:=hn3.get (p:=tP (bsK tn 0)) sg;rw[dN,a1 _ hl]at gl;have gt:=hn3.get (p:=tP tn) (s3 _ _ hq);rw[dN,a1 tn qg]at gt;refine⟨_,rfl,x,d.Roof,dx,fs,_,rfl,nz _ _ xg,T.bY,T.d6,q5,_,rfl,nA,_,rfl,gl,_,rfl,x,d.Roof,dx,fs,_,rfl,nz _ _ xg,T.bY,T.d6,q5,_,rfl,nA,_,rfl,gt,rfl,_,rfl,?_⟩;rw[pV];refine PV (F:=λH4=>∃zy,a9 HB H4/\H4 q=some (.tup [.int (tP tn).1,.int (tP tn).2.1,.int (tP tn).2.2])/\PcI C Ns H4 f zy i (2*i+1)/\ID C zy tn 0) (λc1 cont=>?_) (λc1=>?_) (λH4 ⟨zy,s4,hq4,I4,o4⟩=>?_)
  ·have c1:(Ff C).face tn≠(Ff C).face (bsK tn 0):=λe=>mQ c1 (by rw[e])
   refine⟨_,rfl,_,rfl,_,rfl,_,rfl,.ref q,tP tn,rfl,⟨q,rfl,s3 _ _ hq⟩,t0.1,t0.2,λeA H5 s5 lt=>?_⟩;have s25:=a9.trans nz s5;refine⟨_,rfl,.ref q,.ref la,eA,x,dx,nA,fA,fs,tP tn,tP (bsK tn 0),Fc C,aD 0 Ns,_,_,cG ((tP tn).1,(tP tn).2.1) (tP tn).2.2.toNat,rfl,⟨q,rfl,s5 _ _ (s3 _ _ hq)⟩,⟨la,rfl,s5 _ _ sg⟩,lt,L6 _ _,s25 _ _ xg,q5,q4,R3.mono s5 hn3,R3.mono s25 hfB,a1 tn qg,a1 _ hl,wt _,wt _,qe _ qg,qe _ hl,fb,λr H6 s6 t5=>?_⟩;have e5:pcT (Fc C) ((Ff C).face tn) ((Ff C).face (bsK tn 0)) (tP tn) (tP (bsK tn 0)) (cG ((tP tn).1,(tP tn).2.1) (tP tn).2.2.toNat)=pcN (Ff C) tn 0:=by rw[<- RM.L5];exact O8 hb qg hl
   rw[e5]at t5;have Bh:=a9.trans s5 s6;have I6:=I.mono (a9.trans s3 Bh) (aw _);have lk:=I6.len;exact⟨f,r,_,ks,rfl,rfl,rfl,I6.at_,I6.ns,T5.nt t5,rfl,few (m:=9000) Hc,cont _ ⟨_,a9.put (a9.trans nz Bh) HB0,sU I6.at_ D4 _ _ (Bh _ _ (s3 _ _ hq)),I6.put Hc ⟨tn,qg,0,.inl rfl,hl,c1,rfl⟩ t5,λ_ _=>(jD _ _ _ _).mpr (.inr rfl)⟩⟩
  ·refine⟨ks,nz,s3 _ _ hq,I.mono s3 Hc,λ_ n=>absurd ?_ n⟩;have:=jE c1;omega
  ·refine⟨_,rfl,.ref q,tP tn,rfl,⟨q,rfl,hq4⟩,t0.1,t0.2,λvc H5 s5 tc=>?_⟩;have tc:T3 H5 vc (BY (tP tn)):=tc;obtain⟨ca,rfl,yy⟩:=tc;have zl:=a9.trans s4 s5;have hn5:R3 H5 nA (IV (aD 0 Ns)):=.inr ⟨od,zl _ _ Ao⟩;have gc:=hn5.get (p:=BY (tP tn)) yy;have gt5:=hn5.get (p:=tP tn) (s5 _ _ hq4);rw[dN,a1 tn qg]at gt5;obtain⟨ac1,ac2⟩:=RM.QI hb qg;refine⟨_,rfl,_,rfl,x,d.Roof,dx,fs,_,rfl,zl _ _ xg,T.bY,T.d6,q5,nA,_,rfl,gc,_,rfl,?_⟩;have skip:∀{v2 v3 v4:Option V},ID C zy tn 2->∃(ks:NL)(w2 w3 w4:Option V),[some (.ref x),some (.ref f),v2,v3,v4]=[some (.ref x),some (.ref f),w2,w3,w4]/\a9 HB H5/\PcI C Ns H5 f ks (i+1) (2*(i+1)):=λ{v2 v3 v4} o2=>⟨zy,v2,v3,v4,rfl,zl,fin zy H5 (I4.mono s5 Hc) o4 o2⟩
   by_cases ha:bsK tn 2∈(Ff C).tris
   rotate_left
   ·have e0:aP (IV (aD 0 Ns)) (BY (tP tn))=none:=by rw[dN,a3 _ (λz=>ha (ac1.mp z))];rfl
    rw[e0];exact DJ (DJ (skip λz=>absurd z ha))
   ·rw[ac2 ha]at gc yy;rw[ac2 ha];rw[dN,a1 _ ha]at gc ⊢;refine DI ?_;refine⟨_,rfl,x,d.Roof,dx,fs,_,rfl,zl _ _ xg,T.bY,T.d6,q5,_,rfl,nA,_,rfl,gc,_,rfl,x,d.Roof,dx,fs,_,rfl,zl _ _ xg,T.bY,T.d6,q5,_,rfl,nA,_,rfl,gt5,rfl,_,rfl,?_⟩;rw[pV];refine cK (λc2=>?_) (λc2=>skip λ_ n=>absurd (by have:=jE c2;omega) n);have c2:(Ff C).face tn≠(Ff C).face (bsK tn 2):=λe=>mQ c2 (by rw[e])
    refine⟨_,rfl,_,rfl,_,rfl,_,rfl,.ref q,tP tn,rfl,⟨q,rfl,s5 _ _ hq4⟩,t0.1,t0.2,λeA H6 s6 lt=>?_⟩;have s46:=a9.trans zl s6;refine⟨_,rfl,.ref q,.ref ca,eA,x,dx,nA,fA,fs,tP tn,tP (bsK tn 2),Fc C,aD 0 Ns,_,_,dF ((tP tn).1,(tP tn).2.1) (tP tn).2.2.toNat,rfl,⟨q,rfl,s6 _ _ (s5 _ _ hq4)⟩,⟨ca,rfl,s6 _ _ yy⟩,lt,L8 _ (by have:=t0;omega),s46 _ _ xg,q5,q4,R3.mono s6 hn5,R3.mono s46 hfB,a1 tn qg,a1 _ ha,wt _,wt _,qe _ qg,qe _ ha,fb,λr H7 s7 t5=>?_⟩;have e5:pcT (Fc C) ((Ff C).face tn) ((Ff C).face (bsK tn 2)) (tP tn) (tP (bsK tn 2)) (dF ((tP tn).1,(tP tn).2.1) (tP tn).2.2.toNat)=pcN (Ff C) tn 2:=by rw[<- RM.L7];exact O8 hb qg ha
    rw[e5]at t5;have s57:=a9.trans s6 s7;have I7:=I4.mono (a9.trans s5 s57) (aw _);have lk:=I7.len;exact⟨f,r,_,zy,rfl,rfl,rfl,I7.at_,I7.ns,T5.nt t5,rfl,few (m:=9000) Hc,_,_,_,_,rfl,a9.put (a9.trans zl s57) HB0,fin _ _ (I7.put Hc ⟨tn,qg,2,.inr rfl,ha,c2,rfl⟩ t5) (λa b=>(jD _ _ _ _).mpr (.inl (o4 a b))) (λ_ _=>(jD _ _ _ _).mpr (.inr rfl))⟩
 ·intro σ H2 hI;refine ve4 σ hI λks v2 v3 v4 hY=>an2 hY λs2 I=>?_;clear hI hY
  rw[kl]at I;refine⟨s2 _ _ Ao,_,rfl,?_⟩;have I2:H2 f=some (nO f ks):=I.at_;have all:∀y∈ks,kf5 (NR y.1)=y.1:=λy hy=>by obtain⟨z,_,e⟩:=I.sub y hy;rw[e,v9]
  have ek:ks.map (·.1)=(ks.map λy=>NR y.1).map kf5:=by rw[dt];exact dk λy hy=>(all y hy).symm
  have len:=I.len;refine k f ks (ks.map λy=>NR y.1) _ (a9.unlock hN (eHB▸s2)) hf (by rw[aB nfn];exact I2) (I.ns.mono (sU (s2 _ _ Ao) (λys z=>by cases z))) ek ?_ (λz=>?_) (by rw[ai];omega)
  ·have nd:=I.ns.nd;rw[ek]at nd;exact(gm.mp nd).imp λh e=>h (by rw[e])
  ·rw[<- RM.A9 hb jt ra.nok];constructor
   ·intro hz;obtain⟨y,hy,rfl⟩:=au.mp hz;obtain⟨z,hz,e⟩:=I.sub y hy;rw[e,v9];exact hz
   ·rintro⟨t,ht,kk,hk,hu,ne,rfl⟩;have hm:tP t∈Ns.flatten.take Ns.flatten.length:=by rw[bf (aw _),<- aU Ns 0,<- aV,a1 t ht];rfl
    have me:kf5 (pcN (Ff C) t kk)∈ks.map (λy:List NK×xv=>y.1):=by
     rcases hk with rfl|rfl
     ·exact(I.old t ht hm).1 hu ne
     ·exact(I.old t ht hm).2 hu ne
    obtain⟨y,hy,e⟩:=au.mp me;exact au.mpr ⟨y,hy,by rw[e,v9]⟩
abbrev s_pb2:Ga:=(top 76)
theorem sc_pb2:aN ["piece","lesser","greater","kind","start","step"] ["piece"] (aH s_pb2):=fS
noncomputable def sp_pb2(K:Fg)(d:Adr):Sp:=λvs H Q _=>∃(a:xv)(x:P5),vs=[.ref a]/\T5 H a x/\∀r H',a9 H H'->T5 H' r (eJ x)->Q (.ref r) H'
theorem ok_pb2(F:Fun K "piece_behind" "piece_behind" s_pb2 f fd)(T:Txt K mg base d):bJ P w K mg base CX0 1 f fd ["piece"] (sp_pb2 K d):=by
 refine F.ok sc_pb2 (λvs _ _ _ h=>ve2 vs h λ_ _ _=>rfl) (λ_ _ _ _ H vs Q E hr h=>?_);have hu:=bG hr;refine ve2 vs h λa x hY=>an2 hY λlu k=>?_;clear hY h
 obtain⟨p,s,ha,⟨_,e1,hp⟩,⟨_,e2,hs⟩⟩:=lu;cases e1;cases e2;refine⟨_,(aA (nQ (pv 0) (jW rfl (aX (pgN (i:=1) sc_pb2.nd) (aX (pgN (i:=2) sc_pb2.nd) (aX (pgN (i:=3) sc_pb2.nd) (aX (pgN (i:=4) sc_pb2.nd) (aX (pgN (i:=5) sc_pb2.nd) fY)))))))
   (aF (aS (c9 (a7 (pv 1) (a7 (pv 2) (a7 (pv 3) (a7 (c9 (a7 (bR lJ (aY aT (pv 4) aJ (λ_ _=>rfl)) (aY aT (pv 5) aJ (λ_ _=>rfl))) (a7 (bR lJ (aY aT (pv 4) aJ (λ_ _=>rfl)) (aY aT (pv 5) aJ (λ_ _=>rfl))) aC))) (a7 (pv 5) aC))))))))),?_⟩
 refine⟨_,rfl,a,_,rfl,SqT.of ha,rfl,_,_,rfl,_,_,rfl,_,_,rfl,_,_,rfl,_,_,rfl,rfl,?_⟩;refine⟨_,rfl,_,rfl,_,rfl,_,rfl,p,_,_,_,rfl,rfl,SqT.of hp,aQ Hd rfl,_,rfl,s,_,_,_,rfl,rfl,SqT.of hs,aQ Hd rfl,_,_,rfl,rfl,_,rfl,p,_,_,_,rfl,rfl,SqT.of hp,aQ Hd rfl,_,rfl,s,_,_,_,rfl,rfl,SqT.of hs,aQ Hd rfl,_,_,rfl,rfl,(by show 2<=Fh;decide),λb hb=>?_⟩;have s1:a9 H (upd H b (.tup [.int (x.2.2.2.1.1 - x.2.2.2.2.1),.int (x.2.2.2.1.2 - x.2.2.2.2.2)])):=a9.upd hb;have kb:T2 (upd H b (.tup [.int (x.2.2.2.1.1 - x.2.2.2.2.1),.int (x.2.2.2.1.2 - x.2.2.2.2.2)])) (.ref b) (x.2.2.2.1.1 - x.2.2.2.2.1,x.2.2.2.1.2 - x.2.2.2.2.2):=⟨b,rfl,a8⟩;generalize (upd H b (.tup [.int (x.2.2.2.1.1 - x.2.2.2.2.1),.int (x.2.2.2.1.2 - x.2.2.2.2.2)]))=H1 at s1 kb ⊢;refine⟨_,rfl,by show 5<=Fh;decide,λr hr=>?_⟩;have s2:a9 H1 (upd H1 r (.tup [.int x.1,.int x.2.1,.int x.2.2.1,.ref b,.ref s])):=a9.upd hr;exact k r _ (a9.trans s1 s2) ⟨b,s,a8,kb.mono s2,⟨s,rfl,s2 _ _ (s1 _ _ hs)⟩⟩
abbrev s_lf:Ga:=(top 77)
theorem sc_lf:aN ["piece","pieces","end","lesser","greater","kind","start","step"] ["piece","pieces"] (aH s_lf):=fS
theorem vC{α:Type}{p q:α->Bool}:∀{l:List α},(∀x∈l,q x=true->p x=true)->l.countP q<=l.countP p
 |[],_=>aw _
 |x::l,h=>by
  have ih:=vC (l:=l) λy hy=>h y (ao _ hy)
  rw[ib,ib];cases e:q x
  ·simp only[dc,if_false];split<;>omega
  ·rw[h x (ay ..) e];simp only[if_true];omega
theorem sI{α:Type}{p q:α->Bool}:∀{l:List α},(∀x∈l,q x=true->p x=true)->(∃x∈l,p x=true/\q x=false)->l.countP q<l.countP p
 |[],_,⟨_,h,_⟩=>by cases h
 |x::l,h,⟨y,hy,py,qy⟩=>by
  rw[ib,ib];rcases aq.mp hy with rfl|hy
  ·rw[py,qy];have:=vC (p:=p) (q:=q) (l:=l) λy hy=>h y (ao _ hy)
   simp only[dc,if_false,if_true];omega
  ·have ih:=sI (l:=l) (λy hy=>h y (ao _ hy)) ⟨y,hy,py,qy⟩;cases e:q x
   ·simp only[dc,if_false];split<;>omega
   ·rw[h x (ay ..) e];simp only[if_true];omega
def leB(a b:PI):Bool:=decide (a.2<b.2\/(a.2=b.2/\a.1<=b.1))
noncomputable def endOf(σ:L2.St)(H:Hp):PI:=match(σ[2]?).join with|some (V.ref a)=>pairOf H a|_=>(0,0)
noncomputable def sp_lf(K:Fg)(d:Adr):Sp:=λvs H Q _=>∃(a c:xv)(x:P5)(xs:NL)(KL:List P5),vs=[.ref a,.ref c]/\T5 H a x/\Rd H c (nO c xs)/\NS [true,true,true,false,false] H c xs/\xs.map (·.1)=KL.map kf5/\KL.Nodup/\x∈KL/\(0<x.2.2.2.2.2\/(x.2.2.2.2.2=0/\0<x.2.2.2.2.1))/\∀r H',a9 H H'->H r=none->H' r=some (.lst ((tX KL x).map V.int))->Q (.ref r) H'
theorem ok_lf(F:Fun K "line_from" "line_from" s_lf f fd)(T:Txt K mg base d)(D_m:aO P w K mg base CX0 1 "moved" ["place","step"] (sp_m K d)):bJ P w K mg base CX0 2 f fd ["piece","pieces"] (sp_lf K d):=by
 refine F.ok sc_lf (λvs _ _ _ h=>ve5 vs h λ_ _ _ _ _ _=>rfl) (λ_ _ _ _ H vs Q E hr h=>?_);have hu:=bG hr;refine ve5 vs h λa c x xs KL hY=>an8 hY λtx rd ns ek nd hxK pos k=>?_;clear hY h
 refine⟨_,(aA (nQ (pv 0) (jW rfl (aX (pgN (i:=3) sc_lf.nd) (aX (pgN (i:=4) sc_lf.nd) (aX (pgN (i:=5) sc_lf.nd) (aX (pgN (i:=6) sc_lf.nd) (aX (pgN (i:=7) sc_lf.nd) fY)))))))
   (aA (psN (i:=2) sc_lf.nd (pfN D_m hr (a7 (pv 6) (a7 (pv 7) aC))))
   (aA (lG PassesOwn.never (dU (P6 (S:=[true,true,true,false,false]) (uW hr) (c9 (a7 (pv 3) (a7 (pv 4) (a7 (pv 5) (a7 (pv 2) (a7 (pv 7) aC)))))) (pv 1))) (aF (psN (i:=2) sc_lf.nd (pfN D_m hr (a7 (pv 2) (a7 (pv 7) aC))))))
   (aF (aS (fF (a7 (pv 5) (a7 (pv 3) (a7 (pv 4) (a7 (bR sZ (aY aT (pv 6) aJ (λ_ _=>rfl)) aJ) (a7 (bR sZ (aY aT (pv 6) aJ (λ_ _=>rfl)) aJ) (a7 (bR sZ (aY aT (pv 2) aJ (λ_ _=>rfl)) aJ) (a7 (bR sZ (aY aT (pv 2) aJ (λ_ _=>rfl)) aJ) aC))))))))))))),?_⟩
 obtain⟨p,st,ha,⟨_,e1,hp⟩,⟨_,e2,qi⟩⟩:=tx;cases e1;cases e2;have xb:∀z,z∈KL↔kf5 z∈xs.map (λy:List NK×xv=>y.1):=λz=>by
  rw[show xs.map (λy:List NK×xv=>y.1)=KL.map kf5 from ek];constructor
  ·exact λh=>au.mpr ⟨z,h,rfl⟩
  ·intro h;obtain⟨y,hy,e⟩:=au.mp h;exact F0 e▸hy
 have few_n:∀n,(∀m,m<n->at5 x (d9 (d9 x.2.2.2.1 x.2.2.2.2) (iZ m x.2.2.2.2))∈KL)->n<=KL.length:=λn h=>by
  have:=c7 (a:=(List.range n).map λm=>at5 x (d9 (d9 x.2.2.2.1 x.2.2.2.2) (iZ m x.2.2.2.2))) (b:=KL) (d5 List.nodup_range λa _ b _ e=>?_) (λz hz=>by obtain⟨m,hm,rfl⟩:=au.mp hz;exact h m (fj.mp hm))
  ·rw[ai,List.length_range]at this;exact this
  ·have e1:x.2.2.2.1.1+x.2.2.2.2.1+a*x.2.2.2.2.1=x.2.2.2.1.1+x.2.2.2.2.1+b*x.2.2.2.2.1:=congrArg (λz:P5=>z.2.2.2.1.1) e;have e2:x.2.2.2.1.2+x.2.2.2.2.2+a*x.2.2.2.2.2=x.2.2.2.1.2+x.2.2.2.2.2+b*x.2.2.2.2.2:=congrArg (λz:P5=>z.2.2.2.1.2) e;rcases pos with c|⟨_,c⟩
   ·have:=Int.eq_of_mul_eq_mul_right (Int.ne_of_gt c) (Int.add_left_cancel e2);omega
   ·have:=Int.eq_of_mul_eq_mul_right (Int.ne_of_gt c) (Int.add_left_cancel e1);omega
 have zp:∀(e:PI)(n:Nat),d9 (d9 e (iZ n x.2.2.2.2)) x.2.2.2.2=d9 e (iZ (n+1) x.2.2.2.2):=λe n=>by
  unfold d9 iZ;refine Prod.ext ?_ ?_
  ·show e.1+n*x.2.2.2.2.1+x.2.2.2.2.1=e.1+((n+1:Nat):Int)*x.2.2.2.2.1
   rw[natCast_add,add_mul];omega
  ·show e.2+n*x.2.2.2.2.2+x.2.2.2.2.2=e.2+((n+1:Nat):Int)*x.2.2.2.2.2
   rw[natCast_add,add_mul];omega
 refine⟨_,rfl,a,_,rfl,SqT.of ha,rfl,_,_,rfl,_,_,rfl,_,_,rfl,_,_,rfl,_,_,rfl,rfl,?_⟩;refine⟨_,rfl,_,rfl,.ref p,.ref st,x.2.2.2.1,x.2.2.2.2,rfl,⟨p,rfl,SqT.of hp⟩,⟨st,rfl,SqT.of qi⟩,λv1 H1 s1 t1=>?_⟩;obtain⟨e0,rfl,he0⟩:=t1;dsimp only[jJ,G7];refine kX (λσ H2=>∃(n:Nat)(ea:xv),σ=[some (.ref a),some (.ref c),some (.ref ea),some (.int x.1),some (.int x.2.1),some (.int x.2.2.1),some (.ref p),some (.ref st)]/\a9 H H2/\T2 H2 (.ref ea) (d9 (d9 x.2.2.2.1 x.2.2.2.2) (iZ n x.2.2.2.2))/\∀m,m<n->at5 x (d9 (d9 x.2.2.2.1 x.2.2.2.2) (iZ m x.2.2.2.2))∈KL)
  (λσ H2=>KL.countP λz=>leB (endOf σ H2) z.2.2.2.1)
  ⟨0,e0,rfl,s1,⟨e0,rfl,by rw[show d9 (d9 x.2.2.2.1 x.2.2.2.2) (iZ 0 x.2.2.2.2)=d9 x.2.2.2.1 x.2.2.2.2 by simp[d9,iZ]];exact he0⟩,λm hm=>absurd hm (Nat.not_lt_zero _)⟩ ?_ (λ_ _ _ _ f ⟨a1,e1,a2,e2,a3,e3,a4,e4,a5,e5,l,g⟩=>⟨a1,e1,a2,e2,a3,e3,a4,e4,a5,e5,l,λp hp=>let⟨v,ev,b1,b2,b3,b4,h1,h2,h3,h4,h5,h6,bb,eb,q⟩:=g p hp;⟨v,ev,b1,b2,b3,b4,h1,h2,h3,h4,h5,h6,bb,eb,f _ _ q⟩⟩)
 intro σ H2 hI;refine ve2 σ hI λn ea hY=>an3 hY λs2 te all=>?_;clear hI hY
 obtain⟨_,e,wd⟩:=te;cases e;refine⟨_,rfl,_,rfl,_,rfl,_,rfl,_,rfl,(by show 5<=Fh;decide),λt ht=>?_⟩;have s3:a9 H2 (upd H2 t (.tup [.int x.1,.int x.2.1,.int x.2.2.1,.ref ea,.ref st])):=a9.upd ht;have kt:(upd H2 t (.tup [.int x.1,.int x.2.1,.int x.2.2.1,.ref ea,.ref st])) t=some (.tup [.int x.1,.int x.2.1,.int x.2.2.1,.ref ea,.ref st]):=a8;generalize (upd H2 t (.tup [.int x.1,.int x.2.1,.int x.2.2.1,.ref ea,.ref st]))=H3 at s3 kt ⊢;have nz:=a9.trans s2 s3;have t5:T5 H3 t (at5 x (d9 (d9 x.2.2.2.1 x.2.2.2.2) (iZ n x.2.2.2.2))):=⟨ea,st,kt,⟨ea,rfl,s3 _ _ wd⟩,⟨st,rfl,nz _ _ qi⟩⟩;refine⟨_,rfl,c,t,_,xs,rfl,rfl,a9.rd nz rd,ns.mono (λb ys z=>nz b _ z),T5.nt t5,rfl,_,rfl,?_⟩;refine cK (λc1=>?_) (λc1=>?_)
 ·have c1:=(xb _).mpr (bq c1);refine⟨_,rfl,_,rfl,.ref ea,.ref st,_,x.2.2.2.2,rfl,⟨ea,rfl,SqT.of (s3 _ _ wd)⟩,⟨st,rfl,SqT.of (nz _ _ qi)⟩,λv4 H4 s4 t4=>?_⟩;obtain⟨eb,rfl,heb⟩:=t4;refine⟨⟨n+1,eb,rfl,a9.trans nz s4,⟨eb,rfl,by rw[<- zp];exact heb⟩,λm hm=>?_⟩,?_⟩
  ·by_cases em:m=n
   ·subst em;exact c1
   ·exact all m Hc
  ·show(KL.countP λz=>leB (pairOf H4 eb) z.2.2.2.1)<KL.countP λz=>leB (pairOf H2 ea) z.2.2.2.1
   rw[mO heb,mO wd];refine sI (λz _ hz=>?_) ⟨_,c1,?_,?_⟩
   ·unfold leB at hz ⊢;rw[decide_eq_true_iff]at hz ⊢;dsimp only at hz ⊢;omega
   ·unfold leB;exact decide_eq_true (.inr ⟨rfl,le_refl _⟩)
   ·unfold leB;refine decide_eq_false ?_;show¬(_+x.2.2.2.2.2< _\/(_+x.2.2.2.2.2=_/\_+x.2.2.2.2.1<=_))
    dsimp only[at5];omega
 ·have c1:¬at5 x (d9 (d9 x.2.2.2.1 x.2.2.2.2) (iZ n x.2.2.2.2))∈KL:=λz=>c1 (decide_eq_true ((xb _).mp z))
  have eg:=RM.FA KL x n KL.length _ all c1 (few_n n all);have Dl:=nz _ _ hp;have he3:=s3 _ _ wd;refine⟨_,rfl,_,rfl,_,rfl,_,rfl,p,_,_,_,rfl,rfl,SqT.of Dl,aQ Hd rfl,_,_,rfl,rfl,⟨Hd,Hd⟩,_,rfl,p,_,_,_,rfl,rfl,SqT.of Dl,aQ Hd rfl,_,_,rfl,rfl,⟨Hd,Hd⟩,_,rfl,ea,_,_,_,rfl,rfl,SqT.of he3,aQ Hd rfl,_,_,rfl,rfl,⟨Hd,Hd⟩,_,rfl,ea,_,_,_,rfl,rfl,SqT.of he3,aQ Hd rfl,_,_,rfl,rfl,⟨Hd,Hd⟩,(by show 7<=Fh;decide),λr hr=>?_⟩;refine k r _ (a9.trans nz (a9.upd hr)) (nz.free hr) ?_;unfold tX;rw[a8,eg];rfl
abbrev s_lo2:Ga:=(top 78)
theorem sc_lo2:aN ["row"] ["row"] (aH s_lo2):=fS
noncomputable def sp_lo2(K:Fg)(d:Adr):Sp:=λvs H Q _=>∃(a:xv)(row:List Int),vs=[.ref a]/\H a=some (.lst (row.map V.int))/\row.length=7/\∀r H',a9 H H'->H' r=some (.tup ([row.getD 1 0,row.getD 2 0,row.getD 4 0,row.getD 3 0].map V.int))->Q (.ref r) H'
theorem ok_lo2(F:Fun K "line_order" "line_order" s_lo2 f fd)(T:Txt K mg base d):bJ P w K mg base CX0 1 f fd ["row"] (sp_lo2 K d):=by
 refine F.ok sc_lo2 (λvs _ _ _ h=>ve2 vs h λ_ _ _=>rfl) (λ_ _ _ _ H vs Q E hr h=>?_);have hu:=bG hr;refine ve2 vs h λa row hY=>an3 hY λha hl k=>?_;clear hY h
 refine⟨_,(aF (aS (c9 (a7 (aY gY (pv 0) aJ (λ_ _=>rfl)) (a7 (aY gY (pv 0) aJ (λ_ _=>rfl)) (a7 (aY gY (pv 0) aJ (λ_ _=>rfl)) (a7 (aY gY (pv 0) aJ (λ_ _=>rfl)) aC))))))),?_⟩;obtain⟨r0,r1,r2,r3,r4,r5,r6,rfl⟩:∃r0 r1 r2 r3 r4 r5 r6,row=[r0,r1,r2,r3,r4,r5,r6]:=by
  match row,hl with
  |[r0,r1,r2,r3,r4,r5,r6],_=>exact⟨_,_,_,_,_,_,_,rfl⟩
 refine⟨_,rfl,a,_,_,_,rfl,rfl,SqL.of ha,aQ Hd rfl,_,rfl,a,_,_,_,rfl,rfl,SqL.of ha,aQ Hd rfl,_,rfl,a,_,_,_,rfl,rfl,SqL.of ha,aQ Hd rfl,_,rfl,a,_,_,_,rfl,rfl,SqL.of ha,aQ Hd rfl,(by show 4<=Fh;decide),λt ht=>?_⟩;exact k t _ (a9.upd ht) a8
abbrev s_lr:Ga:=(top 79)
theorem sc_lr:aN ["roof","pieces","rows","piece"] ["roof"] (aH s_lr):=fS
theorem K6{a b c d a' b' c' d':Int}(h:leI [a,b,c,d] [a',b',c',d']):a<a'\/(a=a'/\(b<b'\/(b=b'/\(c<c'\/(c=c'/\d<=d'))))):=by unfold leI ixs at h;simp[PyProof.Rows.lexLt,PyProof.Rows.itemLt]at h;omega
noncomputable def rowOf(H:Hp)(a:xv):List Int:=match H a with|some (.lst vs)=>vs.map (λv=>match v with| .int i=>i|_=>0)|_=>[]
theorem zZ{H:Hp}{a:xv}{r:List Int}(h:H a=some (.lst (r.map V.int))):rowOf H a=r:=by
 unfold rowOf;rw[h];show(r.map V.int).map _=r
 rw[dt];exact List.map_id' r
noncomputable def sp_lr(K:Fg)(d:Adr):Sp:=λvs H Q _=>∃(x cA dA hA fA nA gA:xv)(C:List (Nat×Nat))(ht:List (PI×Int))(Ns:List (List PI3)),vs=[.ref x]/\zN C d.Roof H x cA dA hA fA nA gA ht Ns/\Roof.isHouse C=true/\∀r kn H',a9 H H'->LLI H' r kn->kn=(Ff C).lines.map (λy=>RM.asI y.tell)->kn.length<=8192->Q (.ref r) H'
theorem ok_lr(F:Fun K "line_rows" "line_rows" s_lr f fd)(T:Txt K mg base d)(D_po:aO P w K mg base CX0 6 "pieces_of" ["roof"] (sp_po K d))(D_pb2:aO P w K mg base CX0 1 "piece_behind" ["piece"] (sp_pb2 K d))(D_lf:aO P w K mg base CX0 2 "line_from" ["piece","pieces"] (sp_lf K d))(D_lo2:aO P w K mg base CX0 1 "line_order" ["row"] (sp_lo2 K d)):bJ P w K mg base CX0 7 f fd ["roof"] (sp_lr K d):=by
 refine F.ok sc_lr (λvs _ _ _ h=>IL vs h λ_ _ _ _ _ _ _ _ _ _ _=>rfl) (λ_ _ _ _ H vs Q E hr h=>?_);have hu:=bG hr;refine IL vs h λx cA dA hA fA nA gA C ht Ns hY=>an3 hY λra hH k=>?_;clear hY h
 refine⟨_,(aA (CL (i:=1) sc_lr.nd rfl (Or.inr rfl) (MI (pfN D_po hr (a7 (pv 0) aC))))
   (aA (A8 (i:=2) (own:=[("piece",3)]) rfl sc_lr.nd rfl rfl (by exact sV rfl rfl rfl rfl) (JG (pv 1)) (gH (by first|decide+kernel|kernel_rfl)) (λ_ _ _ _ _=>(pgN (i:=3) sc_lr.nd)) (λ_ _ _ _ _=>(EM (dU (GH (S:=[true,true,true,false,false]) (uW hr) (pfN D_pb2 hr (a7 (pv 3) aC)) (pv 1))))) (λ_ _ _ _ _=>(pfN D_lf hr (a7 (pv 3) (a7 (pv 1) aC)))))
   (aF (aS (uB D_lo2 (hm hr) rfl T.sorted rfl (a7 (pv 2) aC)))))),?_⟩
 obtain⟨_,jt,hb,_,_⟩:=lT hH;have qk:C.Nodup:=RM.gU (RM.GZ.mp hH).2.2.2.1;refine⟨_,rfl,x,cA,dA,hA,fA,nA,gA,C,ht,Ns,rfl,ra,hH,λc xs KL H1 s1 fc hc ns ek nd iff ll=>?_⟩;refine⟨c,xs,rfl,hc,λod=>?_⟩;have s2:a9 H (upd H1 c (.frz od (nO c xs))):=a9.put s1 fc;have so:(upd H1 c (.frz od (nO c xs))) c=some (.frz od (nO c xs)):=a8;have Cp:NS [true,true,true,false,false] (upd H1 c (.frz od (nO c xs))) c xs:=ns.mono (sU hc D4);generalize (upd H1 c (.frz od (nO c xs)))=H2 at s2 so Cp ⊢;obtain⟨nf,Bn⟩:∃nf:P5->Bool,∀z,nf z=!decide (eJ z∈KL):=⟨_,λ_=>rfl⟩
 have xb:∀z,z∈KL↔kf5 z∈xs.map (λy:List NK×xv=>y.1):=λz=>by
  rw[show xs.map (λy:List NK×xv=>y.1)=KL.map kf5 from ek];constructor
  ·exact λh=>au.mpr ⟨z,h,rfl⟩
  ·intro h;obtain⟨y,hy,e⟩:=au.mp h;exact F0 e▸hy
 have lk:xs.length=KL.length:=by
  have:=congrArg List.length ek
  rwa [ai,ai]at this
 refine⟨_,rfl,c,od,xs,rfl,Cp.sm,so,λD hD=>K7 (d:=c) (od:=od) (xs:=xs)
  (λi H3=>a9 H2 H3/\∃as:List xv,H3 D=some (.lst (as.map V.ref))/\Paired (λa r=>a≠D/\H3 a=some (.lst (r.map V.int))) as (((KL.take i).filter nf).map (tX KL))) ⟨a9.upd hD,[],a8,by rw[take_zero];exact .nil⟩ (λi H3 ⟨s3,_⟩=>s3 _ _ so) ?_ ?_⟩
 ·rintro i kk q H3 hi ⟨s3,as,h3,pa⟩;have sj:=BF hi;have ym:=ba hi;obtain⟨z,hz,rfl⟩:∃z,KL[i]? =some z/\kk=kf5 z:=by
   have h1:(xs.map (·.1))[i]? =some kk:=by rw[bc,hi];rfl
   rw[ek,bc]at h1;cases e:KL[i]? with
   |none=>rw[e]at h1;cases h1
   |some z=>rw[e]at h1;exact⟨z,rfl,(Option.some.inj h1).symm⟩
  have zK:=ba hz;have t5:=(pZ.t5 (Cp.l9 _ ym).1).mono s3;have la:=pairs_len pa;have lf:=ff nf (KL.take i);rw[ai]at la;rw[bx]at lf;have tk:=take_snoc hz;refine⟨rfl,_,rfl,q,z,rfl,t5,λr H4 s4 tb=>?_⟩;have Bi:=a9.trans s3 s4;refine⟨_,rfl,c,r,kf5 (eJ z),xs,rfl,rfl,.inr ⟨od,Bi _ _ so⟩,Cp.mono (λb ys w=>Bi b _ w),T5.nt tb,rfl,_,rfl,?_⟩;have enf:(!decide (kf5 (eJ z)∈xs.map (λy:List NK×xv=>y.1)))=nf z:=by rw[Bn];congr 1;exact decide_eq_decide.mpr (xb _).symm
  rw[enf];refine cK (λc1=>?_) (λc1=>?_)
  ·have pos:0<z.2.2.2.2.2\/(z.2.2.2.2.2=0/\0<z.2.2.2.2.1):=by obtain⟨y,hy,rfl⟩:=(iff z).mp zK;exact RM.M5 hb jt ra.nok hy
   refine⟨_,rfl,_,rfl,q,c,z,xs,KL,rfl,t5.mono s4,.inr ⟨od,Bi _ _ so⟩,Cp.mono (λb ys w=>Bi b _ w),ek,nd,zK,pos,λr2 H5 s5 fr hr2=>?_⟩;have h4:=s4 _ _ h3;have nr:r2≠D:=λe=>by rw[e,h4]at fr;cases fr
   refine⟨_,s5 _ _ h4,by rw[ai];exact few (m:=9000) Hc,a9.put (a9.trans Bi s5) hD,as++[r2],by rw[a8,cf];rfl,?_⟩;rw[tk,gg,show[z].filter nf=[z] by simp[c1],cf];exact bC ⟨nr,by rw[aB nr];exact hr2⟩ (aM (λa r ⟨n1,n2⟩=>⟨n1,by rw[aB n1];exact s5 _ _ (s4 _ _ n2)⟩) pa)
  ·refine⟨Bi,as,s4 _ _ h3,?_⟩;rw[tk,gg,show[z].filter nf=[] by simp[c1],di];exact aM (λa r ⟨n1,n2⟩=>⟨n1,s4 _ _ n2⟩) pa
 ·rintro H3 ⟨s3,as,h3,pa⟩;rw[lk,bf (aw _)]at pa;have sH3:=a9.trans s2 s3;have la:=pairs_len pa;have lf:=ff nf KL;rw[ai]at la;have er:as.map (rowOf H3)=(KL.filter nf).map (tX KL):=by
   have key:∀{l:List xv}{m:List (List Int)},Paired (λa r=>a≠D/\H3 a=some (.lst (r.map V.int))) l m->l.map (rowOf H3)=m:=λ{l m} p=>by
    induction p with
    |nil=>rfl
    |cons h t ih=>rw[bh,zZ h.2,ih]
   exact key pa
  have Bc:∀a∈as,H3 a=some (.lst ((rowOf H3 a).map V.int))/\(rowOf H3 a).length=7:=λa ha=>by obtain⟨i,hi⟩:=gp.mp ha;obtain⟨r,hr,_,h⟩:=pairs_at pa hi;rw[zZ h];refine⟨h,?_⟩;obtain⟨z,_,rfl⟩:=au.mp (ba hr);rfl
  refine⟨_,rfl,D,as,λa=>[(rowOf H3 a).getD 1 0,(rowOf H3 a).getD 2 0,(rowOf H3 a).getD 4 0,(rowOf H3 a).getD 3 0],rfl,SqL.of h3,λa _=>jn _ _,λa ha H5 s5=>⟨a,rowOf H3 a,rfl,s5 _ _ (Bc a ha).1,(Bc a ha).2,λr H6 s6 hr=>⟨s6,r,rfl,hr⟩⟩,λL out H4 hL pm pw s4 hL4=>?_⟩;refine k L (out.map (rowOf H3)) H4 (a9.trans sH3 s4) ⟨out.map V.ref,hL4,?_⟩ ?_ ?_
  ·have key:∀l:List xv,(∀a∈l,a∈as)->Paired (LI H4) (l.map V.ref) (l.map (rowOf H3)):=λl h=>by
    induction l with
    |nil=>exact .nil
    |cons a l ih=>exact .cons ⟨a,rfl,s4 _ _ (Bc a (h a (ay ..))).1⟩ (ih λb hb=>h b (ao _ hb))
   exact key out λa ha=>pm.mem_iff.mp ha
  ·refine RM.GQ hb jt ra.nok iff qk nd ?_ ?_
   ·rw[<- show nf=λz=>!decide (eJ z∈KL)from funext Bn,<- er];exact pm.map _
   ·exact gm.mpr (pw.imp λh=>K6 h)
  ·rw[ai,pm.length_eq];omega
abbrev wI:Ga:=(top 18)
theorem OU:aN ["tell"] ["tell"] (aH wI):=fS
noncomputable def hds(d:Adr):List HD:=[⟨"NoHouse",d.cE,1,⟨35,11,35,18⟩,⟨36,17,36,18⟩,⟨36,16,36,18⟩,⟨36,15,36,19⟩,⟨36,8,36,19⟩,⟨35,4,36,19⟩⟩,⟨"OutOfBounds",d.cH,3,⟨37,11,37,22⟩,⟨38,17,38,18⟩,⟨38,16,38,18⟩,⟨38,15,38,19⟩,⟨38,8,38,19⟩,⟨37,4,38,19⟩⟩,⟨"Outside",d.g8,5,⟨39,11,39,18⟩,⟨40,17,40,18⟩,⟨40,16,40,18⟩,⟨40,15,40,19⟩,⟨40,8,40,19⟩,⟨39,4,40,19⟩⟩,⟨"NoFace",d.j3,6,⟨41,11,41,17⟩,⟨42,17,42,18⟩,⟨42,16,42,18⟩,⟨42,15,42,19⟩,⟨42,8,42,19⟩,⟨41,4,42,19⟩⟩,⟨"NoSize",d.j2,7,⟨43,11,43,17⟩,⟨44,17,44,18⟩,⟨44,16,44,18⟩,⟨44,15,44,19⟩,⟨44,8,44,19⟩,⟨43,4,44,19⟩⟩]
theorem QH(d:Adr):fO wI=[.Try [.Return (some (.Call (.Name "tell" ⟨34,15,34,19⟩) [] [] ⟨34,15,34,21⟩)) ⟨34,8,34,21⟩] ((hds d).map HD.h) [] [] ⟨33,4,44,19⟩]:=rfl
structure Ans(K:Fg)(mg:Str->Option fv)(base:Fp)(d:Adr)(fA:xv)(fdA:Gi):Prop where
 fn:Fun K "answer_or_refusal" "answer_or_refusal" wI fA fdA
 at_:mg "answer_or_refusal" =some (.ref fA)
 bind:Binds K fdA ["tell"] []
 jO:mg "NoHouse" =some (.ref d.cE)
 j5:iJ base d.cE
 eB:mg "OutOfBounds" =some (.ref d.cH)
 dZ:iJ base d.cH
 jN:mg "Outside" =some (.ref d.g8)
 j4:iJ base d.g8
 m8:mg "NoFace" =some (.ref d.j3)
 kW:iJ base d.j3
 m7:mg "NoSize" =some (.ref d.j2)
 kU:iJ base d.j2
 ap:[d.cE,d.cH,d.g8,d.j3,d.j2].Nodup
 bm:QL mg base
theorem Ans.PY{K:Fg}{mg:Str->Option fv}{base:Fp}{d:Adr}{fA:xv}{fdA:Gi}(A:Ans K mg base d fA fdA):∀h∈hds d,mg h.x=some (.ref h.C)/\(aH wI).names.lookup h.x=some .globalImplicit/\iJ base h.C/\(h.x==("__debug__" : Str))=false:=by
 intro h hh;rcases aq.mp hh with rfl|hh
 ·exact⟨A.jO,rfl,A.j5,rfl⟩
 rcases aq.mp hh with rfl|hh
 ·exact⟨A.eB,rfl,A.dZ,rfl⟩
 rcases aq.mp hh with rfl|hh
 ·exact⟨A.jN,rfl,A.j4,rfl⟩
 rcases aq.mp hh with rfl|hh
 ·exact⟨A.m8,rfl,A.kW,rfl⟩
 rcases aq.mp hh with rfl|hh
 ·exact⟨A.m7,rfl,A.kU,rfl⟩
 exact(nomatch hh)
theorem Ans.DQ{K:Fg}{mg:Str->Option fv}{base:Fp}{d:Adr}{fA:xv}{fdA:Gi}(A:Ans K mg base d fA fdA){H H0:Hp}{Q:VK}(h:∀p,H p=none->Q (.ref p) (upd H p (.lst [.int (-1)]))):XA (hds d) H Q (.ref d.cE) none H0:=by
 have nd:=A.ap;simp only[dh,aq,ej,or_false,not_or]at nd;refine⟨_,rfl,⟨_,ba (i:=0) rfl,rfl⟩,λe he hC p hp=>?_⟩;rcases aq.mp he with rfl|he
 ·exact h p hp
 rcases aq.mp he with rfl|he
 ·exact absurd hC (by intro z;simp_all)
 rcases aq.mp he with rfl|he
 ·exact absurd hC (by intro z;simp_all)
 rcases aq.mp he with rfl|he
 ·exact absurd hC (by intro z;simp_all)
 rcases aq.mp he with rfl|he
 ·exact absurd hC (by intro z;simp_all)
 exact(nomatch he)
theorem OT{K:Fg}{H:Hp}{tb a:xv}{xs:List V}{ps qs:Array fv}(h:SqL K H a xs)(ht:H tb=some (.tbl ps)):SqL K (hT H tb qs) a xs:=by
 rcases h with h|h
 ·left;have n:a≠tb:=λz=>by rcases h with h|⟨o,h⟩<;>(rw[z,ht]at h;cases h)
  rcases h with h|⟨o,h⟩
  ·exact .inl (by unfold hT;rw[aB n];exact h)
  ·exact .inr ⟨o,by unfold hT;rw[aB n];exact h⟩
 ·exact .inr h
abbrev s_f:Ga:=(top 83)
theorem sc_f:aN ["t"] ["t"] (aH s_f):=fS
noncomputable def sp_f(K:Fg)(tb:xv):Sp:=λvs H Q _=>∃(rt:xv)(nt:List Int),vs=[.ref rt]/\SqL K H rt (nt.map V.int)/\nt.length<=4096/\inB nt/\qD tb H/\
 ∀p H',H' p=some (.lst ((RoofBNeutral.f [[3],nt]).map V.int))->Q (.ref p) H'
noncomputable def LW(K:Fg)(d:Adr):XK->Hp->TE:=λE H=>(wG (sp_c K d) [] E0 (EI (wG (sp_lr K d) [] E0 (EI (wG (sp_rt K d) [] (λc _ _=>E c none H) (EI (OM 0) LZ)) LZ)) LZ))
theorem ok_f{P:Fo}{w:Fw}{K:Fg}{mg:Str->Option fv}{base:Fp}{d:Adr}{f fA c tb:xv}{fd fdA:Gi}(F:Fun K "lines" "lines" s_f f fd)(T:Txt K mg base d)(AN:Ans K mg base d fA fdA)(Ee:fd.code=.ref c)(hC:W.CodeHd base c tb)(D_c:aO P w K mg base CX0 1 "counted" ["rows"] (sp_c K d))(D_lr:aO P w K mg base CX0 7 "line_rows" ["roof"] (sp_lr K d))(D_rt:aO P w K mg base CXf 9 "roof_told" ["t"] (sp_rt K d)):bJ P w K mg base CXf 12 f fd ["t"] (sp_f K tb):=by
 obtain⟨oc,od,kV,mf,pm,an,jx,ct,nh,rfl,lk,ot⟩:=F.ex;obtain⟨oc2,od2,kV2,doc2,pm2,an2,cdv2,ct2,osl2,e2,lk2,hcd2⟩:=AN.fn.ex;obtain rfl:jx=.ref c:=Ee;subst e2;refine KW lk ot sc_f (λvs H Q E h=>by obtain⟨rt,nt,rfl,_⟩:=h;rfl) (λA outer s H vs Q E hr hok h=>?_);obtain⟨rt,nt,rfl,hSt,ka,hBt,⟨hE1,hE2⟩,k⟩:=h;refine⟨_,aF (aS (P4 (k:=9) (teL:=LW K d) (T:=tb) AN.at_ lk2 hcd2 AN.fn.kp AN.bind OU rfl (QH d) rfl AN.PY rfl Hd hr (λ_=>rfl) rfl hC AN.bm rfl (λ_ _ _ _=>rfl) rfl rfl rfl (by decide+kernel) (λy hy=>absurd rfl ((by decide+kernel:∀z∈ _,z.2≠NameKind.local) _ (PySem.mem_of_lookup hy))) (λy hy he=>(by decide+kernel:∀z:Str×NameKind,z∈(_:List (Str×NameKind))->z.2=NameKind.free->(aH s_f).names.lookup z.1=some NameKind.cell) y hy he)
  (λfl c' cl A outer s H E hr hok=>(pfN D_c hr (a7 (pfN D_lr hr (a7 (rP D_rt hr (R8 hok) rfl (a7 (pv 0) aC)) aC)) aC))))),?_⟩
 refine⟨[.ref rt],#[],rfl,hE1,trivial,rfl,qD.flat hE2,λmore=>?_⟩;have hTb:hT H tb (#[]++more) tb≠none:=by unfold hT;rw[a8];intro z;cases z
 have hQ:∀(r:List Int)(H1:Hp)(p:xv),RoofBNeutral.f [[3],nt]=r->p≠tb->H1 p=some (.lst (r.map V.int))->Q (.ref p) (upd H1 tb (.tbl (#[]++more))):=λr H1 p e n q=>k p _ (by rw[aB n,e];exact q)
 have hX:∀r:Int,RoofBNeutral.f [[3],nt]=[r]->∀p,hT H tb (#[]++more) p=none->upd (hT H tb (#[]++more)) p (.lst [.int r]) tb=some (.frz (W.tabObj (#[]++more)) (.tbl (#[]++more)))->Q (.ref p) (upd (upd (hT H tb (#[]++more)) p (.lst [.int r])) tb (.tbl (#[]++more))):=λr e p hp _=>
  hQ [r] _ p e (λz=>hTb (z▸hp)) a8
 have xx:hT H tb (#[]++more) tb=some (.frz (W.tabObj (#[]++more)) (.tbl (#[]++more))):=by unfold hT;rw[a8]
 refine⟨_,rfl,rt,nt,rfl,OT hSt hE1,ka,hBt,λF hF hH x cA dA hA fA nA gA ht Ns H1 s1 ra=>?_,λc=>AN.DQ (hX _ (RM.vQ c))⟩;refine⟨x,cA,dA,hA,fA,nA,gA,aW F,ht,Ns,rfl,ra,hH,λr kn H3 s3 rw_ er rl=>?_⟩;have f7:∀L:List (List Int),(∀r∈L,r.length=7)->L.flatten.length=7*L.length:=λL=>by
  induction L with
  |nil=>exact λ_=>rfl
  |cons a L ih=>intro h;rw[jg,aj,bo,h a (ay ..),ih λr hr=>h r (ao _ hr)];omega
 have fl:=f7 kn (λr hr=>by rw[er]at hr;obtain⟨c,_,rfl⟩:=au.mp hr;rfl);exact⟨r,_,rfl,rw_,Hc,Hc,λp H4 s4 hp he _=>hQ _ H4 p (RM.DC hF er) (λz=>by rw[z,s3 _ _ (s1 _ _ xx)]at hp;cases hp) he⟩
@[elab_as_elim] theorem el1{α:Type}{C:List α->Prop}:∀(us:List α),us.length=1->(∀x0,C [x0])->C us
 |[x0],_,k=>k x0
@[elab_as_elim] theorem el2{α:Type}{C:List α->Prop}:∀(us:List α),us.length=2->(∀x0 x1,C [x0,x1])->C us
 |[x0,x1],_,k=>k x0 x1
@[elab_as_elim] theorem el3{α:Type}{C:List α->Prop}:∀(us:List α),us.length=3->(∀x0 x1 x2,C [x0,x1,x2])->C us
 |[x0,x1,x2],_,k=>k x0 x1 x2
@[elab_as_elim] theorem el4{α:Type}{C:List α->Prop}:∀(us:List α),us.length=4->(∀x0 x1 x2 x3,C [x0,x1,x2,x3])->C us
 |[x0,x1,x2,x3],_,k=>k x0 x1 x2 x3
theorem LM{P:Fo}{w:Fw}{K:Fg}{mg:Str->Option fv}{base:Fp}{d:Adr}(M:Mod K mg base)(T:Txt K mg base d){fI:xv}{fdI:Gi}(oh:Mk K d.Roof fI)(F_init:Fun K "__init__" "Roof.__init__" s_i fI fdI)
  (D_c:aG K "counted" s_c)
  (D_lo:aG K "left_of" s_lo)
  (D_tol:aG K "triangle_on_left" s_tol)
  (D_br:aG K "by_row" s_br)
  (D_o:aG K "opposite" s_o)
  (D_mo:aG K "middle_of" s_mo)
  (D_kb:aG K "kind_between" s_kb)
  (D_pb3:aG K "piece_between" s_pb3)
  (D_d:aG K "doubled" s_d)
  (D_m:aG K "moved" s_m)
  (D_ss:aG K "side_start" s_ss)
  (D_se:aG K "side_end" s_se)
  (D_ew:aG K "ends_within" s_ew)
  (D_b:aG K "beyond" s_b)
  (D_ta:aG K "triangle_across" s_ta)
  (D_ea:aG K "ends_across" s_ea)
  (D_po:aG K "pieces_of" s_po)
  (D_pb2:aG K "piece_behind" s_pb2)
  (D_lf:aG K "line_from" s_lf)
  (D_lo2:aG K "line_order" s_lo2)
  (D_lr:aG K "line_rows" s_lr)
  (D_hco:aG K "half_cells_of" s_hco)
  (D_id:aG K "is_deeper" s_id)
  (D_do:aG K "depths_of" s_do)
  (D_ho:aG K "height_over" s_ho)
  (D_ho2:aG K "heights_of" s_ho2)
  (D_ro:aG K "right_of" s_ro)
  (D_fo2:aG K "facing_of" s_fo2)
  (D_fo3:aG K "facings_of" s_fo3)
  (D_tor:aG K "triangle_on_right" s_tor)
  (D_nf:aG K "number_face" s_nf)
  (D_no:aG K "numbers_of" s_no)
  (D_fo:aG K "faces_of" s_fo)
  (D_pb:aG K "parts_between" s_pb)
  (D_dt:aG K "digit_told" s_dt)
  (D_nt:aG K "number_told" s_nt)
  (D_ct:aG K "corner_told" s_ct)
  (D_wt:aG K "walk_told" s_wt)
  (D_wt2:aG K "walks_told" s_wt2)
  (D_far:aG K "feet_across_rows" s_far)
  (D_cw:aG K "cells_within" s_cw)
  (D_haw:aG K "headings_along_walls" s_haw)
  (D_wf:aG K "walk_from" s_wf)
  (D_wr:aG K "walks_round" s_wr)
  (D_miap:aG K "meets_in_a_point" s_miap)
  (D_ij:aG K "is_joined" s_ij)
  (D_ih:aG K "is_house" s_ih)
  (D_ht:aG K "house_told" s_ht)
  (D_rt:aG K "roof_told" s_rt)
  : aO P w K mg base CX0 1 "counted" ["rows"] (sp_c K d)/\aO P w K mg base CX0 7 "line_rows" ["roof"] (sp_lr K d)/\aO P w K mg base CXf 9 "roof_told" ["t"] (sp_rt K d):=by
 have E_c:=D_c.ok M (λ_ _ F=>ok_c F T (P:=P) (w:=w)) λ_ _ _ _ _ _ us h=>el1 us h λ_=>rfl
 have E_lo:=D_lo.ok M (λ_ _ F=>ok_lo F T (P:=P) (w:=w)) λ_ _ _ _ _ _ us h=>el1 us h λ_=>rfl
 have E_tol:=D_tol.ok M (λ_ _ F=>ok_tol F T E_lo) λ_ _ _ _ _ _ us h=>el1 us h λ_=>rfl
 have E_br:=D_br.ok M (λ_ _ F=>ok_br F T (P:=P) (w:=w)) λ_ _ _ _ _ _ us h=>el1 us h λ_=>rfl
 have E_o:=D_o.ok M (λ_ _ F=>ok_o F T (P:=P) (w:=w)) λ_ _ _ _ _ _ us h=>el1 us h λ_=>rfl
 have E_mo:=D_mo.ok M (λ_ _ F=>ok_mo F T (P:=P) (w:=w)) λ_ _ _ _ _ _ us h=>el1 us h λ_=>rfl
 have E_kb:=D_kb.ok M (λ_ _ F=>ok_kb F T E_o E_mo) λ_ _ _ _ _ _ us h=>el3 us h λ_ _ _=>rfl
 have E_pb3:=D_pb3.ok M (λ_ _ F=>ok_pb3 F T E_br E_kb) λ_ _ _ _ _ _ us h=>el4 us h λ_ _ _ _=>rfl
 have E_d:=D_d.ok M (λ_ _ F=>ok_d F T (P:=P) (w:=w)) λ_ _ _ _ _ _ us h=>el1 us h λ_=>rfl
 have E_m:=D_m.ok M (λ_ _ F=>ok_m F T (P:=P) (w:=w)) λ_ _ _ _ _ _ us h=>el2 us h λ_ _=>rfl
 have E_ss:=D_ss.ok M (λ_ _ F=>ok_ss F T E_m) λ_ _ _ _ _ _ us h=>el2 us h λ_ _=>rfl
 have E_se:=D_se.ok M (λ_ _ F=>ok_se F T E_ss E_lo) λ_ _ _ _ _ _ us h=>el2 us h λ_ _=>rfl
 have E_ew:=D_ew.ok M (λ_ _ F=>ok_ew F T E_d E_se E_m) λ_ _ _ _ _ _ us h=>el1 us h λ_=>rfl
 have E_b:=D_b.ok M (λ_ _ F=>ok_b F T E_m) λ_ _ _ _ _ _ us h=>el2 us h λ_ _=>rfl
 have E_ta:=D_ta.ok M (λ_ _ F=>ok_ta F T E_b E_o) λ_ _ _ _ _ _ us h=>el1 us h λ_=>rfl
 have E_ea:=D_ea.ok M (λ_ _ F=>ok_ea F T E_d E_se E_ss) λ_ _ _ _ _ _ us h=>el1 us h λ_=>rfl
 have E_po:=D_po.ok M (λ_ _ F=>ok_po F T E_tol E_pb3 E_ew E_ta E_ea) λ_ _ _ _ _ _ us h=>el1 us h λ_=>rfl
 have E_pb2:=D_pb2.ok M (λ_ _ F=>ok_pb2 F T (P:=P) (w:=w)) λ_ _ _ _ _ _ us h=>el1 us h λ_=>rfl
 have E_lf:=D_lf.ok M (λ_ _ F=>ok_lf F T E_m) λ_ _ _ _ _ _ us h=>el2 us h λ_ _=>rfl
 have E_lo2:=D_lo2.ok M (λ_ _ F=>ok_lo2 F T (P:=P) (w:=w)) λ_ _ _ _ _ _ us h=>el1 us h λ_=>rfl
 have E_lr:=D_lr.ok M (λ_ _ F=>ok_lr F T E_po E_pb2 E_lf E_lo2) λ_ _ _ _ _ _ us h=>el1 us h λ_=>rfl
 have E_hco:=D_hco.ok M (λ_ _ F=>ok_hco F T E_m E_br) λ_ _ _ _ _ _ us h=>el1 us h λ_=>rfl
 have E_id:=D_id.ok M (λ_ _ F=>ok_id F T E_m) λ_ _ _ _ _ _ us h=>el2 us h λ_ _=>rfl
 have E_do:=D_do.ok M (λ_ _ F=>ok_do F T E_hco E_id) λ_ _ _ _ _ _ us h=>el1 us h λ_=>rfl
 have E_ho:=D_ho.ok M (λ_ _ F=>ok_ho F T E_m) λ_ _ _ _ _ _ us h=>el2 us h λ_ _=>rfl
 have E_ho2:=D_ho2.ok M (λ_ _ F=>ok_ho2 F T E_ss E_ho) λ_ _ _ _ _ _ us h=>el1 us h λ_=>rfl
 have E_ro:=D_ro.ok M (λ_ _ F=>ok_ro F T (P:=P) (w:=w)) λ_ _ _ _ _ _ us h=>el1 us h λ_=>rfl
 have E_fo2:=D_fo2.ok M (λ_ _ F=>ok_fo2 F T E_ss E_se E_lo E_ro E_o) λ_ _ _ _ _ _ us h=>el4 us h λ_ _ _ _=>rfl
 have E_fo3:=D_fo3.ok M (λ_ _ F=>ok_fo3 F T E_fo2) λ_ _ _ _ _ _ us h=>el2 us h λ_ _=>rfl
 have E_tor:=D_tor.ok M (λ_ _ F=>ok_tor F T E_ro) λ_ _ _ _ _ _ us h=>el1 us h λ_=>rfl
 have E_nf:=D_nf.ok M (λ_ _ F=>ok_nf F T E_tol E_tor E_ta) λ_ _ _ _ _ _ us h=>el4 us h λ_ _ _ _=>rfl
 have E_no:=D_no.ok M (λ_ _ F=>ok_no F T E_nf) λ_ _ _ _ _ _ us h=>el1 us h λ_=>rfl
 have E_fo:=D_fo.ok M (λ_ _ F=>ok_fo F T (P:=P) (w:=w)) λ_ _ _ _ _ _ us h=>el1 us h λ_=>rfl
 have b_init:Binds K fdI ["self","cells"] []:=F_init.binds λ_ _ _ _ _ _ us hl=>el2 us hl λ_ _=>rfl
 have E_i:bJ P w K mg base CX0 7 fI fdI ["self","cells"] (sp_i K d):=ok_i F_init T E_do E_ho2 E_fo3 E_no E_fo;have E_pb:=D_pb.ok M (λ_ _ F=>ok_pb F T (P:=P) (w:=w)) λ_ _ _ _ _ _ us h=>el2 us h λ_ _=>rfl
 have E_dt:=D_dt.ok M (λ_ _ F=>ok_dt F T (P:=P) (w:=w)) λ_ _ _ _ _ _ us h=>el1 us h λ_=>rfl
 have E_nt:=D_nt.ok M (λ_ _ F=>ok_nt F T E_dt) λ_ _ _ _ _ _ us h=>el1 us h λ_=>rfl
 have E_ct:=D_ct.ok M (λ_ _ F=>ok_ct F T E_pb E_nt) λ_ _ _ _ _ _ us h=>el1 us h λ_=>rfl
 have E_wt:=D_wt.ok M (λ_ _ F=>ok_wt F T E_pb E_ct) λ_ _ _ _ _ _ us h=>el1 us h λ_=>rfl
 have E_wt2:=D_wt2.ok M (λ_ _ F=>ok_wt2 F T E_pb E_wt) λ_ _ _ _ _ _ us h=>el1 us h λ_=>rfl
 have E_far:=D_far.ok M (λ_ _ F=>ok_far F T (P:=P) (w:=w)) λ_ _ _ _ _ _ us h=>el1 us h λ_=>rfl
 have E_cw:=D_cw.ok M (λ_ _ F=>ok_cw F T E_far) λ_ _ _ _ _ _ us h=>el1 us h λ_=>rfl
 have E_haw:=D_haw.ok M (λ_ _ F=>ok_haw F T E_b E_ss E_lo) λ_ _ _ _ _ _ us h=>el1 us h λ_=>rfl
 have E_wf:=D_wf.ok M (λ_ _ F=>ok_wf F T E_b) λ_ _ _ _ _ _ us h=>el3 us h λ_ _ _=>rfl
 have E_wr:=D_wr.ok M (λ_ _ F=>ok_wr F T E_haw E_br E_wf) λ_ _ _ _ _ _ us h=>el1 us h λ_=>rfl
 have E_miap:=D_miap.ok M (λ_ _ F=>ok_miap F T E_b E_lo) λ_ _ _ _ _ _ us h=>el2 us h λ_ _=>rfl
 have E_ij:=D_ij.ok M (λ_ _ F=>ok_ij F T E_b) λ_ _ _ _ _ _ us h=>el1 us h λ_=>rfl
 have E_ih:=D_ih.ok M (λ_ _ F=>ok_ih F T E_miap E_ij) λ_ _ _ _ _ _ us h=>el1 us h λ_=>rfl
 have E_ht:=D_ht.ok M (λ_ _ F=>ok_ht F T E_wt2 E_cw E_wr E_ih) λ_ _ _ _ _ _ us h=>el1 us h λ_=>rfl
 have E_rt:=D_rt.ok M (λ_ _ F=>ok_rt F T E_ht oh E_i b_init) λ_ _ _ _ _ _ us h=>el1 us h λ_=>rfl
 exact⟨E_c,E_lr,E_rt⟩
abbrev rwL:W.OpenSpec:=PySem.Challenge.rw_rooftold_s03_lines
theorem R4:rwL.wellSaid=true:=by decide+kernel
theorem IB{args:List W.WData}(h:rwL.pre args=true):∃(nt:List Int),nt.length<=4096/\inB nt/\args=[.list (nt.map W.WData.int)]/\
  ∀ds,rwL.claim.post args (.list ((RoofBNeutral.f [[3],nt]).map W.WData.int)) ds=true:=by
 obtain⟨a,h1,h2,rfl⟩:=(W.OpenSpec.pre_iff R4 args).mp h;clear h2 h;have key:∀a:List Int×Unit,W.Codec.withinAll rwL.args a=true->∃(nt:List Int),nt.length<=4096/\inB nt/\W.Codec.encAll rwL.args a=[.list (nt.map W.WData.int)]/\
   ∀ds,rwL.claim.post (W.Codec.encAll rwL.args a) (.list ((RoofBNeutral.f [[3],nt]).map W.WData.int)) ds=true:=by
  rintro⟨nt,u'⟩ h1;have w1:((W.Codec.inNat 0 4096 nt.length&& nt.all (W.Codec.inInt 0 255))&& true)=true:=h1;simp only[bw,W.Codec.inInt_iff,W.Codec.inNat_iff,ia]at w1;exact⟨nt,w1.1.1.2,λx hx=>w1.1.2 x hx,rfl,λds=>(W.OpenSpec.post_iff R4 h1 _ ds).mpr rfl⟩
 exact key a h1
theorem FW{K:Fg}{w:Fw}{s1:Fe}{mg mb:Str->Option fv}{q:Fo}{loose:List Str}{zu mn:ExcName->Option fv}{cl:Str->Option xv}{fa f fA fI c tb:xv}{fd fdA fdI:Gi}{args:List W.WData}{nj:List fv}{d:Adr}{dr:DefRec}
  (KX:K.In s1.heap) (T:PyProof.Rows.Top q loose zu mg mb s1.heap) (hg:s1.gens=#[]) (hmg:mg "lines" =some (.ref fa)) (Ai:rwL.pre args=true) (Cy:W.WellAll w.params s1.heap nj args)
  (TX:∀{mb2:Str->Option fv}{base:Fp},Mod K mg base->W.TopRead q loose mg mb2 base->Txt K mg base d) (oh:Mk K d.Roof fI) (F_init:Fun K "__init__" "Roof.__init__" s_i fI fdI)
  (D_c:aG K "counted" s_c)
  (D_lo:aG K "left_of" s_lo)
  (D_tol:aG K "triangle_on_left" s_tol)
  (D_br:aG K "by_row" s_br)
  (D_o:aG K "opposite" s_o)
  (D_mo:aG K "middle_of" s_mo)
  (D_kb:aG K "kind_between" s_kb)
  (D_pb3:aG K "piece_between" s_pb3)
  (D_d:aG K "doubled" s_d)
  (D_m:aG K "moved" s_m)
  (D_ss:aG K "side_start" s_ss)
  (D_se:aG K "side_end" s_se)
  (D_ew:aG K "ends_within" s_ew)
  (D_b:aG K "beyond" s_b)
  (D_ta:aG K "triangle_across" s_ta)
  (D_ea:aG K "ends_across" s_ea)
  (D_po:aG K "pieces_of" s_po)
  (D_pb2:aG K "piece_behind" s_pb2)
  (D_lf:aG K "line_from" s_lf)
  (D_lo2:aG K "line_order" s_lo2)
  (D_lr:aG K "line_rows" s_lr)
  (D_hco:aG K "half_cells_of" s_hco)
  (D_id:aG K "is_deeper" s_id)
  (D_do:aG K "depths_of" s_do)
  (D_ho:aG K "height_over" s_ho)
  (D_ho2:aG K "heights_of" s_ho2)
  (D_ro:aG K "right_of" s_ro)
  (D_fo2:aG K "facing_of" s_fo2)
  (D_fo3:aG K "facings_of" s_fo3)
  (D_tor:aG K "triangle_on_right" s_tor)
  (D_nf:aG K "number_face" s_nf)
  (D_no:aG K "numbers_of" s_no)
  (D_fo:aG K "faces_of" s_fo)
  (D_pb:aG K "parts_between" s_pb)
  (D_dt:aG K "digit_told" s_dt)
  (D_nt:aG K "number_told" s_nt)
  (D_ct:aG K "corner_told" s_ct)
  (D_wt:aG K "walk_told" s_wt)
  (D_wt2:aG K "walks_told" s_wt2)
  (D_far:aG K "feet_across_rows" s_far)
  (D_cw:aG K "cells_within" s_cw)
  (D_haw:aG K "headings_along_walls" s_haw)
  (D_wf:aG K "walk_from" s_wf)
  (D_wr:aG K "walks_round" s_wr)
  (D_miap:aG K "meets_in_a_point" s_miap)
  (D_ij:aG K "is_joined" s_ij)
  (D_ih:aG K "is_house" s_ih)
  (D_ht:aG K "house_told" s_ht)
  (D_rt:aG K "roof_told" s_rt)
  (n_face:W.nsIn K Fl "lines" =some (some (.ref f))) (F_face:Fun K "lines" "lines" s_f f fd) (Ee:fd.code=.ref c) (oj:W.tabIn K "lines" =some (c,tb)) (Ae:(PyProof.Rows.recsOf q).find? (λe=>e.name==("lines" : Str))=some dr) (Em:K.lookup tb=none)
  (n_ans:W.nsIn K Fl "answer_or_refusal" =some (some (.ref fA))) (F_ans:Fun K "answer_or_refusal" "answer_or_refusal" wI fA fdA)
  (jO:W.nsIn K Fl "NoHouse" =some (some (.ref d.cE))) (j5:∀{h:Fp},K.In h->iJ h d.cE)
  (eB:W.nsIn K Fl "OutOfBounds" =some (some (.ref d.cH))) (dZ:∀{h:Fp},K.In h->iJ h d.cH)
  (jN:W.nsIn K Fl "Outside" =some (some (.ref d.g8))) (j4:∀{h:Fp},K.In h->iJ h d.g8)
  (m8:W.nsIn K Fl "NoFace" =some (some (.ref d.j3))) (kW:∀{h:Fp},K.In h->iJ h d.j3)
  (m7:W.nsIn K Fl "NoSize" =some (some (.ref d.j2))) (kU:∀{h:Fp},K.In h->iJ h d.j2)
  (ap:[d.cE,d.cH,d.g8,d.j3,d.j2].Nodup):
  Fi (Fm rwL.prog w) callerA (call (.ref fa) nj) (λv s'=>W.GoodWG rwL.claim cl mn args s1 (.ok (.ret v)) s') (λe s'=>W.GoodWG rwL.claim cl mn args s1 (.error e) s') s1:=by
 obtain⟨nt,ka,hBt,rfl,Dj⟩:=IB Ai;have e:=hmg.symm.trans (W.mg_of KX T.g n_face);cases e;obtain⟨hC,ht⟩:=W.tab_of (x:= "lines") T KX Ae oj;obtain⟨rt,ut,rfl,hOt,hIt⟩:∃rt ut,nj=[.ref rt]/\s1.heap.get? rt=some (K3 ut)/\PyProof.Rows.IntsAre ut nt:=by
  cases Cy with
  |cons ht Cy=>
   cases Cy;cases ht with
   |list hot hwt=>exact⟨_,_,rfl,hot,w8 hwt⟩
 refine wpAny_call (codeAny_mono (GW (P:=rwL.prog) (w:=w) (K:=K) (k:=12) (tb:=tb) (fd:=fd) (ps:=["t"]) (sp:=sp_f K tb) (LA:=[(rt,ut,nt)]) (vs:=[.ref rt]) (R:=λr=>r=RoofBNeutral.f [[3],nt])
  KX T.g T.b T.builtins T.nolimit hg ?_ ht (HZ hC) Em ⟨rfl,Hd,Hd⟩ (.cons rfl .nil) ?_ ?_ ?_) λr s' h=>?_)
 ·intro p hp;rcases aq.mp hp with rfl|hp
  ·exact⟨hOt,hIt,de ka Hd⟩
  exact(nomatch hp)
 ·intro base M kp;obtain⟨mb2,hb1,Bs⟩:=M.blt;have TR:W.TopRead q loose mg mb2 base:=⟨M.glob,hb1,M.nolimit,Bs,T.free⟩;have TX0:=TX M TR;have AN:Ans K mg base d fA fdA:=⟨F_ans,W.mg_of M.kin M.glob n_ans,F_ans.binds (λ_ _ _ _ _ _ us hl=>match us,hl with|[_],_=>rfl),W.mg_of M.kin M.glob jO,j5 M.kin,W.mg_of M.kin M.glob eB,dZ M.kin,W.mg_of M.kin M.glob jN,j4 M.kin,W.mg_of M.kin M.glob m8,kW M.kin,W.mg_of M.kin M.glob m7,kU M.kin,ap,NW T ht kp⟩;obtain⟨E_c,E_lr,E_rt⟩:=LM (P:=rwL.prog) (w:=w) M TX0 oh F_init D_c D_lo D_tol D_br D_o D_mo D_kb D_pb3 D_d D_m D_ss D_se D_ew D_b D_ta D_ea D_po D_pb2 D_lf D_lo2 D_lr D_hco D_id D_do D_ho D_ho2 D_ro D_fo2 D_fo3 D_tor D_nf D_no D_fo D_pb D_dt D_nt D_ct D_wt D_wt2 D_far D_cw D_haw D_wf D_wr D_miap D_ij D_ih D_ht D_rt;exact ok_f F_face TX0 AN Ee (BS hC kp) E_c E_lr E_rt
 ·exact F_face.binds (ps:=["t"]) (λ_ _ _ _ _ _ us hl=>match us,hl with|[_],_=>rfl) s1 _ KX rfl
 ·intro H hA hS;exact⟨rt,nt,rfl,hS (rt,ut,nt) (ay),ka,hBt,hA,λp H' hp=>⟨p,_,rfl,hp,rfl⟩⟩
 ·obtain⟨⟨p,its,n,ms,rfl,Ar,pr,rfl⟩,h2,h3,h4⟩:=h;exact⟨.inl ⟨.ref p,.list ((RoofBNeutral.f [[3],nt]).map W.WData.int),_,rfl,λ_=>rfl,.list Ar rfl rfl (by simpa using tZ pr),Dj _,λz=>(nomatch z)⟩,h2,h3,h4⟩
structure Facts(K:Fg)(d:Adr)(fI:xv)(fdI:Gi):Prop where
 txt:∀{p:Fo}{loose:List Str}{mg mb:Str->Option fv}{base:Fp},Mod K mg base->W.TopRead p loose mg mb base->Txt K mg base d
 mkR:Mk K d.Roof fI
 init:Fun K "__init__" "Roof.__init__" s_i fI fdI
 jO:W.nsIn K Fl "NoHouse" =some (some (.ref d.cE))
 j5:∀{h:Fp},K.In h->iJ h d.cE
 eB:W.nsIn K Fl "OutOfBounds" =some (some (.ref d.cH))
 dZ:∀{h:Fp},K.In h->iJ h d.cH
 jN:W.nsIn K Fl "Outside" =some (some (.ref d.g8))
 j4:∀{h:Fp},K.In h->iJ h d.g8
 m8:W.nsIn K Fl "NoFace" =some (some (.ref d.j3))
 kW:∀{h:Fp},K.In h->iJ h d.j3
 m7:W.nsIn K Fl "NoSize" =some (some (.ref d.j2))
 kU:∀{h:Fp},K.In h->iJ h d.j2
 ap:[d.cE,d.cH,d.g8,d.j3,d.j2].Nodup
theorem L0{K:Fg}{kr ke lz mv mr kj rALL_SIDES rb rSIDE_STARTS mx rHALVES_ABOUT rHALVES_AT_A_POINT fI:xv}{tLINE_FEED ui uh tDIGIT_ZERO tDIGIT_NINE tGREATEST_NUMBER tMOST_DIGITS tFEWEST_CORNERS tCELLS_IN_A_ROW tMOST_CELLS ug Cc rq:Tok}
  {nm0 q0 nm1 q1 nm2 q2 nm3 q3 nm4 q4:Str}{N0 N1 N2 N3 N4:xv}{bs0 sub0 bs1 sub1 bs2 sub2 bs3 sub3 bs4 sub4:List fv}{Bq ab0 hd1 ab1 Bp ab2 hd3 ab3 hd4 ab4:Bool}{sn0 sn1 sn2 sn3 sn4:List Str}{col0 col1 col2 col3 col4:Option Bool}{dd0 dd1 dd2 dd3 dd4:Option xv}{u0 v0 w0 x0 y0 u1 v1 w1 x1 y1 u2 v2 w2 x2 y2 u3 v3 w3 x3 y3 u4 v4 w4 x4 y4:Option fv}{id0 id1 id2 id3 id4:String}
  {oc:fv}{od an:Option xv}{nh:Array (Option fv)}{kV mf pm jx ct:fv}
  (n_ALL_SIDES:W.nsIn K Fl "ALL_SIDES" =some (some (.ref rALL_SIDES)))
  (c_ALL_SIDES:yM K rALL_SIDES=true)
  (n_STEPS:W.nsIn K Fl "STEPS" =some (some (.ref rb)))
  (c_STEPS:vB K rb [(0,-1),(1,0),(0,1),(-1,0)]=true)
  (n_SIDE_STARTS:W.nsIn K Fl "SIDE_STARTS" =some (some (.ref rSIDE_STARTS)))
  (c_SIDE_STARTS:vB K rSIDE_STARTS [(0,0),(1,0),(1,1),(0,1)]=true)
  (n_QUARTERS:W.nsIn K Fl "QUARTERS" =some (some (.ref mx)))
  (c_QUARTERS:vB K mx [(0,0),(1,0),(0,1),(1,1)]=true)
  (n_HALVES_ABOUT:W.nsIn K Fl "HALVES_ABOUT" =some (some (.ref rHALVES_ABOUT)))
  (c_HALVES_ABOUT:vB K rHALVES_ABOUT [(-1,-1),(0,-1),(1,-1),(-1,0),(1,0),(-1,1),(0,1),(1,1)]=true)
  (n_HALVES_AT_A_POINT:W.nsIn K Fl "HALVES_AT_A_POINT" =some (some (.ref rHALVES_AT_A_POINT)))
  (c_HALVES_AT_A_POINT:vB K rHALVES_AT_A_POINT [(-1,-1),(0,-1),(-1,0),(0,0)]=true)
  (n_LINE_FEED:W.nsIn K Fl "LINE_FEED" =some (some (.int 10 tLINE_FEED)))
  (n_BLANK:W.nsIn K Fl "BLANK" =some (some (.int 32 ui)))
  (n_COMMA:W.nsIn K Fl "COMMA" =some (some (.int 44 uh)))
  (n_DIGIT_ZERO:W.nsIn K Fl "DIGIT_ZERO" =some (some (.int 48 tDIGIT_ZERO)))
  (n_DIGIT_NINE:W.nsIn K Fl "DIGIT_NINE" =some (some (.int 57 tDIGIT_NINE)))
  (n_GREATEST_NUMBER:W.nsIn K Fl "GREATEST_NUMBER" =some (some (.int 64 tGREATEST_NUMBER)))
  (n_MOST_DIGITS:W.nsIn K Fl "MOST_DIGITS" =some (some (.int 2 tMOST_DIGITS)))
  (n_FEWEST_CORNERS:W.nsIn K Fl "FEWEST_CORNERS" =some (some (.int 4 tFEWEST_CORNERS)))
  (n_CELLS_IN_A_ROW:W.nsIn K Fl "CELLS_IN_A_ROW" =some (some (.int 64 tCELLS_IN_A_ROW)))
  (n_MOST_CELLS:W.nsIn K Fl "MOST_CELLS" =some (some (.int 256 tMOST_CELLS)))
  (z_len:W.nsIn K Fl "len" =some none)
  (z_min:W.nsIn K Fl "min" =some none)
  (z_max:W.nsIn K Fl "max" =some none)
  (z_any:W.nsIn K Fl "any" =some none)
  (z_list:W.nsIn K Fl "list" =some none)
  (z_dict:W.nsIn K Fl "dict" =some none)
  (z_sorted:W.nsIn K Fl "sorted" =some none)
  (z_range:W.nsIn K Fl "range" =some none)
  (z_enumerate:W.nsIn K Fl "enumerate" =some none)
  (n_NoHouse:W.nsIn K Fl "NoHouse" =some (some (.ref kr)))
  (e_NoHouse:W.excIn K kr bmE "Exception.__new__" =true)
  (n_Roof:W.nsIn K Fl "Roof" =some (some (.ref kj)))
  (q_pg:W.plainGet K kj Str.empty=true)
  (q_hd:W.hasDictIn K kj=true)
  (q_po:W.plainOver K kj=true)
  (q_sa:W.findIn K (.ref kj) "__setattr__" =some (some (.builtin "object.__setattr__")))
  (f_cells:W.findIn K (.ref kj) "cells" =some none)
  (f_depths:W.findIn K (.ref kj) "depths" =some none)
  (f_heights:W.findIn K (.ref kj) "heights" =some none)
  (f_facings:W.findIn K (.ref kj) "facings" =some none)
  (f_numbers:W.findIn K (.ref kj) "numbers" =some none)
  (zE:W.findIn K (.ref kj) "faces" =some none)
  (n_RIDGE:W.nsIn K Fl "RIDGE" =some (some (.int 0 ug)))
  (n_HIP:W.nsIn K Fl "HIP" =some (some (.int 1 Cc)))
  (n_VALLEY:W.nsIn K Fl "VALLEY" =some (some (.int 2 rq)))
  (n_OutOfBounds:W.nsIn K Fl "OutOfBounds" =some (some (.ref ke)))
  (n_Outside:W.nsIn K Fl "Outside" =some (some (.ref lz)))
  (n_NoFace:W.nsIn K Fl "NoFace" =some (some (.ref mv)))
  (n_NoSize:W.nsIn K Fl "NoSize" =some (some (.ref mr)))
  (l_NoHouse:K.lookup kr=some (excClassObj nm0 q0 kr N0 bs0 bmE Bq sn0 sub0 ab0 col0 dd0 u0 v0 w0 x0 y0 id0))
  (l_OutOfBounds:K.lookup ke=some (excClassObj nm1 q1 ke N1 bs1 bmE hd1 sn1 sub1 ab1 col1 dd1 u1 v1 w1 x1 y1 id1))
  (l_Outside:K.lookup lz=some (excClassObj nm2 q2 lz N2 bs2 bmE Bp sn2 sub2 ab2 col2 dd2 u2 v2 w2 x2 y2 id2))
  (l_NoFace:K.lookup mv=some (excClassObj nm3 q3 mv N3 bs3 bmE hd3 sn3 sub3 ab3 col3 dd3 u3 v3 w3 x3 y3 id3))
  (l_NoSize:K.lookup mr=some (excClassObj nm4 q4 mr N4 bs4 bmE hd4 sn4 sub4 ab4 col4 dd4 u4 v4 w4 x4 y4 id4))
  (ap:[kr,ke,lz,mv,mr].Nodup)
  (m_mk:W.makesIn K kj=true)
  (m_in:W.findIn K (.ref kj) "__init__" =some (some (.ref fI)))
  (m_fn:W.isFn K (.ref fI)=true)
  (m_kp:W.keepIn K (.ref kj)=true)
  (i_l:K.lookup fI=some ⟨oc,od,.func (W.fnOf "__init__" "Roof.__init__" (iQ s_i) (fO s_i) (aH s_i) .none kV mf pm an jx ct),nh⟩)
  (i_c:W.codeIn K jx "Roof.__init__" =true)
  (i_k:W.keepIn K (.ref fI)=true)
  : ∃d fI fdI,Facts K d fI fdI:=
 ⟨⟨kr,ke,lz,mv,mr,kj⟩,fI,_,⟨λM TR=>⟨⟨rALL_SIDES,W.mg_of M.kin M.glob n_ALL_SIDES,λH=>J0 c_ALL_SIDES H⟩,⟨rb,W.mg_of M.kin M.glob n_STEPS,vA c_STEPS⟩,⟨rSIDE_STARTS,W.mg_of M.kin M.glob n_SIDE_STARTS,vA c_SIDE_STARTS⟩,⟨mx,W.mg_of M.kin M.glob n_QUARTERS,vA c_QUARTERS⟩,⟨rHALVES_ABOUT,W.mg_of M.kin M.glob n_HALVES_ABOUT,vA c_HALVES_ABOUT⟩,⟨rHALVES_AT_A_POINT,W.mg_of M.kin M.glob n_HALVES_AT_A_POINT,vA c_HALVES_AT_A_POINT⟩,⟨tLINE_FEED,W.mg_of M.kin M.glob n_LINE_FEED⟩,⟨ui,W.mg_of M.kin M.glob n_BLANK⟩,⟨uh,W.mg_of M.kin M.glob n_COMMA⟩,⟨tDIGIT_ZERO,W.mg_of M.kin M.glob n_DIGIT_ZERO⟩,⟨tDIGIT_NINE,W.mg_of M.kin M.glob n_DIGIT_NINE⟩,⟨tGREATEST_NUMBER,W.mg_of M.kin M.glob n_GREATEST_NUMBER⟩,⟨tMOST_DIGITS,W.mg_of M.kin M.glob n_MOST_DIGITS⟩,⟨tFEWEST_CORNERS,W.mg_of M.kin M.glob n_FEWEST_CORNERS⟩,⟨tCELLS_IN_A_ROW,W.mg_of M.kin M.glob n_CELLS_IN_A_ROW⟩,⟨tMOST_CELLS,W.mg_of M.kin M.glob n_MOST_CELLS⟩,W.mg_none_of M.kin M.glob z_len,W.mg_none_of M.kin M.glob z_min,W.mg_none_of M.kin M.glob z_max,W.mg_none_of M.kin M.glob z_any,W.mg_none_of M.kin M.glob z_list,W.mg_none_of M.kin M.glob z_dict,W.mg_none_of M.kin M.glob z_sorted,W.mg_none_of M.kin M.glob z_range,W.mg_none_of M.kin M.glob z_enumerate,W.own_of_in M.kin TR n_NoHouse e_NoHouse,W.mg_of M.kin M.glob n_Roof,⟨q_pg,q_hd,q_po,q_sa⟩,f_cells,f_depths,f_heights,f_facings,f_numbers,zE,⟨ug,W.mg_of M.kin M.glob n_RIDGE⟩,⟨Cc,W.mg_of M.kin M.glob n_HIP⟩,⟨rq,W.mg_of M.kin M.glob n_VALLEY⟩⟩,⟨m_mk,m_in,m_fn,m_kp⟩,DS i_l i_c i_k,n_NoHouse,(λX=>pQ X l_NoHouse),n_OutOfBounds,(λX=>pQ X l_OutOfBounds),n_Outside,(λX=>pQ X l_Outside),n_NoFace,(λX=>pQ X l_NoFace),n_NoSize,(λX=>pQ X l_NoSize),ap⟩⟩
theorem NN{K:Fg}{f c tb:xv}{oc oc2:fv}{od od2 an:Option xv}{nh uk:Array (Option fv)}{vs:Array fv}{kV mf pm jx ct:fv}(a:W.nsIn K Fl "lines" =some (some (.ref f)))
  (l:K.lookup f=some ⟨oc,od,.func (W.fnOf "lines" "lines" (iQ s_f) (fO s_f) (aH s_f) .none kV mf pm an jx ct),nh⟩) (e:jx=.ref c) (h:W.codeIn K jx "lines" =true) (k:W.keepIn K (.ref f)=true)
  (l2:K.lookup c=some ⟨oc2,od2,.fields vs,uk⟩) (hv:vs[11]? =some (.ref tb)) (kt:K.lookup tb=none):∃f fd c tb,W.nsIn K Fl "lines" =some (some (.ref f))/\Fun K "lines" "lines" s_f f fd/\fd.code=.ref c/\W.tabIn K "lines" =some (c,tb)/\K.lookup tb=none:=
 ⟨f,_,c,tb,a,DS l h k,e,OL a l e l2 hv,kt⟩
end RT
open PySem
set_option maxHeartbeats 0 in
theorem PySem.Challenge.cw_rooftold_s03_lines_holds : PySem.Challenge.rw_rooftold_s03_lines.Holds := by
 refine W.holds_os (q:=HP.vw) (loose:=[]) (Xt:=HP.xt) (XP:=W.XL HP.vw []) (Yf:=W.Hook.obs (W.kHook HP.hpK HP.as HP.hkE)) (Ya:=W.Hook.val (W.kHook HP.hpK HP.as HP.hkE)) (YP:=W.Hook.says (W.kHook HP.hpK HP.as HP.hkE)) (N:=6522) HP.left (W.Hook.of _) (W.Hook.keeps _) (λs e=>W.xl_of s (Bool.and_eq_true_iff.mp e).1) W.XL.keeps Hi Hi Hi (λs e=>W.recFacts_of (Bool.and_eq_true_iff.mp e).2) W.os_shapes (by decide+kernel) (by decide+kernel) ⟨rfl,rfl,rfl,rfl,rfl,by decide+kernel⟩ ⟨[.list []],by decide+kernel,by decide+kernel⟩ ?_;k_fillS;intro w s0 s1 mg mb G Y fa o pm cd mf dV kV ho hd ot hD hmg hg args nj as Ai hlay Af Cy hlo;have KX:=W.kIn_of Y;have FX:∃d fI fdI,RT.Facts (L2.KOf KX) d fI fdI:=by
  dsimp only[L2.KOf];refine' RT.L0 ?n_ALL_SIDES ?c_ALL_SIDES ?n_STEPS ?c_STEPS ?n_SIDE_STARTS ?c_SIDE_STARTS ?n_QUARTERS ?c_QUARTERS ?n_HALVES_ABOUT ?c_HALVES_ABOUT ?n_HALVES_AT_A_POINT ?c_HALVES_AT_A_POINT ?n_LINE_FEED ?n_BLANK ?n_COMMA ?n_DIGIT_ZERO ?n_DIGIT_NINE ?n_GREATEST_NUMBER ?n_MOST_DIGITS ?n_FEWEST_CORNERS ?n_CELLS_IN_A_ROW ?n_MOST_CELLS ?z_len ?z_min ?z_max ?z_any ?z_list ?z_dict ?z_sorted ?z_range ?z_enumerate ?n_NoHouse ?e_NoHouse ?n_Roof ?q_pg ?q_hd ?q_po ?q_sa ?f_cells ?f_depths ?f_heights ?f_facings ?f_numbers ?zE ?n_RIDGE ?n_HIP ?n_VALLEY ?n_OutOfBounds ?n_Outside ?n_NoFace ?n_NoSize ?l_NoHouse ?l_OutOfBounds ?l_Outside ?l_NoFace ?l_NoSize ?ap ?m_mk ?m_in ?m_fn ?m_kp ?i_l ?i_c ?i_k;case n_ALL_SIDES|n_STEPS|n_SIDE_STARTS|n_QUARTERS|n_HALVES_ABOUT|n_HALVES_AT_A_POINT|n_LINE_FEED|n_BLANK|n_COMMA|n_DIGIT_ZERO|n_DIGIT_NINE|n_GREATEST_NUMBER|n_MOST_DIGITS|n_FEWEST_CORNERS|n_CELLS_IN_A_ROW|n_MOST_CELLS|z_len|z_min|z_max|z_any|z_list|z_dict|z_sorted|z_range|z_enumerate|n_NoHouse|n_Roof|q_pg|q_hd|q_po|q_sa|f_cells|f_depths|f_heights|f_facings|f_numbers|zE|n_RIDGE|n_HIP|n_VALLEY|n_OutOfBounds|n_Outside|n_NoFace|n_NoSize|l_NoHouse|l_OutOfBounds|l_Outside|l_NoFace|l_NoSize|m_mk|m_in|m_fn|m_kp|i_l|i_c|i_k=>k_is
  case c_ALL_SIDES|c_STEPS|c_SIDE_STARTS|c_QUARTERS|c_HALVES_ABOUT|c_HALVES_AT_A_POINT=>kernel_rfl
  case e_NoHouse=>k_exc
  case ap=>decide
 have FF:∃f fd c tb,W.nsIn (L2.KOf KX) Fl "lines" =some (some (.ref f))/\L2.Fun (L2.KOf KX) "lines" "lines" RT.s_f f fd/\fd.code=.ref c/\W.tabIn (L2.KOf KX) "lines" =some (c,tb)/\(L2.KOf KX).lookup tb=none:=by
  dsimp only[L2.KOf];refine' RT.NN ?a ?l ?e ?h ?k ?l2 ?hv ?kt
  (case a=>k_is)
  (case l=>k_is)
  (case e=>rfl)
  (case h=>k_is)
  (case k=>k_is)
  (case l2=>k_is)
  (case hv=>rfl)
  (case kt=>kernel_rfl)
 have D_c:L3.aG (L2.KOf KX) "counted" RT.s_c:=RT.dI;have D_lo:L3.aG (L2.KOf KX) "left_of" RT.s_lo:=RT.dI;have D_tol:L3.aG (L2.KOf KX) "triangle_on_left" RT.s_tol:=RT.dI;have D_br:L3.aG (L2.KOf KX) "by_row" RT.s_br:=RT.dI;have D_o:L3.aG (L2.KOf KX) "opposite" RT.s_o:=RT.dI;have D_mo:L3.aG (L2.KOf KX) "middle_of" RT.s_mo:=RT.dI;have D_kb:L3.aG (L2.KOf KX) "kind_between" RT.s_kb:=RT.dI;have D_pb3:L3.aG (L2.KOf KX) "piece_between" RT.s_pb3:=RT.dI;have D_d:L3.aG (L2.KOf KX) "doubled" RT.s_d:=RT.dI;have D_m:L3.aG (L2.KOf KX) "moved" RT.s_m:=RT.dI;have D_ss:L3.aG (L2.KOf KX) "side_start" RT.s_ss:=RT.dI;have D_se:L3.aG (L2.KOf KX) "side_end" RT.s_se:=RT.dI;have D_ew:L3.aG (L2.KOf KX) "ends_within" RT.s_ew:=RT.dI;have D_b:L3.aG (L2.KOf KX) "beyond" RT.s_b:=RT.dI;have D_ta:L3.aG (L2.KOf KX) "triangle_across" RT.s_ta:=RT.dI;have D_ea:L3.aG (L2.KOf KX) "ends_across" RT.s_ea:=RT.dI;have D_po:L3.aG (L2.KOf KX) "pieces_of" RT.s_po:=RT.dI;have D_pb2:L3.aG (L2.KOf KX) "piece_behind" RT.s_pb2:=RT.dI;have D_lf:L3.aG (L2.KOf KX) "line_from" RT.s_lf:=RT.dI;have D_lo2:L3.aG (L2.KOf KX) "line_order" RT.s_lo2:=RT.dI;have D_lr:L3.aG (L2.KOf KX) "line_rows" RT.s_lr:=RT.dI;have D_hco:L3.aG (L2.KOf KX) "half_cells_of" RT.s_hco:=RT.dI;have D_id:L3.aG (L2.KOf KX) "is_deeper" RT.s_id:=RT.dI;have D_do:L3.aG (L2.KOf KX) "depths_of" RT.s_do:=RT.dI;have D_ho:L3.aG (L2.KOf KX) "height_over" RT.s_ho:=RT.dI;have D_ho2:L3.aG (L2.KOf KX) "heights_of" RT.s_ho2:=RT.dI
 have D_ro:L3.aG (L2.KOf KX) "right_of" RT.s_ro:=RT.dI;have D_fo2:L3.aG (L2.KOf KX) "facing_of" RT.s_fo2:=RT.dI;have D_fo3:L3.aG (L2.KOf KX) "facings_of" RT.s_fo3:=RT.dI;have D_tor:L3.aG (L2.KOf KX) "triangle_on_right" RT.s_tor:=RT.dI;have D_nf:L3.aG (L2.KOf KX) "number_face" RT.s_nf:=RT.dI;have D_no:L3.aG (L2.KOf KX) "numbers_of" RT.s_no:=RT.dI;have D_fo:L3.aG (L2.KOf KX) "faces_of" RT.s_fo:=RT.dI;have D_pb:L3.aG (L2.KOf KX) "parts_between" RT.s_pb:=RT.dI;have D_dt:L3.aG (L2.KOf KX) "digit_told" RT.s_dt:=RT.dI;have D_nt:L3.aG (L2.KOf KX) "number_told" RT.s_nt:=RT.dI;have D_ct:L3.aG (L2.KOf KX) "corner_told" RT.s_ct:=RT.dI;have D_wt:L3.aG (L2.KOf KX) "walk_told" RT.s_wt:=RT.dI;have D_wt2:L3.aG (L2.KOf KX) "walks_told" RT.s_wt2:=RT.dI;have D_far:L3.aG (L2.KOf KX) "feet_across_rows" RT.s_far:=RT.dI;have D_cw:L3.aG (L2.KOf KX) "cells_within" RT.s_cw:=RT.dI;have D_haw:L3.aG (L2.KOf KX) "headings_along_walls" RT.s_haw:=RT.dI;have D_wf:L3.aG (L2.KOf KX) "walk_from" RT.s_wf:=RT.dI;have D_wr:L3.aG (L2.KOf KX) "walks_round" RT.s_wr:=RT.dI;have D_miap:L3.aG (L2.KOf KX) "meets_in_a_point" RT.s_miap:=RT.dI;have D_ij:L3.aG (L2.KOf KX) "is_joined" RT.s_ij:=RT.dI;have D_ih:L3.aG (L2.KOf KX) "is_house" RT.s_ih:=RT.dI;have D_ht:L3.aG (L2.KOf KX) "house_told" RT.s_ht:=RT.dI;have D_rt:L3.aG (L2.KOf KX) "roof_told" RT.s_rt:=RT.dI;have D_answer_or_refusal:L3.aG (L2.KOf KX) "answer_or_refusal" RT.wI:=RT.dI;obtain⟨d,fI,fdI,FX⟩:=FX;obtain⟨f,fd,c,tb,n_f,F_f,Ee,oj,Em⟩:=FF
 obtain⟨fA,fdA,n_ans,F_ans⟩:=D_answer_or_refusal.ex;exact RT.FW KX G.T hg hmg Ai Cy FX.txt FX.mkR FX.init D_c D_lo D_tol D_br D_o D_mo D_kb D_pb3 D_d D_m D_ss D_se D_ew D_b D_ta D_ea D_po D_pb2 D_lf D_lo2 D_lr D_hco D_id D_do D_ho D_ho2 D_ro D_fo2 D_fo3 D_tor D_nf D_no D_fo D_pb D_dt D_nt D_ct D_wt D_wt2 D_far D_cw D_haw D_wf D_wr D_miap D_ij D_ih D_ht D_rt n_f F_f Ee oj rfl Em n_ans F_ans FX.jO FX.j5 FX.eB FX.dZ FX.jN FX.j4 FX.m8 FX.kW FX.m7 FX.kU FX.ap
