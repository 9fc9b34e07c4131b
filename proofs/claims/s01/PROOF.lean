import PyProof.Rows.All
import Open.SpecLaws
import KE.OsHead
import KE.OsGo
import KE.IntBitsLaws
import Wide.All
import OpenK.AllK
import Wide.FinOn
import PyProof.EqAt
import PyProof.EqKinds
import PyProof.TupleCall
import KE.BitLaws
import PyProof.Rows.SeqCalls
import PyProof.Rows.SortG.SortRunsSt
import PyProof.Rows.SortMergeAt
import KE.KSortAsk
import PyProof.NeKinds
import PyProof.Rows.SortShellAny
import PyProof.Rows.SortRunsSt
import KE.KSortKey
import PyProof.Rows.FactsT3
import KE.KEqDeep
import PySem.Challenge.RW_wholelattices_s01_answers
set_option Elab.async false
set_option linter.all false
set_option maxRecDepth 100000
section
namespace Pw
open PySem PySem.W PyProof.Rows
def sk(i:Nat):Stmt:=PySem.Challenge.pw_wholelattices_s01_answers.main.body.getD i (.Pass ⟨0,0,0,0⟩)
def sj(i:Nat):Stmt:=match sk i with
 | .ClassDef _ _ _ b _ _ _ _ _ _ _=>b.getD 0 (.Pass ⟨0,0,0,0⟩)
 | s=>s
def ka(s:Stmt):Arguments:=match s with
 | .FunctionDef _ a _ _ _ _ _ _ _ _=>a
 | _=>{posonlyargs:=[],args:=[],vararg:=none,kwonlyargs:=[],kw_defaults:=[],kwarg:=none,defaults:=[]}
def kb(s:Stmt):List Stmt:=match s with
 | .FunctionDef _ _ b _ _ _ _ _ _ _=>b
 | _=>[]
def ks(s:Stmt):Scope:=match s with
 | .FunctionDef _ _ _ _ _ _ c _ _ _=>c
 | _=>{kind:=.function,names:=[],isGenerator:=false,isCoroutine:=false}
def kr(P:Params)(k:Str)(t r:Nat):DictEntry:=⟨PyData.keyHash P k,.str k t,.ref r⟩
def kd(P:Params)(k:Str)(t:Nat)(v:Value):DictEntry:=⟨PyData.keyHash P k,.str k t,v⟩
def ki(i:Int)(t r:Nat):DictEntry:=⟨i,.int i t,.ref r⟩
def kt(l:List Value):Obj:=⟨.type "tuple",none,.seq l.toArray 0,#[]⟩
def kc(n q:Str)(t:Nat)(l p f:Int)(a b:Nat)(x y:Value)(r m:Nat):Obj:=⟨.type "code",none,.fields #[.str n t,.str q (t+1),.str "/claim/cut.py" (t+2),.int l 0,.int p 0,.int 0 0,.int 0 0,.int f 0,.ref a,.bool true,.int 181 0,.ref b,.none,x,y,.ref r,.int m 0,.int l 0,.str "/claim/cut.py" (m+1)],#[]⟩
def kf(n q:Str)(s:Stmt)(d m:Value)(c:Nat):Obj:=⟨.type "function",none,.func (fnOf n q (ka s) (kb s) (ks s) d .none .none m none (.ref c) .none),#[]⟩
def km0:Value:=.str "wholelattices.forms" 187
def km1:Value:=.str "wholelattices.lattice" 436
noncomputable def Kf:PySem.Params->PySem.W.Frag:=fun P=>
 (nat_lit 3,⟨.type "dict",none,.dict #[kd P "__name__" 165 (.str "wholelattices.lattice" 436),kd P "__doc__" 166 .none,kd P "__package__" 167 .none,kd P "__loader__" 168 (.builtin "__main__.__loader__#opaque"),kd P "__spec__" 169 .none,kr P "__annotations__" 170 6,kr P "__builtins__" 171 4,kd P "__file__" 173 (.str "/claim/cut.py" 172),kd P "__cached__" 174 .none,kr P "less" 194 19,kr P "cleared" 206 26,kr P "gathered" 219 33,kr P "upright" 225 38,kr P "form_of" 231 43,kr P "pivot_place" 239 50,kr P "divided" 252 57,kr P "all_in" 261 64,kr P "product" 267 69,kr P "without" 273 74,kr P "determinant" 283 81,kr P "products" 289 86,kr P "size_between" 295 91,kr P "size_of" 302 98,kr P "pivot_product" 311 105,kr P "index_of" 319 112,kr P "unit" 325 117,kr P "behind" 331 122,kr P "met_of" 337 127,kr P "across_of" 343 132,kr P "filled_of" 351 139,kr P "length" 358 146,kr P "rounded" 370 153,kr P "reduced" 382 160,kr P "reached" 395 168,kr P "reached_by_steps" 410 175,kr P "least_of" 416 180,kr P "by_length" 423 187,kr P "short_of" 429 192,kr P "nearest_of" 435 197,kd P "MOST_PLACES" 439 (.int 3 438),kd P "MOST_VECTORS" 441 (.int 12 440),kd P "MOST_SHORT" 443 (.int 4096 442),kd P "NO_LATTICE" 446 (.int (-9) 445),kd P "BAD_HANDED" 449 (.int (-1) 448),kd P "NOT_IN_IT" 452 (.int (-2) 451),kd P "NONE_BUT_ZERO" 455 (.int (-2) 454),kd P "TOO_MANY" 458 (.int (-6) 457),kr P "CALLS" 513 198,kr P "Call" 549 230,kr P "Standing" 578 251,kr P "fits" 586 262,kr P "form_of_row" 592 267,kr P "stand" 601 274,kr P "flat" 610 281,kr P "row_answer" 617 288,kr P "answer_new" 626 295,kr P "answer_has" 635 302,kr P "answer_index" 643 309,kr P "answer_least" 650 316,kr P "answer_short" 659 323,kr P "answer_near" 669 330,kr P "answer_plain" 677 337,kr P "answer_vector" 686 344,kr P "answer_lattice" 695 351,kr P "answer_to" 703 358,kr P "answers" 715 365] 66,#[]⟩)::
 (nat_lit 18,kc "less" "less" 189 2 3 3 15 16 .none .none 17 192)::
 (nat_lit 19,kf "less" "less" (sk 1) .none km0 18)::
 (nat_lit 25,kc "cleared" "cleared" 195 4 3 3 20 21 (.ref 22) (.ref 23) 24 204)::
 (nat_lit 26,kf "cleared" "cleared" (sk 2) .none km0 25)::
 (nat_lit 32,kc "gathered" "gathered" 207 12 3 3 27 28 (.ref 29) (.ref 30) 31 217)::
 (nat_lit 33,kf "gathered" "gathered" (sk 3) .none km0 32)::
 (nat_lit 37,kc "upright" "upright" 220 20 2 3 34 35 .none .none 36 223)::
 (nat_lit 38,kf "upright" "upright" (sk 4) .none km0 37)::
 (nat_lit 42,kc "form_of" "form_of" 226 24 2 3 39 40 .none .none 41 229)::
 (nat_lit 43,kf "form_of" "form_of" (sk 5) .none km0 42)::
 (nat_lit 49,kc "pivot_place" "pivot_place" 232 35 1 3 44 45 (.ref 46) (.ref 47) 48 237)::
 (nat_lit 50,kf "pivot_place" "pivot_place" (sk 6) .none km0 49)::
 (nat_lit 56,kc "divided" "divided" 240 40 2 3 51 52 (.ref 53) (.ref 54) 55 250)::
 (nat_lit 57,kf "divided" "divided" (sk 7) .none km0 56)::
 (nat_lit 63,kc "all_in" "all_in" 253 49 2 3 58 59 (.ref 60) (.ref 61) 62 259)::
 (nat_lit 64,kf "all_in" "all_in" (sk 8) .none km0 63)::
 (nat_lit 68,kc "product" "product" 262 54 2 3 65 66 .none .none 67 265)::
 (nat_lit 69,kf "product" "product" (sk 9) .none km0 68)::
 (nat_lit 73,kc "without" "without" 268 56 2 3 70 71 .none .none 72 271)::
 (nat_lit 74,kf "without" "without" (sk 10) .none km0 73)::
 (nat_lit 80,kc "determinant" "determinant" 274 58 1 3 75 76 (.ref 77) (.ref 78) 79 281)::
 (nat_lit 81,kf "determinant" "determinant" (sk 11) .none km0 80)::
 (nat_lit 85,kc "products" "products" 284 67 2 3 82 83 .none .none 84 287)::
 (nat_lit 86,kf "products" "products" (sk 12) .none km0 85)::
 (nat_lit 90,kc "size_between" "size_between" 290 69 2 3 87 88 .none .none 89 293)::
 (nat_lit 91,kf "size_between" "size_between" (sk 13) .none km0 90)::
 (nat_lit 97,kc "size_of" "size_of" 296 71 1 3 92 93 (.ref 94) (.ref 95) 96 300)::
 (nat_lit 98,kf "size_of" "size_of" (sk 14) .none km0 97)::
 (nat_lit 104,kc "pivot_product" "pivot_product" 303 73 1 3 99 100 (.ref 101) (.ref 102) 103 309)::
 (nat_lit 105,kf "pivot_product" "pivot_product" (sk 15) .none km0 104)::
 (nat_lit 111,kc "index_of" "index_of" 312 78 2 3 106 107 (.ref 108) (.ref 109) 110 317)::
 (nat_lit 112,kf "index_of" "index_of" (sk 16) .none km0 111)::
 (nat_lit 116,kc "unit" "unit" 320 80 2 3 113 114 .none .none 115 323)::
 (nat_lit 117,kf "unit" "unit" (sk 17) .none km0 116)::
 (nat_lit 121,kc "behind" "behind" 326 82 3 3 118 119 .none .none 120 329)::
 (nat_lit 122,kf "behind" "behind" (sk 18) .none km0 121)::
 (nat_lit 126,kc "met_of" "met_of" 332 84 3 3 123 124 .none .none 125 335)::
 (nat_lit 127,kf "met_of" "met_of" (sk 19) .none km0 126)::
 (nat_lit 131,kc "across_of" "across_of" 338 87 2 3 128 129 .none .none 130 341)::
 (nat_lit 132,kf "across_of" "across_of" (sk 20) .none km0 131)::
 (nat_lit 138,kc "filled_of" "filled_of" 344 90 2 3 133 134 (.ref 135) (.ref 136) 137 349)::
 (nat_lit 139,kf "filled_of" "filled_of" (sk 21) .none km0 138)::
 (nat_lit 145,kc "length" "length" 352 92 1 3 140 141 (.ref 142) (.ref 143) 144 356)::
 (nat_lit 146,kf "length" "length" (sk 22) .none km0 145)::
 (nat_lit 152,kc "rounded" "rounded" 359 94 2 3 147 148 (.ref 149) (.ref 150) 151 368)::
 (nat_lit 153,kf "rounded" "rounded" (sk 23) .none km0 152)::
 (nat_lit 159,kc "reduced" "reduced" 371 101 1 3 154 155 (.ref 156) (.ref 157) 158 380)::
 (nat_lit 160,kf "reduced" "reduced" (sk 24) .none km0 159)::
 (nat_lit 161,kt [.none])::
 (nat_lit 167,kc "reached" "reached" 383 115 4 3 162 163 (.ref 164) (.ref 165) 166 393)::
 (nat_lit 168,kf "reached" "reached" (sk 25) (.ref 161) km0 167)::
 (nat_lit 174,kc "reached_by_steps" "reached_by_steps" 396 122 5 3 169 170 (.ref 171) (.ref 172) 173 408)::
 (nat_lit 175,kf "reached_by_steps" "reached_by_steps" (sk 26) .none km0 174)::
 (nat_lit 179,kc "least_of" "least_of" 411 131 1 3 176 177 .none .none 178 414)::
 (nat_lit 180,kf "least_of" "least_of" (sk 27) .none km0 179)::
 (nat_lit 186,kc "by_length" "by_length" 417 135 1 3 181 182 (.ref 183) (.ref 184) 185 421)::
 (nat_lit 187,kf "by_length" "by_length" (sk 28) .none km0 186)::
 (nat_lit 191,kc "short_of" "short_of" 424 137 4 3 188 189 .none .none 190 427)::
 (nat_lit 192,kf "short_of" "short_of" (sk 29) .none km0 191)::
 (nat_lit 196,kc "nearest_of" "nearest_of" 430 143 2 3 193 194 .none .none 195 433)::
 (nat_lit 197,kf "nearest_of" "nearest_of" (sk 30) .none km0 196)::
 (nat_lit 198,⟨.type "dict",none,.dict #[ki 1 459 199,ki 2 462 200,ki 3 465 201,ki 4 467 202,ki 5 470 203,ki 6 473 204,ki 7 475 205,ki 8 478 206,ki 9 481 207,ki 10 484 208,ki 11 487 209,ki 12 489 210,ki 13 491 211,ki 14 493 212,ki 15 495 213] 15,#[]⟩)::
 (nat_lit 199,kt [.str "new" 460,.bool true,.str "lattice" 461])::
 (nat_lit 200,kt [.str "add" 463,.bool false,.str "vector" 464])::
 (nat_lit 201,kt [.str "form" 466,.bool false,.none])::
 (nat_lit 202,kt [.str "has" 468,.bool false,.str "vector" 469])::
 (nat_lit 203,kt [.str "left" 471,.bool false,.str "vector" 472])::
 (nat_lit 204,kt [.str "size" 474,.bool false,.none])::
 (nat_lit 205,kt [.str "same" 476,.bool false,.str "lattice" 477])::
 (nat_lit 206,kt [.str "index" 479,.bool false,.str "lattice" 480])::
 (nat_lit 207,kt [.str "join" 482,.bool false,.str "lattice" 483])::
 (nat_lit 208,kt [.str "meet" 485,.bool false,.str "lattice" 486])::
 (nat_lit 209,kt [.str "across" 488,.bool false,.none])::
 (nat_lit 210,kt [.str "fill" 490,.bool false,.none])::
 (nat_lit 211,kt [.str "least" 492,.bool false,.none])::
 (nat_lit 212,kt [.str "short" 494,.bool true,.none])::
 (nat_lit 213,kt [.str "near" 496,.bool false,.str "vector" 497])::
 (nat_lit 226,kc "__init__" "Call.__init__" 526 160 3 3 221 222 (.ref 223) (.ref 224) 225 534)::
 (nat_lit 227,kf "__init__" "Call.__init__" (sj 41) .none km1 226)::
 (nat_lit 229,⟨.type "dict",none,.dict #[kd P "__module__" 521 (.str "wholelattices.lattice" 436),kd P "__firstlineno__" 525 (.int 158 524),kr P "__init__" 536 227,kr P "__static_attributes__" 542 228,kr P "__dict__" 544 231,kr P "__weakref__" 546 232,kd P "__doc__" 547 .none] 4,#[]⟩)::
 (nat_lit 230,⟨.type "type",none,.cls {name:="Call",bases:=[.type "object"],mro:=[.ref 230,.type "object"],ns:=229,qualname:="Call"},#[none,none,some (.str "Call" 514),some (.str "Call" 522),some (.builtin "object.__new__"),some (.bool true)]⟩)::
 (nat_lit 247,kc "__init__" "Standing.__init__" 562 176 1 3 242 243 (.ref 244) (.ref 245) 246 566)::
 (nat_lit 248,kf "__init__" "Standing.__init__" (sj 42) .none km1 247)::
 (nat_lit 250,⟨.type "dict",none,.dict #[kd P "__module__" 557 (.str "wholelattices.lattice" 436),kd P "__firstlineno__" 561 (.int 174 560),kr P "__init__" 568 248,kr P "__static_attributes__" 571 249,kr P "__dict__" 573 252,kr P "__weakref__" 575 253,kd P "__doc__" 576 .none] 4,#[]⟩)::
 (nat_lit 251,⟨.type "type",none,.cls {name:="Standing",bases:=[.type "object"],mro:=[.ref 251,.type "object"],ns:=250,qualname:="Standing"},#[none,none,some (.str "Standing" 550),some (.str "Standing" 558),some (.builtin "object.__new__"),some (.bool true)]⟩)::
 (nat_lit 261,kc "fits" "fits" 579 179 2 3 256 257 (.ref 258) (.ref 259) 260 584)::
 (nat_lit 262,kf "fits" "fits" (sk 43) .none km1 261)::
 (nat_lit 266,kc "form_of_row" "form_of_row" 587 183 2 3 263 264 .none .none 265 590)::
 (nat_lit 267,kf "form_of_row" "form_of_row" (sk 44) .none km1 266)::
 (nat_lit 273,kc "stand" "stand" 593 185 3 3 268 269 (.ref 270) (.ref 271) 272 599)::
 (nat_lit 274,kf "stand" "stand" (sk 45) .none km1 273)::
 (nat_lit 280,kc "flat" "flat" 602 189 1 3 275 276 (.ref 277) (.ref 278) 279 608)::
 (nat_lit 281,kf "flat" "flat" (sk 46) .none km1 280)::
 (nat_lit 287,kc "row_answer" "row_answer" 611 194 1 3 282 283 (.ref 284) (.ref 285) 286 615)::
 (nat_lit 288,kf "row_answer" "row_answer" (sk 47) .none km1 287)::
 (nat_lit 294,kc "answer_new" "answer_new" 618 196 2 3 289 290 (.ref 291) (.ref 292) 293 624)::
 (nat_lit 295,kf "answer_new" "answer_new" (sk 48) .none km1 294)::
 (nat_lit 301,kc "answer_has" "answer_has" 627 201 2 3 296 297 (.ref 298) (.ref 299) 300 633)::
 (nat_lit 302,kf "answer_has" "answer_has" (sk 49) .none km1 301)::
 (nat_lit 308,kc "answer_index" "answer_index" 636 206 2 3 303 304 (.ref 305) (.ref 306) 307 641)::
 (nat_lit 309,kf "answer_index" "answer_index" (sk 50) .none km1 308)::
 (nat_lit 315,kc "answer_least" "answer_least" 644 212 1 3 310 311 (.ref 312) (.ref 313) 314 648)::
 (nat_lit 316,kf "answer_least" "answer_least" (sk 51) .none km1 315)::
 (nat_lit 322,kc "answer_short" "answer_short" 651 216 2 3 317 318 (.ref 319) (.ref 320) 321 657)::
 (nat_lit 323,kf "answer_short" "answer_short" (sk 52) .none km1 322)::
 (nat_lit 329,kc "answer_near" "answer_near" 660 221 2 3 324 325 (.ref 326) (.ref 327) 328 667)::
 (nat_lit 330,kf "answer_near" "answer_near" (sk 53) .none km1 329)::
 (nat_lit 336,kc "answer_plain" "answer_plain" 670 225 2 3 331 332 (.ref 333) (.ref 334) 335 675)::
 (nat_lit 337,kf "answer_plain" "answer_plain" (sk 54) .none km1 336)::
 (nat_lit 343,kc "answer_vector" "answer_vector" 678 235 3 3 338 339 (.ref 340) (.ref 341) 342 684)::
 (nat_lit 344,kf "answer_vector" "answer_vector" (sk 55) .none km1 343)::
 (nat_lit 350,kc "answer_lattice" "answer_lattice" 687 243 3 3 345 346 (.ref 347) (.ref 348) 349 693)::
 (nat_lit 351,kf "answer_lattice" "answer_lattice" (sk 56) .none km1 350)::
 (nat_lit 357,kc "answer_to" "answer_to" 696 251 2 3 352 353 (.ref 354) (.ref 355) 356 701)::
 (nat_lit 358,kf "answer_to" "answer_to" (sk 57) .none km1 357)::
 (nat_lit 364,kc "answers" "answers" 704 265 1 3 359 360 (.ref 361) (.ref 362) 363 713)::
 (nat_lit 365,kf "answers" "answers" (sk 58) .none km1 364)::
 []
def Ka:List Addr:=[3,18,19,25,26,32,33,37,38,42,43,49,50,56,57,63,64,68,69,73,74,80,81,85,86,90,91,97,98,104,105,111,112,116,117,121,122,126,127,131,132,138,139,145,146,152,153,159,160,161,167,168,174,175,179,180,186,187,191,192,196,197,198,199,200,201,202,203,204,205,206,207,208,209,210,211,212,213,226,227,229,230,247,248,250,251,261,262,266,267,273,274,280,281,287,288,294,295,301,302,308,309,315,316,322,323,329,330,336,337,343,344,350,351,357,358,364,365]
theorem fi:∀P,Ka=(Kf P).map (·.1):=fun _=>by kernel_rfl
def view:Program:={PySem.Challenge.pw_wholelattices_s01_answers with main:={PySem.Challenge.pw_wholelattices_s01_answers.main with body:=((PySem.Challenge.pw_wholelattices_s01_answers.main.body.eraseIdx 31).eraseIdx 25).eraseIdx 0}}
end Pw
end
section
namespace Pw
open PySem PySem.W PyProof.Rows
def EE(w:World)(b:Bool):Option Shared:=openEnds treeTable PySem.Challenge.pw_wholelattices_s01_answers (w.withFollow "special-get-raises" b) 4480
def XT:Shared->Bool:=fun s=>xlAt view [] s && recOk [] s
def sn(s:Shared):=openSeen view ["reached","CALLS"] (importedModules PySem.Challenge.pw_wholelattices_s01_answers.main.body) XT true s
def gd:=openGood view ["reached","CALLS"]
theorem hf1:∀w:World,(EE w false).map (fun s=>((sn s).1,(kHook Kf Ka fi).obs s))=some ((gd.1,(kHook Kf Ka fi).val (w.withFollow "special-get-raises" false))):=fun w=>by kernel_rfl
theorem hf2:∀w:World,(EE w false).map (fun s=>(sn s).2.2.1)=some (gd.2.2.1):=fun w=>by kernel_rfl
theorem hf3:∀w:World,(EE w false).map (fun s=>((sn s).2.1,(sn s).2.2.2))=some ((gd.2.1,gd.2.2.2)):=fun w=>by kernel_rfl
theorem ht1:∀w:World,(EE w true).map (fun s=>((sn s).1,(kHook Kf Ka fi).obs s))=some ((gd.1,(kHook Kf Ka fi).val (w.withFollow "special-get-raises" true))):=fun w=>by kernel_rfl
theorem ht2:∀w:World,(EE w true).map (fun s=>(sn s).2.2.1)=some (gd.2.2.1):=fun w=>by kernel_rfl
theorem ht3:∀w:World,(EE w true).map (fun s=>((sn s).2.1,(sn s).2.2.2))=some ((gd.2.1,gd.2.2.2)):=fun w=>by kernel_rfl
theorem fourO{α A B C D E:Type _}{o:Option α}{a:α->A}{b:α->B}{c:α->C}{d:α->D}{e:α->E}{a':A}{b':B}{c':C}{d':D}{e':E}(x:o.map (fun s=>(a s,e s))=some (a',e'))(y:o.map c=some c')(z:o.map (fun s=>(b s,d s))=some (b',d')):o.map (fun s=>((a s,b s,c s,d s),e s))=some ((a',b',c',d'),e'):=by
 cases o with
 | none=>cases x
 | some u=>cases x; cases y; cases z; rfl
theorem lft0:LeftO PySem.Challenge.pw_wholelattices_s01_answers view ["reached","CALLS"] XT (kHook Kf Ka fi).obs (kHook Kf Ka fi).val 4480:=
 byRow2 "special-get-raises" (fun w=>fourO (hf1 w) (hf2 w) (hf3 w)) (fun w=>fourO (ht1 w) (ht2 w) (ht3 w))
end Pw
end
section
open Tg
namespace Wl
theorem hZ(j:Nat):num [] j=0:=by simp [num]
theorem ba{v:Vec}{j:Nat}(h:v.length<=j):num v j=0:=by
 simp [num,List.getD_eq_getElem?_getD,List.getElem?_eq_none h]
theorem cW(x:Int)(v:Vec):num (x::v) 0=x:=rfl
theorem bb(x:Int)(v:Vec)(j:Nat):num (x::v) (j+1)=num v j:=rfl
theorem dM(a b:Vec)(h:a.length=b.length):(plus a b).length=a.length:=by
 simp [plus,h]
theorem aY(a b:Vec)(h:a.length=b.length):(minus a b).length=a.length:=by
 simp [minus,h]
theorem aI(k:Int)(a:Vec):(times k a).length=a.length:=by simp [times]
theorem aH(n:Nat):(zero n).length=n:=by simp [zero]
theorem eO:∀(a b:Vec)(_:a.length=b.length)(j:Nat),num (plus a b) j=num a j+num b j
 | [],[],_,j=>by simp [plus,num]
 | x::a,y::b,h,0=>by simp [plus,num]
 | x::a,y::b,h,j+1=>by
   have:=eO a b (by simpa using h) j
   simpa [plus,num] using this
theorem aw:∀(a b:Vec)(_:a.length=b.length)(j:Nat),num (minus a b) j=num a j - num b j
 | [],[],_,j=>by simp [minus,num]
 | x::a,y::b,h,0=>by simp [minus,num]
 | x::a,y::b,h,j+1=>by
   have:=aw a b (by simpa using h) j
   simpa [minus,num] using this
theorem aM:∀(k:Int)(a:Vec)(j:Nat),num (times k a) j=k*num a j
 | k,[],j=>by simp [times,num]
 | k,x::a,0=>by simp [times,num]
 | k,x::a,j+1=>by
   have:=aM k a j
   simpa [times,num] using this
theorem a6(n j:Nat):num (zero n) j=0:=by
 simp only [num,zero,List.getD_eq_getElem?_getD,List.getElem?_replicate]
 split <;> simp
theorem bn:∀{a b:Vec},a.length=b.length->(∀j,num a j=num b j)->a=b
 | [],[],_,_=>rfl
 | x::a,y::b,h,e=>by
   have h0:=e 0
   have:=bn (a:=a) (b:=b) (by simpa using h) (fun j=>e (j+1))
   simp [num] at h0
   rw [h0,this]
theorem num_append_left{a b:Vec}{j:Nat}(h:j<a.length):num (a++b) j=num a j:=by
 simp [num,List.getD_eq_getElem?_getD,List.getElem?_append_left h]
theorem num_append_right{a b:Vec}(j:Nat):num (a++b) (a.length+j)=num b j:=by
 simp only [num,List.getD_eq_getElem?_getD]
 rw [List.getElem?_append_right (by omega)]
 congr 2
 omega
theorem c9(v:Vec):isZero v=true↔∀j,num v j=0:=by
 induction v with
 | nil=>simp [isZero,num]
 | cons x a ih=>
   simp only [isZero,List.all_cons,Bool.and_eq_true,beq_iff_eq] at ih ⊢
   rw [ih]
   constructor
   ·rintro⟨h,e⟩ j
    cases j with
    | zero=>simpa [num] using h
    | succ j=>exact e j
   ·intro e
    exact⟨by simpa [num] using e 0,fun j=>e (j+1)⟩
theorem isZero_zero(n:Nat):isZero (zero n)=true:=by
 rw [c9]; exact a6 n
theorem eq_zero_of_isZero{n:Nat}{v:Vec}(hl:v.length=n)(h:isZero v=true):v=zero n:=by
 apply bn
 ·rw [hl,aH]
 ·intro j; rw [(c9 v).1 h,a6]
theorem lead_nil:lead []=0:=rfl
theorem lead_cons(x:Int)(v:Vec):lead (x::v)=if x=0 then lead v+1 else 0:=by
 simp only [lead,List.findIdx_cons]
 by_cases h:x=0
 ·simp [h]
 ·have:(x != 0)=true:=by simpa using h
  rw [this,if_neg h]; rfl
theorem a5{v:Vec}{j:Nat}(h:j<lead v):num v j=0:=by
 induction v generalizing j with
 | nil=>simp [lead_nil] at h
 | cons x a ih=>
   rw [lead_cons] at h
   split at h
   ·cases j with
    | zero=>simpa [num]
    | succ j=>rw [bb]; exact ih (by omega)
   ·omega
theorem lead_le{v:Vec}{j:Nat}(h:num v j≠0):lead v<=j:=by
 rcases Nat.lt_or_ge j (lead v) with h' | h'
 ·exact absurd (a5 h') h
 ·exact h'
theorem num_lead_ne{v:Vec}(h:lead v<v.length):num v (lead v)≠0:=by
 induction v with
 | nil=>simp at h
 | cons x a ih=>
   rw [lead_cons] at h ⊢
   split
   ·rename_i hx
    rw [if_pos hx] at h
    rw [bb]; exact ih (by simpa using h)
   ·rename_i hx
    simpa [num] using hx
theorem lead_lt_of_ne{v:Vec}(h:num v (lead v)≠0):lead v<v.length:=by
 rcases Nat.lt_or_ge (lead v) v.length with h' | h'
 ·exact h'
 ·exact absurd (ba h') h
theorem gW{v:Vec}{j:Nat}(h:num v j≠0)(hz:∀i,i<j->num v i=0):lead v=j:=by
 have h1:=lead_le h
 rcases Nat.lt_or_ge (lead v) j with h' | h'
 ·have hl:lead v<v.length:=by
   rcases Nat.lt_or_ge j v.length with h2 | h2
   ·omega
   ·exact absurd (ba h2) h
  exact absurd (hz _ h') (num_lead_ne hl)
 ·omega
theorem gC{v:Vec}{j:Nat}(h:num v (lead v)≠0)(hz:∀i,i<j->num v i=0):j<=lead v:=by
 rcases Nat.lt_or_ge (lead v) j with h' | h'
 ·exact absurd (hz _ h') h
 ·exact h'
def Sp(n:Nat):List Vec->Vec->Prop
 | [],v=>v=zero n
 | r::h,v=>v.length=n/\∃k:Int,Sp n h (minus v (times k r))
def Len(n:Nat)(h:List Vec):Prop:=∀r∈h,r.length=n
theorem Len.nil{n:Nat}:Len n []:=by intro r h; simp at h
theorem Len.cons{n:Nat}{r:Vec}{h:List Vec}(hr:r.length=n)(hh:Len n h):Len n (r::h):=by
 intro s hs
 rcases List.mem_cons.1 hs with h1 | h1
 ·rw [h1]; exact hr
 ·exact hh s h1
theorem Len.head{n:Nat}{r:Vec}{h:List Vec}(H:Len n (r::h)):r.length=n:=H r List.mem_cons_self
theorem Len.tail{n:Nat}{r:Vec}{h:List Vec}(H:Len n (r::h)):Len n h:=fun s hs=>H s (List.mem_cons_of_mem _ hs)
theorem Len.append{n:Nat}{g h:List Vec}(H:Len n g)(K:Len n h):Len n (g++h):=by
 intro r hr
 rcases List.mem_append.1 hr with h1 | h1
 ·exact H r h1
 ·exact K r h1
theorem Sp.len{n:Nat}{h:List Vec}{v:Vec}(H:Sp n h v):v.length=n:=by
 cases h with
 | nil=>rw [show v=zero n from H,aH]
 | cons r h=>exact H.1
theorem cB{n:Nat}{a b:Vec}(ha:a.length=n)(hb:b.length=n)(h:∀j,num a j=num b j):a=b:=
 bn (ha.trans hb.symm) h
theorem aW{n:Nat}{a b:Vec}(ha:a.length=n)(hb:b.length=n):(plus a b).length=n:=by
 rw [dM _ _ (ha.trans hb.symm),ha]
theorem aG{n:Nat}{a b:Vec}(ha:a.length=n)(hb:b.length=n):(minus a b).length=n:=by
 rw [aY _ _ (ha.trans hb.symm),ha]
theorem aD{n:Nat}{a:Vec}(k:Int)(ha:a.length=n):(times k a).length=n:=by
 rw [aI,ha]
theorem cS{n:Nat}{a b:Vec}(ha:a.length=n)(hb:b.length=n)(j:Nat):num (plus a b) j=num a j+num b j:=
 eO a b (ha.trans hb.symm) j
theorem aa{n:Nat}{a b:Vec}(ha:a.length=n)(hb:b.length=n)(j:Nat):num (minus a b) j=num a j - num b j:=
 aw a b (ha.trans hb.symm) j
theorem cG{n:Nat}{a b:Vec}(k:Int)(ha:a.length=n)(hb:b.length=n)(j:Nat):num (minus a (times k b)) j=num a j - k*num b j:=by
 rw [aa ha (aD k hb),aM]
theorem fh{n:Nat}{a b:Vec}(k:Int)(ha:a.length=n)(hb:b.length=n)(j:Nat):num (plus a (times k b)) j=num a j+k*num b j:=by
 rw [cS ha (aD k hb),aM]
theorem Sp.zero{n:Nat}:∀{h:List Vec},Len n h->Sp n h (Tg.zero n)
 | [],_=>rfl
 | r::h,H=>by
   refine⟨aH n,0,?_⟩
   have e:minus (Tg.zero n) (times 0 r)=Tg.zero n:=by
    apply cB (aG (aH n) (aD 0 H.head)) (aH n)
    intro j; rw [cG 0 (aH n) H.head,a6]; omega
   rw [e]; exact Sp.zero H.tail
theorem Sp.plus{n:Nat}:∀{h:List Vec}{a b:Vec},Len n h->Sp n h a->Sp n h b->Sp n h (Tg.plus a b)
 | [],a,b,_,ha,hb=>by
   have ha:a=Tg.zero n:=ha
   have hb:b=Tg.zero n:=hb
   subst ha hb
   show _=_
   apply cB (aW (aH n) (aH n)) (aH n)
   intro j; rw [cS (aH n) (aH n),a6]; omega
 | r::h,a,b,H,⟨la,k,ha⟩,⟨lb,m,hb⟩=>by
   refine⟨aW la lb,k+m,?_⟩
   have hr:=H.head
   have e:minus (Tg.plus a b) (times (k+m) r)=Tg.plus (minus a (times k r)) (minus b (times m r)):=by
    apply cB (aG (aW la lb) (aD _ hr)) (aW (aG la (aD _ hr)) (aG lb (aD _ hr)))
    intro j
    rw [cG _ (aW la lb) hr,cS la lb,cS (aG la (aD _ hr)) (aG lb (aD _ hr)),cG _ la hr,cG _ lb hr]
    grind
   rw [e]; exact Sp.plus H.tail ha hb
theorem Sp.times{n:Nat}:∀{h:List Vec}{a:Vec}(c:Int),Len n h->Sp n h a->Sp n h (Tg.times c a)
 | [],a,c,_,ha=>by
   have ha:a=Tg.zero n:=ha
   subst ha
   show _=_
   apply cB (aD _ (aH n)) (aH n)
   intro j; rw [aM,a6]; omega
 | r::h,a,c,H,⟨la,k,ha⟩=>by
   refine⟨aD _ la,c*k,?_⟩
   have hr:=H.head
   have e:minus (Tg.times c a) (Tg.times (c*k) r)=Tg.times c (minus a (Tg.times k r)):=by
    apply cB (aG (aD _ la) (aD _ hr)) (aD _ (aG la (aD _ hr)))
    intro j
    rw [cG _ (aD _ la) hr,aM,aM,cG _ la hr]
    grind
   rw [e]; exact Sp.times c H.tail ha
theorem Sp.minus{n:Nat}{h:List Vec}{a b:Vec}(H:Len n h)(ha:Sp n h a)(hb:Sp n h b):Sp n h (Tg.minus a b):=by
 have e:Tg.minus a b=Tg.plus a (Tg.times (-1) b):=by
  apply cB (aG ha.len hb.len) (aW ha.len (aD _ hb.len))
  intro j; rw [aa ha.len hb.len,fh _ ha.len hb.len]; omega
 rw [e]; exact Sp.plus H ha (Sp.times _ H hb)
theorem Sp.cons_of{n:Nat}{r v:Vec}{h:List Vec}(H:Len n (r::h))(hv:Sp n h v):Sp n (r::h) v:=by
 refine⟨hv.len,0,?_⟩
 have e:Tg.minus v (Tg.times 0 r)=v:=by
  apply cB (aG hv.len (aD _ H.head)) hv.len
  intro j; rw [cG _ hv.len H.head]; omega
 rw [e]; exact hv
theorem Sp.mem{n:Nat}:∀{h:List Vec}{r:Vec},Len n h->r∈h->Sp n h r
 | s::h,r,H,hr=>by
   by_cases e:r=s
   ·subst e
    refine⟨H.head,1,?_⟩
    have e:Tg.minus r (Tg.times 1 r)=Tg.zero n:=by
     apply cB (aG H.head (aD _ H.head)) (aH n)
     intro j; rw [cG _ H.head H.head,a6]; omega
    rw [e]; exact Sp.zero H.tail
   ·rcases List.mem_cons.1 hr with h1 | h1
    ·exact absurd h1 e
    ·exact Sp.cons_of H (Sp.mem H.tail h1)
theorem Sp.le_of{n:Nat}{P:Vec->Prop}(pz:P (Tg.zero n))(pp:∀(a b:Vec)(k:Int),a.length=n->b.length=n->P a->P b->P (Tg.plus a (Tg.times k b))) :
  ∀{h:List Vec}{v:Vec},Len n h->(∀r∈h,P r)->Sp n h v->P v
 | [],v,_,_,hv=>by rw [show v=Tg.zero n from hv]; exact pz
 | r::h,v,H,hp,⟨lv,k,hv⟩=>by
   have h1:=Sp.le_of pz pp H.tail (fun s hs=>hp s (List.mem_cons_of_mem _ hs)) hv
   have e:v=Tg.plus (Tg.minus v (Tg.times k r)) (Tg.times k r):=by
    apply cB lv (aW (aG lv (aD _ H.head)) (aD _ H.head))
    intro j; rw [fh _ (aG lv (aD _ H.head)) H.head,cG _ lv H.head]; omega
   rw [e]
   exact pp _ _ _ (aG lv (aD _ H.head)) H.head h1 (hp r List.mem_cons_self)
theorem Sp.sub{n:Nat}{g h:List Vec}{v:Vec}(G:Len n g)(H:Len n h)(hg:∀r∈g,Sp n h r)(hv:Sp n g v):Sp n h v:=
 Sp.le_of (P:=Sp n h) (Sp.zero H) (fun a b k _ _ ha hb=>Sp.plus H ha (Sp.times k H hb)) G hg hv
def Same(n:Nat)(g h:List Vec):Prop:=∀v,Sp n g v↔Sp n h v
theorem Same.of{n:Nat}{g h:List Vec}(G:Len n g)(H:Len n h)(hg:∀r∈g,Sp n h r)(hh:∀r∈h,Sp n g r):Same n g h:=
 fun _=>⟨Sp.sub G H hg,Sp.sub H G hh⟩
theorem Same.refl{n:Nat}{g:List Vec}:Same n g g:=fun _=>Iff.rfl
theorem Same.symm{n:Nat}{g h:List Vec}(H:Same n g h):Same n h g:=fun v=>(H v).symm
theorem Same.trans{n:Nat}{g h k:List Vec}(H:Same n g h)(K:Same n h k):Same n g k:=fun v=>(H v).trans (K v)
theorem Sp.app_left{n:Nat}{g h:List Vec}{v:Vec}(G:Len n g)(H:Len n h)(hv:Sp n g v):Sp n (g++h) v:=
 Sp.sub G (G.append H) (fun _ hr=>Sp.mem (G.append H) (List.mem_append_left _ hr)) hv
theorem Sp.app_right{n:Nat}{g h:List Vec}{v:Vec}(G:Len n g)(H:Len n h)(hv:Sp n h v):Sp n (g++h) v:=
 Sp.sub H (G.append H) (fun _ hr=>Sp.mem (G.append H) (List.mem_append_right _ hr)) hv
theorem Sp.app_iff{n:Nat}:∀{g h:List Vec}{v:Vec},Len n g->Len n h->(Sp n (g++h) v↔∃a b,Sp n g a/\Sp n h b/\v=Tg.plus a b):=by
 intro g h v G H
 constructor
 ·intro hv
  refine Sp.le_of (P:=fun v=>∃a b,Sp n g a/\Sp n h b/\v=Tg.plus a b) ?_ ?_ (G.append H) ?_ hv
  ·exact⟨_,_,Sp.zero G,Sp.zero H,by
    apply cB (aH n) (aW (aH n) (aH n))
    intro j; rw [cS (aH n) (aH n),a6]; omega⟩
  ·rintro a b k _ _ ⟨a1,a2,h1,h2,rfl⟩ ⟨b1,b2,h3,h4,rfl⟩
   refine⟨_,_,Sp.plus G h1 (Sp.times k G h3),Sp.plus H h2 (Sp.times k H h4),?_⟩
   have l1:=h1.len; have l2:=h2.len; have l3:=h3.len; have l4:=h4.len
   apply cB (aW (aW l1 l2) (aD _ (aW l3 l4))) (aW (aW l1 (aD _ l3)) (aW l2 (aD _ l4)))
   intro j
   rw [fh _ (aW l1 l2) (aW l3 l4),cS l1 l2,cS l3 l4,cS (aW l1 (aD _ l3)) (aW l2 (aD _ l4)),fh _ l1 l3,fh _ l2 l4]
   grind
  ·intro r hr
   rcases List.mem_append.1 hr with h1 | h1
   ·refine⟨r,Tg.zero n,Sp.mem G h1,Sp.zero H,?_⟩
    apply cB (G r h1) (aW (G r h1) (aH n))
    intro j; rw [cS (G r h1) (aH n),a6]; omega
   ·refine⟨Tg.zero n,r,Sp.zero G,Sp.mem H h1,?_⟩
    apply cB (H r h1) (aW (aH n) (H r h1))
    intro j; rw [cS (aH n) (H r h1),a6]; omega
 ·rintro⟨a,b,ha,hb,rfl⟩
  exact Sp.plus (G.append H) (Sp.app_left G H ha) (Sp.app_right G H hb)
structure Ech(n:Nat)(h:List Vec):Prop where
 len:Len n h
 pos:∀r∈h,0<num r (lead r)
 rise:h.Pairwise (fun r s=>lead r<lead s)
structure Form(n:Nat)(h:List Vec):Prop extends Ech n h where
 red:h.Pairwise (fun r s=>0<=num r (lead s)/\num r (lead s)<num s (lead s))
theorem Ech.nil{n:Nat}:Ech n []:=⟨Len.nil,by simp,List.Pairwise.nil⟩
theorem Form.nil{n:Nat}:Form n []:={Ech.nil with red:=List.Pairwise.nil}
theorem Ech.tail{n:Nat}{r:Vec}{h:List Vec}(H:Ech n (r::h)):Ech n h:=
 ⟨H.len.tail,fun s hs=>H.pos s (List.mem_cons_of_mem _ hs),(List.pairwise_cons.1 H.rise).2⟩
theorem Ech.above{n:Nat}{r:Vec}{h:List Vec}(H:Ech n (r::h)):∀s∈h,lead r<lead s:=(List.pairwise_cons.1 H.rise).1
theorem Form.tail{n:Nat}{r:Vec}{h:List Vec}(H:Form n (r::h)):Form n h:=
 {H.toEch.tail with red:=(List.pairwise_cons.1 H.red).2}
theorem Ech.hpos{n:Nat}{r:Vec}{h:List Vec}(H:Ech n (r::h)):0<num r (lead r):=H.pos r List.mem_cons_self
theorem Ech.lead_lt{n:Nat}{h:List Vec}(H:Ech n h){r:Vec}(hr:r∈h):lead r<n:=by
 have:=H.pos r hr
 have h2:=lead_lt_of_ne (v:=r) (by omega)
 rw [H.len r hr] at h2; exact h2
theorem Sp.zero_at{n:Nat}{h:List Vec}{v:Vec}{j:Nat}(H:Len n h)(hz:∀r∈h,num r j=0)(hv:Sp n h v):num v j=0:=by
 refine Sp.le_of (P:=fun v=>num v j=0) (a6 n j) ?_ H hz hv
 intro a b k la lb ha hb
 rw [fh _ la lb,ha,hb]; omega
theorem Ech.below{n:Nat}{r:Vec}{h:List Vec}(H:Ech n (r::h)){v:Vec}(hv:Sp n h v){j:Nat}(hj:j<=lead r):num v j=0:=by
 refine Sp.zero_at H.tail.len ?_ hv
 intro s hs
 exact a5 (by have:=H.above s hs; omega)
theorem Ech.head_mul{n:Nat}{r:Vec}{h:List Vec}(H:Ech n (r::h)){v:Vec}(lv:v.length=n){k:Int}(hk:Sp n h (minus v (times k r))) :
  num v (lead r)=k*num r (lead r):=by
 have h1:=H.below hk (Nat.le_refl _)
 rw [cG _ lv H.len.head] at h1; omega
theorem minus_times_zero{n:Nat}{v r:Vec}(lv:v.length=n)(lr:r.length=n):minus v (times 0 r)=v:=by
 apply cB (aG lv (aD _ lr)) lv
 intro j; rw [cG _ lv lr]; omega
theorem Ech.tail_iff{n:Nat}{r:Vec}{h:List Vec}(H:Ech n (r::h))(v:Vec):Sp n h v↔Sp n (r::h) v/\num v (lead r)=0:=by
 constructor
 ·intro hv; exact⟨Sp.cons_of H.len hv,H.below hv (Nat.le_refl _)⟩
 ·rintro⟨⟨lv,k,hk⟩,h0⟩
  have h1:=H.head_mul lv hk
  have h2:k=0:=by
   rw [h0] at h1
   rcases Int.mul_eq_zero.1 h1.symm with h3 | h3
   ·exact h3
   ·have:=H.hpos; omega
  subst h2
  rwa [minus_times_zero lv H.len.head] at hk
theorem mul_small{k p:Int}(_:0<p)(h1:-p<k*p)(h2:k*p<p):k=0:=by
 rcases Int.lt_trichotomy k 0 with h | h | h
 ·have:k*p<=-1*p:=Int.mul_le_mul_of_nonneg_right (by omega) (by omega)
  omega
 ·exact h
 ·have:1*p<=k*p:=Int.mul_le_mul_of_nonneg_right (by omega) (by omega)
  omega
theorem Ech.small{n:Nat}:∀{h:List Vec},Ech n h->∀{v:Vec},Sp n h v->(∀s∈h,-(num s (lead s))<num v (lead s)/\num v (lead s)<num s (lead s))->v=Tg.zero n
 | [],_,_,hv,_=>hv
 | r::h,H,v,⟨lv,k,hk⟩,hs=>by
   have h1:=H.head_mul lv hk
   have h2:=hs r List.mem_cons_self
   rw [h1] at h2
   have h3:=mul_small H.hpos h2.1 h2.2
   subst h3
   rw [minus_times_zero lv H.len.head] at hk
   exact Ech.small H.tail hk (fun s hs'=>hs s (List.mem_cons_of_mem _ hs'))
theorem cj{n:Nat}{a b:Vec}(la:a.length=n)(lb:b.length=n)(h:minus a b=Tg.zero n):a=b:=by
 apply cB la lb
 intro j
 have:=congrArg (fun v=>num v j) h
 simp only [aa la lb,a6] at this
 omega
theorem Form.unique{n:Nat}:∀{g h:List Vec},Form n g->Form n h->Same n g h->g=h
 | [],[],_,_,_=>rfl
 | [],r::h,_,H,e=>by
   have h1:=(e r).2 (Sp.mem H.len List.mem_cons_self)
   have h2:=H.hpos
   rw [show r=Tg.zero n from h1,a6] at h2
   omega
 | r::g,[],G,_,e=>by
   have h1:=(e r).1 (Sp.mem G.len List.mem_cons_self)
   have h2:=G.hpos
   rw [show r=Tg.zero n from h1,a6] at h2
   omega
 | a::g,b::h,G,H,e=>by
   have ha:Sp n (b::h) a:=(e a).1 (Sp.mem G.len List.mem_cons_self)
   have hb:Sp n (a::g) b:=(e b).2 (Sp.mem H.len List.mem_cons_self)
   have pa:=G.hpos
   have pb:=H.hpos
   have z1:∀i,i<lead b->num a i=0:=by
    intro i hi
    refine Sp.zero_at H.len ?_ ha
    intro s hs
    rcases List.mem_cons.1 hs with h1 | h1
    ·rw [h1]; exact a5 hi
    ·exact a5 (by have:=H.above s h1; omega)
   have z2:∀i,i<lead a->num b i=0:=by
    intro i hi
    refine Sp.zero_at G.len ?_ hb
    intro s hs
    rcases List.mem_cons.1 hs with h1 | h1
    ·rw [h1]; exact a5 hi
    ·exact a5 (by have:=G.above s h1; omega)
   have l1:=gC (v:=a) (by omega) z1
   have l2:=gC (v:=b) (by omega) z2
   have le:lead a=lead b:=by omega
   obtain⟨la,k,hk⟩:=ha
   obtain⟨lb,m,hm⟩:=hb
   have e1:=H.head_mul la hk
   have e2:=G.head_mul lb hm
   rw [<- le] at e1 pb
   have pe:num a (lead a)=num b (lead a):=by
    have k0:0<k:=by
     rcases Int.lt_or_le 0 k with h1 | h1
     ·exact h1
     ·have:k*num b (lead a)<=0*num b (lead a):=Int.mul_le_mul_of_nonneg_right h1 (by omega)
      omega
    have m0:0<m:=by
     rcases Int.lt_or_le 0 m with h1 | h1
     ·exact h1
     ·have:m*num a (lead a)<=0*num a (lead a):=Int.mul_le_mul_of_nonneg_right h1 (by omega)
      omega
    have:1*num b (lead a)<=k*num b (lead a):=Int.mul_le_mul_of_nonneg_right (by omega) (by omega)
    have:1*num a (lead a)<=m*num a (lead a):=Int.mul_le_mul_of_nonneg_right (by omega) (by omega)
    omega
   have et:g=h:=by
    refine Form.unique G.tail H.tail ?_
    intro v
    rw [G.tail_iff v,H.tail_iff v,e v,le]
   subst et
   have d:Sp n g (minus a b):=by
    rw [G.tail_iff]
    refine⟨Sp.minus G.len (Sp.mem G.len List.mem_cons_self) ((e b).2 (Sp.mem H.len List.mem_cons_self)),?_⟩
    rw [aa la lb]; omega
   have:=Ech.small G.tail.toEch d (by
    intro s hs
    have h1:=(List.pairwise_cons.1 G.red).1 s hs
    have h2:=(List.pairwise_cons.1 H.red).1 s hs
    rw [aa la lb]; omega)
   rw [cj la lb this]
structure Div(n:Nat)(h:List Vec)(v:Vec)(q:List Int)(w:Vec):Prop where
 len:w.length=n
 qlen:q.length=h.length
 sub:Sp n h (minus v w)
 red:∀s∈h,0<=num w (lead s)/\num w (lead s)<num s (lead s)
theorem ck{n:Nat}:∀{h:List Vec},Ech n h->∀{v:Vec},v.length=n->Div n h v (divided h v).1 (divided h v).2
 | [],_,v,lv=>⟨lv,rfl,by
   show minus v v=Tg.zero n
   apply cB (aG lv lv) (aH n)
   intro j; rw [aa lv lv,a6]; omega,by simp⟩
 | r::h,H,v,lv=>by
   have lr:=H.len.head
   have ih:=ck H.tail (v:=minus v (times (num v (lead r)/num r (lead r)) r)) (aG lv (aD _ lr))
   have l1:=aG lv (aD (num v (lead r)/num r (lead r)) lr)
   refine⟨ih.len,by simpa [divided] using ih.qlen,⟨aG lv ih.len,num v (lead r)/num r (lead r),?_⟩,?_⟩
   ·have e:minus (minus v (divided (r::h) v).2) (times (num v (lead r)/num r (lead r)) r)=minus (minus v (times (num v (lead r)/num r (lead r)) r)) (divided h (minus v (times (num v (lead r)/num r (lead r)) r))).2:=by
     show minus (minus v (divided h (minus v (times (num v (lead r)/num r (lead r)) r))).2) _=_
     apply cB (aG (aG lv ih.len) (aD _ lr)) (aG l1 ih.len)
     intro j
     rw [cG _ (aG lv ih.len) lr,aa lv ih.len,aa l1 ih.len,cG _ lv lr]
     omega
    rw [e]; exact ih.sub
   ·intro s hs
    rcases List.mem_cons.1 hs with h1 | h1
    ·subst h1
     have h2:=H.below ih.sub (Nat.le_refl _)
     rw [aa l1 ih.len,cG _ lv lr] at h2
     have p:=H.hpos
     have e1:num v (lead s) - num v (lead s)/num s (lead s)*num s (lead s)=num v (lead s)%num s (lead s):=by
      rw [Int.emod_def,Int.mul_comm]
     have e2:=Int.emod_nonneg (num v (lead s)) (b:=num s (lead s)) (by omega)
     have e3:=Int.emod_lt_of_pos (num v (lead s)) p
     show 0<=num (divided h _).2 (lead s)/\num (divided h _).2 (lead s)<_
     omega
    ·exact ih.red s h1
theorem Div.unique{n:Nat}{h:List Vec}(H:Ech n h){v w x:Vec}{q:List Int}(D:Div n h v q w)(lv:v.length=n)(lx:x.length=n)(hx:Sp n h (minus v x))
  (hr:∀s∈h,0<=num x (lead s)/\num x (lead s)<num s (lead s)):w=x:=by
 have d:Sp n h (minus w x):=by
  have e:minus w x=minus (minus v x) (minus v w):=by
   apply cB (aG D.len lx) (aG (aG lv lx) (aG lv D.len))
   intro j
   rw [aa D.len lx,aa (aG lv lx) (aG lv D.len),aa lv lx,aa lv D.len]; omega
  rw [e]; exact Sp.minus H.len hx D.sub
 refine cj D.len lx (Ech.small H d ?_)
 intro s hs
 have h1:=D.red s hs
 have h2:=hr s hs
 rw [aa D.len lx]; omega
theorem c7{n:Nat}{v:Vec}(lv:v.length=n):minus v (Tg.zero n)=v:=by
 apply cB (aG lv (aH n)) lv
 intro j; rw [aa lv (aH n),a6]; omega
theorem has_iff{n:Nat}{h:List Vec}(H:Ech n h){v:Vec}(lv:v.length=n):has h v=true↔Sp n h v:=by
 have D:=ck H lv
 unfold has leftOf
 constructor
 ·intro hz
  have e:=eq_zero_of_isZero D.len hz
  have:=D.sub
  rwa [e,c7 lv] at this
 ·intro hv
  have e:=D.unique H lv (aH n) (by rwa [c7 lv]) (by
   intro s hs
   have:=H.pos s hs
   rw [a6]; omega)
  rw [e]; exact isZero_zero n
theorem Len.perm{n:Nat}{a b:List Vec}(p:a.Perm b)(A:Len n a):Len n b:=fun r hr=>A r (p.mem_iff.2 hr)
theorem Same.perm{n:Nat}{a b:List Vec}(p:a.Perm b)(A:Len n a):Same n a b:=
 Same.of A (A.perm p) (fun r hr=>Sp.mem (A.perm p) (p.mem_iff.1 hr)) (fun r hr=>Sp.mem A (p.mem_iff.2 hr))
theorem Same.append{n:Nat}{a b c d:List Vec}(A:Len n a)(B:Len n b)(C:Len n c)(D:Len n d)(h:Same n a b)(k:Same n c d):Same n (a++c) (b++d):=by
 intro v
 rw [Sp.app_iff A C,Sp.app_iff B D]
 constructor
 ·rintro⟨x,y,hx,hy,e⟩; exact⟨x,y,(h x).1 hx,(k y).1 hy,e⟩
 ·rintro⟨x,y,hx,hy,e⟩; exact⟨x,y,(h x).2 hx,(k y).2 hy,e⟩
theorem Same.zero_at{n:Nat}{a b:List Vec}(A:Len n a)(B:Len n b)(h:Same n a b){j:Nat}(hz:∀r∈b,num r j=0):∀r∈a,num r j=0:=
 fun r hr=>Sp.zero_at B hz ((h r).1 (Sp.mem A hr))
theorem Len.one{n:Nat}{a:Vec}(la:a.length=n):Len n [a]:=Len.cons la Len.nil
theorem Len.two{n:Nat}{a b:Vec}(la:a.length=n)(lb:b.length=n):Len n [a,b]:=Len.cons la (Len.one lb)
structure Pair(n j:Nat)(a b x y:Vec):Prop where
 lx:x.length=n
 ly:y.length=n
 zy:num y j=0
 same:Same n [x,y] [a,b]
theorem Same.step{n:Nat}{a b:Vec}(q:Int)(la:a.length=n)(lb:b.length=n):Same n [b,minus a (times q b)] [a,b]:=by
 have lm:=aG la (aD q lb)
 refine Same.of (Len.two lb lm) (Len.two la lb) ?_ ?_
 ·intro r hr
  simp only [List.mem_cons,List.not_mem_nil,or_false] at hr
  rcases hr with h | h <;> subst h
  ·exact Sp.mem (Len.two la lb) (by simp)
  ·exact Sp.minus (Len.two la lb) (Sp.mem (Len.two la lb) (by simp)) (Sp.times q (Len.two la lb) (Sp.mem (Len.two la lb) (by simp)))
 ·intro r hr
  simp only [List.mem_cons,List.not_mem_nil,or_false] at hr
  rcases hr with h | h <;> subst h
  ·have e:r=plus (minus r (times q b)) (times q b):=by
    apply cB la (aW lm (aD q lb))
    intro j; rw [fh _ lm lb,cG _ la lb]; omega
   have hs:=Sp.plus (Len.two lb lm) (Sp.mem (Len.two lb lm) (r:=minus r (times q b)) (by simp)) (Sp.times q (Len.two lb lm) (Sp.mem (Len.two lb lm) (r:=b) (by simp)))
   rw [<- e] at hs; exact hs
  ·exact Sp.mem (Len.two lb lm) (by simp)
theorem euclid_spec{n j:Nat}:∀(f:Nat)(a b:Vec),a.length=n->b.length=n->(num b j).natAbs<=f->Pair n j a b (euclid j f a b).1 (euclid j f a b).2
 | 0,a,b,la,lb,hf=>⟨la,lb,by simp only [euclid]; omega,Same.refl⟩
 | f+1,a,b,la,lb,hf=>by
   unfold euclid
   split
   ·rename_i h0
    exact⟨la,lb,h0,Same.refl⟩
   ·rename_i h0
    have lm:=aG la (aD (num a j/num b j) lb)
    have e:num (minus a (times (num a j/num b j) b)) j=num a j%num b j:=by
     rw [cG _ la lb,Int.emod_def,Int.mul_comm]
    have e1:=Int.emod_nonneg (num a j) h0
    have e2:=Int.emod_lt (num a j) h0
    have ih:=euclid_spec f b _ lb lm (by rw [e]; omega)
    exact⟨ih.lx,ih.ly,ih.zy,ih.same.trans (Same.step _ la lb)⟩
theorem Pair.ne{n j:Nat}{a b x y:Vec}(P:Pair n j a b x y)(la:a.length=n)(lb:b.length=n)(h:num a j≠0):num x j≠0:=by
 intro h0
 apply h
 refine Sp.zero_at (h:=[x,y]) (Len.two P.lx P.ly) ?_ ((P.same a).2 (Sp.mem (Len.two la lb) (by simp)))
 intro r hr
 simp only [List.mem_cons,List.not_mem_nil,or_false] at hr
 rcases hr with h | h <;> subst h
 ·exact h0
 ·exact P.zy
structure Col(n j:Nat)(rows:List Vec)(o:Option Vec)(l:List Vec):Prop where
 olen:Len n o.toList
 one:∀q∈o.toList,num q j≠0
 llen:Len n l
 lz:∀r∈l,num r j=0
 same:Same n (o.toList++l) rows
theorem Col.start{n j:Nat}:Col n j [] none []:=⟨Len.nil,by simp,Len.nil,by simp,Same.refl⟩
theorem ia{α:Type}(x y:α)(l:List α):([x]++(l++[y])).Perm ([x,y]++l):=by
 simp only [List.cons_append,List.nil_append]
 refine List.Perm.cons x ?_
 exact(List.perm_append_comm (l₁:=l) (l₂:=[y]))
theorem perm_b{α:Type}(x:α)(l:List α):([x]++l).Perm (l++[x]):=List.perm_append_comm
theorem Col.none_zero{n j:Nat}{rows:List Vec}{l:List Vec}{r:Vec}(R:Len n rows)(C:Col n j rows none l)(lr:r.length=n)(hr:num r j=0):Col n j (rows++[r]) none (l++[r]):=
 ⟨Len.nil,by simp,C.llen.append (Len.one lr),by
  intro s hs
  rcases List.mem_append.1 hs with h | h
  ·exact C.lz s h
  ·simp only [List.mem_cons,List.not_mem_nil,or_false] at h; rw [h]; exact hr,
  by
   have:=C.same
   simp only [Option.toList_none,List.nil_append] at this ⊢
   exact Same.append C.llen R (Len.one lr) (Len.one lr) this Same.refl⟩
theorem Col.none_ne{n j:Nat}{rows:List Vec}{l:List Vec}{r:Vec}(R:Len n rows)(C:Col n j rows none l)(lr:r.length=n)(hr:num r j≠0):Col n j (rows++[r]) (some r) l:=
 ⟨Len.one lr,by simpa using hr,C.llen,C.lz,by
  have:=C.same
  simp only [Option.toList_none,List.nil_append,Option.toList_some] at this ⊢
  exact(Same.perm (perm_b r l) ((Len.one lr).append C.llen)).trans (Same.append C.llen R (Len.one lr) (Len.one lr) this Same.refl)⟩
theorem Col.some_pair{n j:Nat}{rows:List Vec}{l:List Vec}{q r x y:Vec}(R:Len n rows)(C:Col n j rows (some q) l)(lr:r.length=n)(P:Pair n j q r x y):Col n j (rows++[r]) (some x) (l++[y]):=by
 have lq:q.length=n:=C.olen q (by simp)
 refine⟨Len.one P.lx,?_,C.llen.append (Len.one P.ly),?_,?_⟩
 ·have:=P.ne lq lr (C.one q (by simp))
  simpa using this
 ·intro s hs
  rcases List.mem_append.1 hs with h | h
  ·exact C.lz s h
  ·simp only [List.mem_cons,List.not_mem_nil,or_false] at h; rw [h]; exact P.zy
 ·have:=C.same
  simp only [Option.toList_some] at this ⊢
  refine(Same.perm (ia x y l) ((Len.one P.lx).append (C.llen.append (Len.one P.ly)))).trans ?_
  refine(Same.append (Len.two P.lx P.ly) (Len.two lq lr) C.llen C.llen P.same Same.refl).trans ?_
  refine(Same.perm (ia q r l).symm ((Len.two lq lr).append C.llen)).trans ?_
  rw [<- List.append_assoc]
  exact Same.append ((Len.one lq).append C.llen) R (Len.one lr) (Len.one lr) this Same.refl
theorem column_spec{n j:Nat}(rows:List Vec)(R:Len n rows):Col n j rows (column j rows).1 (column j rows).2:=by
 unfold column
 have main:∀(rest pre:List Vec)(z:Option Vec × List Vec),Len n pre->Len n rest->Col n j pre z.1 z.2->
   Col n j (pre++rest) (rest.foldl (fun(z:Option Vec × List Vec)(r:Vec)=>match z.1 with
    | none=>if num r j=0 then(none,z.2++[r]) else(some r,z.2)
    | some q=>let x:=euclid j ((num r j).natAbs+2) q r
      (some x.1,z.2++[x.2])) z).1 (rest.foldl (fun(z:Option Vec × List Vec)(r:Vec)=>match z.1 with
    | none=>if num r j=0 then(none,z.2++[r]) else(some r,z.2)
    | some q=>let x:=euclid j ((num r j).natAbs+2) q r
      (some x.1,z.2++[x.2])) z).2:=by
  intro rest
  induction rest with
  | nil=>intro pre z _ _ C; simpa using C
  | cons r rest ih=>
    intro pre z hp hr C
    rw [List.foldl_cons,show pre++r::rest=(pre++[r])++rest by simp]
    refine ih (pre++[r]) _ (hp.append (Len.one hr.head)) hr.tail ?_
    obtain⟨o,l⟩:=z
    cases o with
    | none=>
      dsimp only
      split
      ·rename_i h0; exact C.none_zero hp hr.head h0
      ·rename_i h0; exact C.none_ne hp hr.head h0
    | some q=>
      dsimp only
      exact C.some_pair hp hr.head (euclid_spec _ q r (C.olen q (by simp)) hr.head (by omega))
 exact main rows [] (none,[]) Len.nil R Col.start
structure Part(n j:Nat)(all done rest:List Vec):Prop where
 form:Form n done
 lt:∀r∈done,lead r<j
 rlen:Len n rest
 rz:∀r∈rest,∀i,i<j->num r i=0
 same:Same n (done++rest) all
theorem Part.skip{n j:Nat}{all done rest l:List Vec}(P:Part n j all done rest)(C:Col n j rest none l):Part n (j+1) all done l:=by
 have cs:=C.same
 simp only [Option.toList_none,List.nil_append] at cs
 refine⟨P.form,fun r hr=>by have:=P.lt r hr; omega,C.llen,?_,?_⟩
 ·intro r hr i hi
  rcases Nat.lt_or_ge i j with h | h
  ·exact Same.zero_at C.llen P.rlen cs (fun s hs=>P.rz s hs i h) r hr
  ·rw [show i=j by omega]; exact C.lz r hr
 ·exact(Same.append P.form.len P.form.len C.llen P.rlen Same.refl cs).trans P.same
structure Turned(n j:Nat)(q p:Vec):Prop where
 len:p.length=n
 pos:0<num p j
 same:Same n [p] [q]
theorem same_neg{n:Nat}{q:Vec}(lq:q.length=n):Same n [times (-1) q] [q]:=by
 have ln:=aD (-1) lq
 refine Same.of (Len.one ln) (Len.one lq) ?_ ?_
 ·intro r hr
  simp only [List.mem_cons,List.not_mem_nil,or_false] at hr
  subst hr
  exact Sp.times _ (Len.one lq) (Sp.mem (Len.one lq) (by simp))
 ·intro r hr
  simp only [List.mem_cons,List.not_mem_nil,or_false] at hr
  subst hr
  have h:=Sp.times (-1) (Len.one ln) (Sp.mem (Len.one ln) (r:=times (-1) r) (by simp))
  have e:times (-1) (times (-1) r)=r:=by
   apply cB (aD _ ln) lq
   intro j; rw [aM,aM]; omega
  rwa [e] at h
theorem upright_spec{n j:Nat}{q:Vec}(lq:q.length=n)(h:num q j≠0)(hz:∀i,i<j->num q i=0):Turned n j q (Tg.upright q):=by
 have hl:=gW h hz
 unfold Tg.upright
 split
 ·rename_i ht
  unfold isTold at ht
  rw [hl] at ht
  exact⟨lq,by simpa using ht,Same.refl⟩
 ·rename_i ht
  unfold isTold at ht
  rw [hl] at ht
  simp only [decide_eq_true_eq] at ht
  exact⟨aD _ lq,by rw [aM]; omega,same_neg lq⟩
def clear(j:Nat)(p r:Vec):Vec:=minus r (times (num r j/num p j) p)
theorem d7{n j:Nat}{p r:Vec}(lp:p.length=n)(lr:r.length=n):(clear j p r).length=n:=aG lr (aD _ lp)
theorem clear_num{n j:Nat}{p r:Vec}(lp:p.length=n)(lr:r.length=n)(i:Nat):num (clear j p r) i=num r i - num r j/num p j*num p i:=cG _ lr lp i
theorem Part.take{n j:Nat}{all done rest l:List Vec}{q p:Vec}(P:Part n j all done rest)(C:Col n j rest (some q) l)(T:Turned n j q p) :
  Part n (j+1) all (done.map (clear j p)++[p]) l:=by
 have lq:q.length=n:=C.olen q (by simp)
 have lp:=T.len
 have cs:=C.same
 simp only [Option.toList_some] at cs
 have cl:Len n ([q]++l):=(Len.one lq).append C.llen
 have zq:∀i,i<j->num q i=0:=fun i h=>Same.zero_at cl P.rlen cs (fun s hs=>P.rz s hs i h) q (by simp)
 have zp:∀i,i<j->num p i=0:=fun i h=>Same.zero_at (Len.one lp) (Len.one lq) T.same (fun s hs=>by
  simp only [List.mem_cons,List.not_mem_nil,or_false] at hs; rw [hs]; exact zq i h) p (by simp)
 have lpj:lead p=j:=gW (by have:=T.pos; omega) zp
 have cn:∀r∈done,∀i,i<j->num (clear j p r) i=num r i:=by
  intro r hr i hi
  rw [clear_num lp (P.form.len r hr),zp i hi]; omega
 have cld:∀r∈done,lead (clear j p r)=lead r:=by
  intro r hr
  have h1:=P.lt r hr
  have h2:=P.form.pos r hr
  apply gW
  ·rw [cn r hr _ h1]; omega
  ·intro i hi
   rw [cn r hr i (by omega)]; exact a5 hi
 have ld:Len n (done.map (clear j p)):=by
  intro r hr
  obtain⟨s,hs,rfl⟩:=List.mem_map.1 hr
  exact d7 lp (P.form.len s hs)
 refine⟨⟨⟨ld.append (Len.one lp),?_,?_⟩,?_⟩,?_,C.llen,?_,?_⟩
 ·intro r hr
  rcases List.mem_append.1 hr with h | h
  ·obtain⟨s,hs,rfl⟩:=List.mem_map.1 h
   rw [cld s hs,cn s hs _ (P.lt s hs)]
   exact P.form.pos s hs
  ·simp only [List.mem_cons,List.not_mem_nil,or_false] at h
   rw [h,lpj]; exact T.pos
 ·rw [List.pairwise_append]
  refine⟨?_,by simp,?_⟩
  ·rw [List.pairwise_map]
   refine List.Pairwise.imp_of_mem ?_ P.form.rise
   intro a b ha hb hab
   rw [cld a ha,cld b hb]; exact hab
  ·intro r hr s hs
   obtain⟨t,ht,rfl⟩:=List.mem_map.1 hr
   simp only [List.mem_cons,List.not_mem_nil,or_false] at hs
   rw [hs,lpj,cld t ht]; exact P.lt t ht
 ·rw [List.pairwise_append]
  refine⟨?_,by simp,?_⟩
  ·rw [List.pairwise_map]
   refine List.Pairwise.imp_of_mem ?_ P.form.red
   intro a b ha hb hab
   rw [cld b hb,cn a ha _ (P.lt b hb),cn b hb _ (P.lt b hb)]; exact hab
  ·intro r hr s hs
   obtain⟨t,ht,rfl⟩:=List.mem_map.1 hr
   simp only [List.mem_cons,List.not_mem_nil,or_false] at hs
   rw [hs,lpj,clear_num lp (P.form.len t ht)]
   have e:num t j - num t j/num p j*num p j=num t j%num p j:=by rw [Int.emod_def,Int.mul_comm]
   have p0:=T.pos
   rw [e]
   exact⟨Int.emod_nonneg _ (by omega),Int.emod_lt_of_pos _ p0⟩
 ·intro r hr
  rcases List.mem_append.1 hr with h | h
  ·obtain⟨s,hs,rfl⟩:=List.mem_map.1 h
   rw [cld s hs]; have:=P.lt s hs; omega
  ·simp only [List.mem_cons,List.not_mem_nil,or_false] at h
   rw [h,lpj]; omega
 ·intro r hr i hi
  rcases Nat.lt_or_ge i j with h | h
  ·exact Same.zero_at cl P.rlen cs (fun s hs=>P.rz s hs i h) r (List.mem_append_right _ hr)
  ·rw [show i=j by omega]; exact C.lz r hr
 ·
  have h1:Same n (done.map (clear j p)++[p]) (done++[p]):=by
   have la:=ld.append (Len.one lp)
   have lb:=P.form.len.append (Len.one lp)
   refine Same.of la lb ?_ ?_
   ·intro r hr
    rcases List.mem_append.1 hr with h | h
    ·obtain⟨s,hs,rfl⟩:=List.mem_map.1 h
     exact Sp.minus lb (Sp.mem lb (List.mem_append_left _ hs)) (Sp.times _ lb (Sp.mem lb (by simp)))
    ·exact Sp.mem lb (List.mem_append_right _ h)
   ·intro r hr
    rcases List.mem_append.1 hr with h | h
    ·have ls:=P.form.len r h
     have e:r=plus (clear j p r) (times (num r j/num p j) p):=by
      apply cB ls (aW (d7 lp ls) (aD _ lp))
      intro i; rw [fh _ (d7 lp ls) lp,clear_num lp ls]; omega
     have hs:=Sp.plus la (Sp.mem la (r:=clear j p r) (List.mem_append_left _ (List.mem_map_of_mem h))) (Sp.times (num r j/num p j) la (Sp.mem la (r:=p) (by simp)))
     rw [<- e] at hs; exact hs
    ·exact Sp.mem la (List.mem_append_right _ h)
  refine(Same.append (ld.append (Len.one lp)) (P.form.len.append (Len.one lp)) C.llen C.llen h1 Same.refl).trans ?_
  rw [List.append_assoc]
  refine(Same.append P.form.len P.form.len ((Len.one lp).append C.llen) cl Same.refl (Same.append (Len.one lp) (Len.one lq) C.llen C.llen T.same Same.refl)).trans ?_
  exact(Same.append P.form.len P.form.len cl P.rlen Same.refl cs).trans P.same
theorem Part.last{n:Nat}{all done rest:List Vec}(P:Part n n all done rest):Same n done all:=by
 refine Same.trans ?_ P.same
 refine Same.of P.form.len (P.form.len.append P.rlen) (fun r hr=>Sp.mem (P.form.len.append P.rlen) (List.mem_append_left _ hr)) ?_
 intro r hr
 rcases List.mem_append.1 hr with h | h
 ·exact Sp.mem P.form.len h
 ·have e:r=Tg.zero n:=by
   apply cB (P.rlen r h) (aH n)
   intro i
   rw [a6]
   rcases Nat.lt_or_ge i n with h' | h'
   ·exact P.rz r h i h'
   ·exact ba (by rw [P.rlen r h]; exact h')
  rw [e]; exact Sp.zero P.form.len
theorem formFrom_spec{n:Nat}{all:List Vec}:∀(k j:Nat)(done rest:List Vec),j+k=n->Part n j all done rest->
  Form n (formFrom k j done rest)/\Same n (formFrom k j done rest) all
 | 0,j,done,rest,hj,P=>by
   simp only [formFrom]
   have:j=n:=by omega
   subst this
   exact⟨P.form,P.last⟩
 | k+1,j,done,rest,hj,P=>by
   have C:=column_spec (n:=n) (j:=j) rest P.rlen
   unfold formFrom
   split
   ·rename_i l e
    rw [e] at C
    exact formFrom_spec k (j+1) done l (by omega) (P.skip C)
   ·rename_i q l e
    rw [e] at C
    have cs:=C.same
    simp only [Option.toList_some] at cs
    have lq:q.length=n:=C.olen q (by simp)
    have T:=upright_spec (j:=j) lq (C.one q (by simp)) (fun i h=>Same.zero_at ((Len.one lq).append C.llen) P.rlen cs (fun s hs=>P.rz s hs i h) q (by simp))
    exact formFrom_spec k (j+1) _ l (by omega) (P.take C T)
theorem form_spec{n:Nat}{rows:List Vec}(R:Len n rows):Form n (Tg.form n rows)/\Same n (Tg.form n rows) rows:=
 formFrom_spec n 0 [] rows (by omega) ⟨Form.nil,by simp,R,by intro r _ i h; omega,by simpa using Same.refl⟩
theorem bu{n:Nat}{rows:List Vec}(R:Len n rows):Form n (Tg.form n rows):=(form_spec R).1
theorem dE{n:Nat}{rows:List Vec}(R:Len n rows):Same n (Tg.form n rows) rows:=(form_spec R).2
theorem form_eq{n:Nat}{rows h:List Vec}(R:Len n rows)(H:Form n h)(e:Same n h rows):Tg.form n rows=h:=
 Form.unique (bu R) H ((dE R).trans e.symm)
theorem form_congr{n:Nat}{a b:List Vec}(A:Len n a)(B:Len n b)(e:Same n a b):Tg.form n a=Tg.form n b:=
 form_eq A (bu B) ((dE B).trans e.symm)
structure Lin(n m:Nat)(f:Vec->Vec):Prop where
 len:∀a:Vec,a.length=n->(f a).length=m
 zero:f (Tg.zero n)=Tg.zero m
 pt:∀(a b:Vec)(k:Int),a.length=n->b.length=n->f (plus a (times k b))=plus (f a) (times k (f b))
theorem Len.map{n m:Nat}{f:Vec->Vec}(F:Lin n m f){g:List Vec}(G:Len n g):Len m (g.map f):=by
 intro r hr
 obtain⟨s,hs,rfl⟩:=List.mem_map.1 hr
 exact F.len s (G s hs)
theorem plus_minus{n:Nat}{v r:Vec}(k:Int)(lv:v.length=n)(lr:r.length=n):plus (minus v (times k r)) (times k r)=v:=by
 apply cB (aW (aG lv (aD _ lr)) (aD _ lr)) lv
 intro j; rw [fh _ (aG lv (aD _ lr)) lr,cG _ lv lr]; omega
theorem minus_plus{n:Nat}{v r:Vec}(k:Int)(lv:v.length=n)(lr:r.length=n):minus (plus v (times k r)) (times k r)=v:=by
 apply cB (aG (aW lv (aD _ lr)) (aD _ lr)) lv
 intro j; rw [cG _ (aW lv (aD _ lr)) lr,fh _ lv lr]; omega
theorem Sp.map_iff{n m:Nat}{f:Vec->Vec}(F:Lin n m f):∀{g:List Vec},Len n g->∀{v:Vec},(Sp m (g.map f) v↔∃a,Sp n g a/\v=f a)
 | [],_,v=>by
   constructor
   ·intro h; exact⟨Tg.zero n,rfl,by rw [F.zero]; exact h⟩
   ·rintro⟨a,ha,rfl⟩
    rw [show a=Tg.zero n from ha,F.zero]; rfl
 | r::g,G,v=>by
   have lr:=G.head
   constructor
   ·rintro⟨lv,k,hk⟩
    obtain⟨a,ha,e⟩:=(Sp.map_iff F G.tail).1 hk
    refine⟨Tg.plus a (Tg.times k r),⟨aW ha.len (aD _ lr),k,?_⟩,?_⟩
    ·rw [minus_plus k ha.len lr]; exact ha
    ·rw [F.pt a r k ha.len lr,<- e,plus_minus k lv (F.len r lr)]
   ·rintro⟨a,⟨la,k,hk⟩,rfl⟩
    refine⟨F.len a la,k,?_⟩
    refine(Sp.map_iff F G.tail).2 ⟨_,hk,?_⟩
    have e:=F.pt (Tg.minus a (Tg.times k r)) r k (aG la (aD _ lr)) lr
    rw [plus_minus k la lr] at e
    rw [e,minus_plus k (F.len _ (aG la (aD _ lr))) (F.len r lr)]
theorem dt{a b c d:Vec}(h:a.length=c.length):plus (a++b) (c++d)=plus a c++plus b d:=by
 simp [plus,List.zip_append h]
theorem dC(k:Int)(a b:Vec):times k (a++b)=times k a++times k b:=by simp [times]
theorem dm(m n:Nat):Tg.zero m++Tg.zero n=Tg.zero (m+n):=by simp [Tg.zero]
theorem plus_zero{n:Nat}{v:Vec}(lv:v.length=n):plus v (Tg.zero n)=v:=by
 apply cB (aW lv (aH n)) lv
 intro j; rw [cS lv (aH n),a6]; omega
theorem zero_plus{n:Nat}{v:Vec}(lv:v.length=n):plus (Tg.zero n) v=v:=by
 apply cB (aW (aH n) lv) lv
 intro j; rw [cS (aH n) lv,a6]; omega
theorem eX(n:Nat)(k:Int):times k (Tg.zero n)=Tg.zero n:=by
 apply cB (aD _ (aH n)) (aH n)
 intro j; rw [aM,a6]; omega
theorem plus_zz(n:Nat)(k:Int):plus (Tg.zero n) (times k (Tg.zero n))=Tg.zero n:=by
 rw [eX,plus_zero (aH n)]
theorem cr(v:Vec)(m j:Nat):num (v.drop m) j=num v (m+j):=by
 simp [num,List.getD_eq_getElem?_getD]
theorem eN{v:Vec}{m j:Nat}(h:j<m):num (v.take m) j=num v j:=by
 simp [num,List.getD_eq_getElem?_getD,List.getElem?_take,h]
theorem cI(v:Vec)(m:Nat):isZero (v.take m)=true↔∀j,j<m->num v j=0:=by
 rw [c9]
 constructor
 ·intro h j hj; rw [<- eN hj]; exact h j
 ·intro h j
  rcases Nat.lt_or_ge j m with hj | hj
  ·rw [eN hj]; exact h j hj
  ·exact ba (by simp; omega)
theorem take_zero{m n:Nat}{v:Vec}(lv:v.length=m+n)(h:isZero (v.take m)=true):v=Tg.zero m++v.drop m:=by
 have e:=eq_zero_of_isZero (n:=m) (v:=v.take m) (by simp; omega) h
 rw [<- e,List.take_append_drop]
theorem lead_drop{m n:Nat}{v:Vec}(lv:v.length=m+n)(h:isZero (v.take m)=true)(hv:num v (lead v)≠0):lead v=m+lead (v.drop m):=by
 have h1:=gC hv ((cI v m).1 h)
 have:lead (v.drop m)=lead v - m:=by
  apply gW
  ·rw [cr,show m+(lead v - m)=lead v by omega]; exact hv
  ·intro i hi
   rw [cr]; exact a5 (by omega)
 omega
theorem de(m n:Nat):Lin n (m+n) (fun w=>Tg.zero m++w) where
 len a la:=by simp [aH,la]
 zero:=dm m n
 pt a b k la lb:=by
  rw [dC,dt (by rw [aI]),plus_zz]
theorem Ech.all_behind{N m:Nat}{r:Vec}{h:List Vec}(H:Ech N (r::h))(hr:isZero (r.take m)=true):∀s∈h,isZero (s.take m)=true:=by
 intro s hs
 rw [cI] at hr ⊢
 intro j hj
 have h1:=gC (v:=r) (j:=m) (by have:=H.hpos; omega) hr
 have h2:=H.above s hs
 exact a5 (by omega)
theorem Ech.filter{N:Nat}(m:Nat){h:List Vec}(H:Ech N h):Ech N (h.filter fun r=>isZero (r.take m)):=
 ⟨fun r hr=>H.len r (List.mem_filter.1 hr).1,fun r hr=>H.pos r (List.mem_filter.1 hr).1,H.rise.filter _⟩
theorem Sp.filter_iff{N m:Nat}:∀{h:List Vec},Ech N h->∀{v:Vec},isZero (v.take m)=true->(Sp N (h.filter fun r=>isZero (r.take m)) v↔Sp N h v)
 | [],_,v,_=>Iff.rfl
 | r::h,H,v,hv=>by
   by_cases hr:isZero (r.take m)=true
   ·have e:(r::h).filter (fun r=>isZero (r.take m))=r::h:=by
     rw [List.filter_eq_self]
     intro s hs
     rcases List.mem_cons.1 hs with h1 | h1
     ·rw [h1]; exact hr
     ·exact H.all_behind hr s h1
    rw [e]
   ·rw [List.filter_cons_of_neg (p:=fun(r:Vec)=>isZero (r.take m)) hr,Sp.filter_iff H.tail hv,H.tail_iff]
    have hl:lead r<m:=by
     rcases Nat.lt_or_ge (lead r) m with h1 | h1
     ·exact h1
     ·exfalso; apply hr; rw [cI]
      intro j hj; exact a5 (by omega)
    constructor
    ·exact fun h=>h.1
    ·exact fun h=>⟨h,(cI v m).1 hv _ hl⟩
theorem behind_form{m n:Nat}{h:List Vec}(H:Form (m+n) h):Form n (behind m h):=by
 unfold behind
 have F:=H.toEch.filter m
 have z:∀r∈h.filter (fun r=>isZero (r.take m)),isZero (r.take m)=true:=fun r hr=>(List.mem_filter.1 hr).2
 have ld:∀r∈h.filter (fun r=>isZero (r.take m)),lead r=m+lead (r.drop m):=fun r hr=>
  lead_drop (F.len r hr) (z r hr) (by have:=F.pos r hr; omega)
 refine⟨⟨?_,?_,?_⟩,?_⟩
 ·intro r hr
  obtain⟨s,hs,rfl⟩:=List.mem_map.1 hr
  have:=F.len s hs
  simp; omega
 ·intro r hr
  obtain⟨s,hs,rfl⟩:=List.mem_map.1 hr
  rw [cr,<- ld s hs]; exact F.pos s hs
 ·rw [List.pairwise_map]
  refine List.Pairwise.imp_of_mem ?_ F.rise
  intro a b ha hb hab
  rw [ld a ha,ld b hb] at hab; omega
 ·rw [List.pairwise_map]
  refine List.Pairwise.imp_of_mem ?_ (H.red.filter _)
  intro a b ha hb hab
  rw [cr,cr,<- ld b hb]; exact hab
theorem behind_iff{m n:Nat}{h:List Vec}(H:Ech (m+n) h){w:Vec}(lw:w.length=n):Sp n (behind m h) w↔Sp (m+n) h (Tg.zero m++w):=by
 have hz:isZero ((Tg.zero m++w).take m)=true:=by
  rw [List.take_left' (aH m)]; exact isZero_zero m
 rw [<- Sp.filter_iff H hz]
 unfold behind
 generalize hg:h.filter (fun r=>isZero (r.take m))=g
 have z:∀r∈g,r=Tg.zero m++r.drop m:=by
  intro r hr
  rw [<- hg] at hr
  exact take_zero (H.len r (List.mem_filter.1 hr).1) (List.mem_filter.1 hr).2
 have lg:Len n (g.map fun r=>r.drop m):=by
  intro r hr
  obtain⟨s,hs,rfl⟩:=List.mem_map.1 hr
  rw [<- hg] at hs
  have:=H.len s (List.mem_filter.1 hs).1
  simp; omega
 have e:g=(g.map fun r=>r.drop m).map (fun w=>Tg.zero m++w):=by
  rw [List.map_map]
  conv=>lhs; rw [<- List.map_id g]
  apply List.map_congr_left
  intro r hr
  exact z r hr
 conv=>rhs; rw [e]
 rw [Sp.map_iff (de m n) lg]
 constructor
 ·intro h; exact⟨w,h,rfl⟩
 ·rintro⟨a,ha,ea⟩
  rw [List.append_cancel_left ea]; exact ha
theorem lin_twice(n:Nat):Lin n (2*n) (fun r=>r++r) where
 len a la:=by simp [la]; omega
 zero:=by rw [dm,Nat.two_mul]
 pt a b k la lb:=by
  rw [dC,dt (by rw [aI,la,lb])]
theorem lin_ahead(n:Nat):Lin n (2*n) (fun r=>r++Tg.zero n) where
 len a la:=by simp [la,aH]; omega
 zero:=by rw [dm,Nat.two_mul]
 pt a b k la lb:=by
  rw [dC,dt (by rw [aI,la,lb]),plus_zz]
theorem meet_rows_len{n:Nat}{g h:List Vec}(G:Len n g)(H:Len n h):Len (2*n) ((g.map fun(r:Vec)=>r++r)++h.map fun(r:Vec)=>r++Tg.zero n):=
 (G.map (lin_twice n)).append (H.map (lin_ahead n))
theorem meet_form{n:Nat}{g h:List Vec}(G:Len n g)(H:Len n h):Form n (meet n g h):=by
 unfold meet
 have:=bu (meet_rows_len G H)
 rw [Nat.two_mul] at this ⊢
 exact behind_form this
theorem foldl_dot(l:List (Int × Int))(s:Int):l.foldl (fun(s:Int)(x:Int × Int)=>s+x.1*x.2) s=s+l.foldl (fun(s:Int)(x:Int × Int)=>s+x.1*x.2) 0:=by
 induction l generalizing s with
 | nil=>simp
 | cons x l ih=>rw [List.foldl_cons,List.foldl_cons,ih,ih (0+_)]; omega
theorem dH(b:Vec):dot [] b=0:=by simp [dot]
theorem cP(b:Vec):dot b []=0:=by simp [dot]
theorem b9(x y:Int)(a b:Vec):dot (x::a) (y::b)=x*y+dot a b:=by
 simp only [dot,List.zip_cons_cons,List.foldl_cons]
 rw [foldl_dot]; omega
theorem ai:∀(a b:Vec),dot a b=dot b a
 | [],b=>by rw [dH,cP]
 | a,[]=>by rw [dH,cP]
 | x::a,y::b=>by rw [b9,b9,ai a b,Int.mul_comm]
theorem dot_plus:∀(r a b:Vec),a.length=b.length->dot r (plus a b)=dot r a+dot r b
 | [],a,b,_=>by simp [dH]
 | x::r,[],[],_=>by simp [plus,cP]
 | x::r,y::a,z::b,h=>by
   have ih:=dot_plus r a b (by simpa using h)
   have e:plus (y::a) (z::b)=(y+z)::plus a b:=by simp [plus]
   rw [e,b9,b9,b9,ih]; grind
theorem cA:∀(r:Vec)(k:Int)(a:Vec),dot r (times k a)=k*dot r a
 | [],k,a=>by simp [dH]
 | x::r,k,[]=>by simp [times,cP]
 | x::r,k,y::a=>by
   have ih:=cA r k a
   have e:times k (y::a)=(k*y)::times k a:=by simp [times]
   rw [e,b9,b9,ih]; grind
theorem ip{n:Nat}(r:Vec){a b:Vec}(k:Int)(la:a.length=n)(lb:b.length=n):dot r (plus a (times k b))=dot r a+k*dot r b:=by
 rw [dot_plus _ _ _ (by rw [la,aI,lb]),cA]
theorem fm(r:Vec)(n:Nat):dot r (Tg.zero n)=0:=by
 have h:=cA r 0 (Tg.zero n)
 rw [eX] at h; omega
theorem b5(n j:Nat):(unit n j).length=n:=by simp [unit]
theorem cF{n j i:Nat}(h:i<n):num (unit n j) i=if i=j then 1 else 0:=by
 simp [num,unit,List.getD_eq_getElem?_getD,h]
theorem unit_succ_zero(n:Nat):unit (n+1) 0=1::Tg.zero n:=by
 apply cB (b5 _ _) (by simp [aH])
 intro i
 rcases Nat.lt_or_ge i (n+1) with h | h
 ·rw [cF h]
  cases i with
  | zero=>simp [num]
  | succ i=>rw [bb,a6]; simp
 ·rw [ba (by rw [b5]; exact h),ba (by simp [aH]; exact h)]
theorem unit_succ_succ(n j:Nat):unit (n+1) (j+1)=0::unit n j:=by
 apply cB (b5 _ _) (by simp [b5])
 intro i
 rcases Nat.lt_or_ge i (n+1) with h | h
 ·rw [cF h]
  cases i with
  | zero=>simp [num]
  | succ i=>rw [bb,cF (by omega)]; simp
 ·rw [ba (by rw [b5]; exact h),ba (by simp [b5]; exact h)]
theorem dot_unit:∀(r:Vec)(j:Nat),j<r.length->dot r (unit r.length j)=num r j
 | [],j,h=>by simp at h
 | x::r,0,_=>by rw [List.length_cons,unit_succ_zero,b9,fm]; simp [num]
 | x::r,j+1,h=>by
   rw [List.length_cons,unit_succ_succ,b9,dot_unit r j (by simpa using h)]; simp [num]
theorem gB{n j:Nat}(h:j<n):lead (unit n j)=j:=by
 apply gW
 ·rw [cF h]; simp
 ·intro i hi
  rw [cF (by omega),if_neg (by omega)]
def units(n:Nat):List Vec:=(List.range n).map (unit n)
theorem d4(n:Nat):Ech n (units n):=by
 refine⟨?_,?_,?_⟩
 ·intro r hr
  obtain⟨j,hj,rfl⟩:=List.mem_map.1 hr
  exact b5 n j
 ·intro r hr
  obtain⟨j,hj,rfl⟩:=List.mem_map.1 hr
  have hj:=List.mem_range.1 hj
  rw [gB hj,cF hj]; simp
 ·unfold units
  rw [List.pairwise_map]
  refine List.Pairwise.imp_of_mem ?_ List.pairwise_lt_range
  intro a b ha hb hab
  rw [gB (List.mem_range.1 ha),gB (List.mem_range.1 hb)]; exact hab
theorem units_all{n:Nat}{v:Vec}(lv:v.length=n):Sp n (units n) v:=by
 have H:=d4 n
 rw [<- has_iff H lv]
 have D:=ck H lv
 unfold has leftOf
 rw [c9]
 intro j
 rcases Nat.lt_or_ge j n with h | h
 ·have:=D.red (unit n j) (List.mem_map_of_mem (List.mem_range.2 h))
  rw [gB h,cF h] at this
  simp at this
  omega
 ·exact ba (by rw [D.len]; exact h)
theorem zero_map(h:List Vec):Tg.zero h.length=h.map (fun _=>(0:Int)):=by
 simp [Tg.zero,List.map_const']
theorem gU{n:Nat}(h:List Vec)(H:Len n h):Lin n (h.length+n) (fun x=>(h.map fun(r:Vec)=>dot r x)++x) where
 len a la:=by simp [la]
 zero:=by
  rw [<- dm]
  congr 1
  rw [show Tg.zero h.length=h.map (fun _=>(0:Int)) from zero_map h]
  apply List.map_congr_left
  intro r hr; exact fm r n
 pt a b k la lb:=by
  rw [dC,dt (by simp [aI])]
  congr 1
  have e:plus (h.map fun(r:Vec)=>dot r a) (times k (h.map fun(r:Vec)=>dot r b))=h.map fun(r:Vec)=>dot r a+k*dot r b:=by
   rw [times,List.map_map,plus,List.zip_map',List.map_map]
   rfl
  rw [e]
  apply List.map_congr_left
  intro r hr
  exact ip r k la lb
theorem eC{n:Nat}{h:List Vec}(H:Len n h) :
  ((List.range n).map fun(j:Nat)=>(h.map fun(r:Vec)=>num r j)++unit n j)=(units n).map (fun x=>(h.map fun(r:Vec)=>dot r x)++x):=by
 unfold units
 rw [List.map_map]
 apply List.map_congr_left
 intro j hj
 have hj:=List.mem_range.1 hj
 show _=(h.map fun(r:Vec)=>dot r (unit n j))++unit n j
 congr 1
 apply List.map_congr_left
 intro r hr
 have:=H r hr
 have h2:=dot_unit r j (by omega)
 rw [this] at h2
 exact h2.symm
theorem cb{n:Nat}{h:List Vec}(H:Len n h):Form n (across n h):=by
 unfold across
 rw [eC H]
 exact behind_form (bu ((d4 n).len.map (gU h H)))
theorem eh{n:Nat}{h:List Vec}(H:Len n h)(v:Vec):Sp n (across n h) v↔v.length=n/\∀r∈h,dot r v=0:=by
 have R:=(d4 n).len.map (gU h H)
 have key:∀w:Vec,w.length=n->(Sp n (across n h) w↔∃a,a.length=n/\Tg.zero h.length++w=(h.map fun(r:Vec)=>dot r a)++a):=by
  intro w lw
  unfold across
  rw [eC H,behind_iff (bu R).toEch lw,dE R,Sp.map_iff (gU h H) (d4 n).len]
  constructor
  ·rintro⟨a,ha,e⟩; exact⟨a,ha.len,e⟩
  ·rintro⟨a,ha,e⟩; exact⟨a,units_all ha,e⟩
 have fin:∀w:Vec,w.length=n->(Sp n (across n h) w↔∀r∈h,dot r w=0):=by
  intro w lw
  rw [key w lw]
  constructor
  ·rintro⟨a,la,e⟩ r hr
   have e1:=List.append_inj e (by simp [aH])
   rw [e1.2]
   have e2:∀x∈(h.map fun(r:Vec)=>dot r a),x=0:=by
    rw [<- e1.1]
    intro x hx
    exact List.eq_of_mem_replicate hx
   exact e2 _ (List.mem_map_of_mem hr)
  ·intro hr
   refine⟨w,lw,?_⟩
   congr 1
   rw [show Tg.zero h.length=h.map (fun _=>(0:Int)) from zero_map h]
   apply List.map_congr_left
   intro r h1; exact(hr r h1).symm
 constructor
 ·intro hv; exact⟨hv.len,(fin v hv.len).1 hv⟩
 ·rintro⟨lv,hv⟩; exact(fin v lv).2 hv
theorem across_sp{n:Nat}{h:List Vec}(H:Len n h)(v:Vec):Sp n (across n h) v↔v.length=n/\∀u,Sp n h u->dot u v=0:=by
 rw [eh H]
 constructor
 ·rintro⟨lv,hv⟩
  refine⟨lv,fun u hu=>?_⟩
  refine Sp.le_of (P:=fun u=>dot u v=0) (by rw [ai,fm]) ?_ H hv hu
  intro a b k la lb ha hb
  rw [ai,ip _ _ la lb,ai v a,ai v b,ha,hb]; omega
 ·rintro⟨lv,hv⟩
  exact⟨lv,fun r hr=>hv r (Sp.mem H hr)⟩
theorem rootFrom_spec(n:Nat):∀(k r:Nat),r*r<=n->n<(r+2^k)*(r+2^k)->rootFrom n k r*rootFrom n k r<=n/\n<(rootFrom n k r+1)*(rootFrom n k r+1)
 | 0,r,h1,h2=>by simpa [rootFrom] using⟨h1,h2⟩
 | k+1,r,h1,h2=>by
   unfold rootFrom
   split
   ·rename_i h
    refine rootFrom_spec n k _ h ?_
    rwa [Nat.pow_succ,Nat.mul_two,<- Nat.add_assoc] at h2
   ·rename_i h
    exact rootFrom_spec n k _ h1 (by omega)
theorem root_spec(n:Nat):root n*root n<=n/\n<(root n+1)*(root n+1):=by
 unfold root
 refine rootFrom_spec n _ 0 (by omega) ?_
 rw [Nat.zero_add,<- Nat.pow_add]
 have h1:n<2^(n.log2+1):=Nat.lt_log2_self
 have h2:2^(n.log2+1)<=2^(n.log2/2+1+(n.log2/2+1)):=Nat.pow_le_pow_right (by omega) (by omega)
 omega
theorem le_root{x:Int}{m:Int}(h:x*x<=m):x<=(root m.toNat:Nat)/\-((root m.toNat:Nat):Int)<=x:=by
 have h1:=(root_spec m.toNat).2
 have h0:(0:Int)<=x*x:=by
  rcases Int.le_total 0 x with h | h
  ·exact Int.mul_nonneg h h
  ·exact Int.mul_nonneg_of_nonpos_of_nonpos h h
 have e:x.natAbs*x.natAbs<=m.toNat:=by
  have:=@Int.natAbs_mul_self x
  omega
 have h2:x.natAbs<root m.toNat+1:=Nat.mul_self_lt_mul_self_iff.1 (by omega)
 omega
theorem dX:lengthOf []=0:=rfl
theorem bx(x:Int)(a:Vec):lengthOf (x::a)=x*x+lengthOf a:=b9 x x a a
theorem fv(x:Int):0<=x*x:=by
 rcases Int.le_total 0 x with h | h
 ·exact Int.mul_nonneg h h
 ·exact Int.mul_nonneg_of_nonpos_of_nonpos h h
theorem cx:∀(a:Vec),0<=lengthOf a
 | []=>by simp [dX]
 | x::a=>by rw [bx]; have:=cx a; have:=fv x; omega
theorem lengthOf_append:∀(a b:Vec),lengthOf (a++b)=lengthOf a+lengthOf b
 | [],b=>by simp [dX]
 | x::a,b=>by rw [List.cons_append,bx,bx,lengthOf_append a b]; omega
theorem num_sq_le:∀(a:Vec)(j:Nat),num a j*num a j<=lengthOf a
 | [],j=>by simp [hZ,dX]
 | x::a,0=>by rw [bx,cW]; have:=cx a; omega
 | x::a,j+1=>by rw [bx,bb]; have:=num_sq_le a j; have:=fv x; omega
theorem lengthOf_times(k:Int)(a:Vec):lengthOf (times k a)=k*k*lengthOf a:=by
 unfold lengthOf
 rw [cA,ai,cA]; grind
theorem lengthOf_neg(a:Vec):lengthOf (times (-1) a)=lengthOf a:=by rw [lengthOf_times]; omega
theorem isZero_of_length{a:Vec}(h:lengthOf a<=0):isZero a=true:=by
 rw [c9]
 intro j
 have h1:=num_sq_le a j
 have h2:=fv (num a j)
 have:num a j*num a j=0:=by omega
 rcases Int.mul_eq_zero.1 this with h | h <;> exact h
theorem squares_split(v:Vec){i k j:Nat}(h1:i<=k)(h2:k<=j):squares v i j=squares v i k+squares v k j:=by
 unfold squares
 rw [<- lengthOf_append]
 congr 1
 rw [show j - i=(k - i)+(j - k) by omega,List.take_add,List.drop_drop,show i+(k - i)=k by omega]
theorem squares_all{n:Nat}{v:Vec}(lv:v.length=n):squares v 0 n=lengthOf v:=by
 unfold squares
 rw [List.drop_zero,Nat.sub_zero,<- lv,List.take_length]
theorem squares_congr{v w:Vec}{i j:Nat}(hl:v.length=w.length)(h:∀k,i<=k->k<j->num v k=num w k):squares v i j=squares w i j:=by
 unfold squares
 congr 1
 apply bn
 ·simp [hl]
 ·intro k
  rcases Nat.lt_or_ge k (j - i) with hk | hk
  ·rw [eN hk,eN hk,cr,cr]; exact h _ (by omega) (by omega)
  ·rw [ba (by simp; omega),ba (by simp; omega)]
theorem num_sq_le_squares(v:Vec){i p j:Nat}(h1:i<=p)(h2:p<j):num v p*num v p<=squares v i j:=by
 unfold squares
 have:=num_sq_le ((v.drop i).take (j - i)) (p - i)
 rw [eN (by omega),cr,show i+(p - i)=p by omega] at this
 exact this
theorem minus_plus_times{n:Nat}{w v r:Vec}(c:Int)(lw:w.length=n)(lv:v.length=n)(lr:r.length=n):minus w (plus v (times c r))=minus (minus w v) (times c r):=by
 apply cB (aG lw (aW lv (aD _ lr))) (aG (aG lw lv) (aD _ lr))
 intro j
 rw [aa lw (aW lv (aD _ lr)),fh _ lv lr,cG _ (aG lw lv) lr,aa lw lv]; omega
theorem gS{n:Nat}:∀{h:List Vec},Ech n h->∀{v:Vec}{j:Nat}(b:Int),v.length=n->(∀r∈h,j<=lead r)->j<=n->∀(w:Vec),
  (w∈walk h v j b↔w.length=n/\Sp n h (minus w v)/\squares w j n<=b)
 | [],_,v,j,b,lv,_,_,w=>by
   unfold walk
   constructor
   ·intro hw
    split at hw
    ·rename_i hb
     simp only [List.mem_cons,List.not_mem_nil,or_false] at hw
     subst hw
     refine⟨lv,?_,by rwa [lv] at hb⟩
     show _=_
     apply cB (aG lv lv) (aH n)
     intro j; rw [aa lv lv,a6]; omega
    ·simp at hw
   ·rintro⟨lw,hs,hb⟩
    have e:=cj lw lv hs
    subst e
    rw [lv,if_pos hb]; simp
 | r::h,H,v,j,b,lv,hj,jn,w=>by
   have lr:=H.len.head
   have hp:=hj r List.mem_cons_self
   have pn:=H.lead_lt (List.mem_cons_self (a:=r) (l:=h))
   have p0:=H.hpos
   unfold walk
   dsimp only
   have ih:=fun(c:Int)=>gS H.tail (v:=plus v (times c r)) (j:=lead r) (b - squares v j (lead r)) (aW lv (aD _ lr)) (fun s hs=>Nat.le_of_lt (H.above s hs)) (by omega) w
   have ahead:∀c:Int,w.length=n->Sp n h (minus (minus w v) (times c r))->squares w j (lead r)=squares v j (lead r)/\num w (lead r)=num v (lead r)+c*num r (lead r):=by
    intro c lw hc
    constructor
    ·refine squares_congr (by rw [lw,lv]) ?_
     intro k _ hk
     have:=H.below hc (Nat.le_of_lt hk)
     rw [cG _ (aG lw lv) lr,aa lw lv,a5 hk] at this
     omega
    ·have:=H.below hc (Nat.le_refl _)
     rw [cG _ (aG lw lv) lr,aa lw lv] at this
     omega
   constructor
   ·intro hw
    split at hw
    ·simp at hw
    ·rename_i hr
     obtain⟨i,hi,hw⟩:=List.mem_flatMap.1 hw
     obtain⟨lw,hs,hb⟩:=(ih _).1 hw
     rw [minus_plus_times _ lw lv lr] at hs
     refine⟨lw,⟨aG lw lv,_,hs⟩,?_⟩
     rw [squares_split w hp (Nat.le_of_lt pn),(ahead _ lw hs).1]
     omega
   ·rintro⟨lw,⟨_,c,hc⟩,hb⟩
    have ha:=ahead c lw hc
    rw [squares_split w hp (Nat.le_of_lt pn),ha.1] at hb
    have h1:=num_sq_le_squares w (Nat.le_refl (lead r)) pn
    have h0:=fv (num w (lead r))
    rw [if_neg (by omega)]
    have hroot:=le_root (x:=num w (lead r)) (m:=b - squares v j (lead r)) (by omega)
    rw [ha.2] at hroot
    generalize ((root (b - squares v j (lead r)).toNat:Nat):Int)=s at hroot ⊢
    have k1:-c<=(s+num v (lead r))/num r (lead r):=by
     rw [Int.le_ediv_iff_mul_le p0,Int.neg_mul]; omega
    have k2:c<=(s - num v (lead r))/num r (lead r):=by
     rw [Int.le_ediv_iff_mul_le p0]; omega
    generalize (s+num v (lead r))/num r (lead r)=lo at k1 ⊢
    generalize (s - num v (lead r))/num r (lead r)=hi at k2 ⊢
    rw [List.mem_flatMap]
    refine⟨(c+lo).toNat,List.mem_range.2 (by omega),?_⟩
    have e:-lo+((c+lo).toNat:Int)=c:=by omega
    rw [e]
    refine(ih c).2 ⟨lw,?_,by omega⟩
    rw [minus_plus_times _ lw lv lr]; exact hc
theorem nodup_walk{n:Nat}:∀{h:List Vec},Ech n h->∀{v:Vec}{j:Nat}(b:Int),v.length=n->(∀r∈h,j<=lead r)->j<=n->(walk h v j b).Nodup
 | [],_,v,j,b,lv,_,_=>by
   unfold walk
   split <;> simp
 | r::h,H,v,j,b,lv,hj,jn=>by
   have lr:=H.len.head
   have pn:=H.lead_lt (List.mem_cons_self (a:=r) (l:=h))
   have p0:=H.hpos
   unfold walk
   dsimp only
   split
   ·simp
   ·rw [List.nodup_iff_pairwise_ne,List.pairwise_flatMap]
    have la:=fun(c:Int)=>aW lv (aD c lr)
    have lb:∀s∈h,lead r<=lead s:=fun s hs=>Nat.le_of_lt (H.above s hs)
    constructor
    ·intro i _
     exact nodup_walk H.tail _ (la _) lb (by omega)
    ·refine List.Pairwise.imp ?_ List.pairwise_lt_range
     intro i k hik x hx y hy e
     subst e
     obtain⟨lx,hs,_⟩:=(gS H.tail _ (la _) lb (by omega) x).1 hx
     obtain⟨_,ht,_⟩:=(gS H.tail _ (la _) lb (by omega) x).1 hy
     have e1:=H.below hs (Nat.le_refl _)
     have e2:=H.below ht (Nat.le_refl _)
     rw [aa lx (la _),fh _ lv lr] at e1 e2
     generalize -((((root (b - squares v j (lead r)).toNat:Nat):Int)+num v (lead r))/num r (lead r))=lo at e1 e2
     have:(lo+(i:Int))*num r (lead r)<(lo+(k:Int))*num r (lead r):=Int.mul_lt_mul_of_pos_right (by omega) p0
     omega
theorem gA{n:Nat}{h:List Vec}(H:Ech n h){v:Vec}(b:Int)(lv:v.length=n)(w:Vec):w∈walk h v 0 b↔w.length=n/\Sp n h (minus w v)/\lengthOf w<=b:=by
 rw [gS H b lv (fun _ _=>Nat.zero_le _) (Nat.zero_le _)]
 constructor
 ·rintro⟨lw,hs,hb⟩; rw [squares_all lw] at hb; exact⟨lw,hs,hb⟩
 ·rintro⟨lw,hs,hb⟩; exact⟨lw,hs,by rw [squares_all lw]; exact hb⟩
theorem nodup_walk0{n:Nat}{h:List Vec}(H:Ech n h){v:Vec}(b:Int)(lv:v.length=n):(walk h v 0 b).Nodup:=
 nodup_walk H b lv (fun _ _=>Nat.zero_le _) (Nat.zero_le _)
theorem dI:∀(a:Vec),before a a=false
 | []=>rfl
 | x::a=>by simp [before,dI a]
theorem before_trans:∀{a b c:Vec},before a b=true->before b c=true->before a c=true
 | [],_,_,h,_=>by simp [before] at h
 | _::_,[],_,h,_=>by simp [before] at h
 | _::_,_::_,[],_,h=>by simp [before] at h
 | x::a,y::b,z::c,h,k=>by
   simp only [before,Bool.or_eq_true,decide_eq_true_eq,Bool.and_eq_true,beq_iff_eq] at h k ⊢
   rcases h with h | ⟨h,h'⟩ <;> rcases k with k | ⟨k,k'⟩
   ·left; omega
   ·left; omega
   ·left; omega
   ·right; exact⟨by omega,before_trans h' k'⟩
theorem before_total:∀{a b:Vec},a.length=b.length->a≠b->before a b=false->before b a=true
 | [],[],_,h,_=>absurd rfl h
 | x::a,y::b,hl,hn,hb=>by
   simp only [before,Bool.or_eq_false_iff,decide_eq_false_iff_not,Bool.and_eq_false_iff,Bool.or_eq_true,decide_eq_true_eq,Bool.and_eq_true,beq_iff_eq,beq_eq_false_iff_ne] at hb ⊢
   by_cases e:x=y
   ·subst e
    right
    refine⟨rfl,before_total (by simpa using hl) (fun e=>hn (by rw [e])) ?_⟩
    rcases hb.2 with h | h
    ·exact absurd rfl h
    ·exact h
   ·left; omega
theorem sooner_irrefl(a:Vec):sooner a a=false:=by simp [sooner,dI]
theorem sooner_trans{a b c:Vec}(h:sooner a b=true)(k:sooner b c=true):sooner a c=true:=by
 simp only [sooner,Bool.or_eq_true,decide_eq_true_eq,Bool.and_eq_true,beq_iff_eq] at h k ⊢
 rcases h with h | ⟨h,h'⟩ <;> rcases k with k | ⟨k,k'⟩
 ·left; omega
 ·left; omega
 ·left; omega
 ·right; exact⟨by omega,before_trans h' k'⟩
theorem sooner_total{a b:Vec}(hl:a.length=b.length)(hn:a≠b)(h:sooner a b=false):sooner b a=true:=by
 simp only [sooner,Bool.or_eq_false_iff,decide_eq_false_iff_not,Bool.and_eq_false_iff,Bool.or_eq_true,decide_eq_true_eq,Bool.and_eq_true,beq_iff_eq,beq_eq_false_iff_ne] at h ⊢
 by_cases e:lengthOf a=lengthOf b
 ·right
  refine⟨e.symm,before_total hl hn ?_⟩
  rcases h.2 with h | h
  ·exact absurd e h
  ·exact h
 ·left; omega
theorem insertBy_perm(f:Vec->Vec->Bool)(x:Vec):∀(l:List Vec),(insertBy f x l).Perm (x::l)
 | []=>List.Perm.refl _
 | y::l=>by
   unfold insertBy
   split
   ·exact List.Perm.refl _
   ·exact(List.Perm.cons y (insertBy_perm f x l)).trans (List.Perm.swap x y l)
theorem dr(f:Vec->Vec->Bool):∀(l:List Vec),(sortBy f l).Perm l
 | []=>List.Perm.refl _
 | x::l=>by
   show(insertBy f x (sortBy f l)).Perm (x::l)
   exact(insertBy_perm f x _).trans (List.Perm.cons x (dr f l))
structure Order(n:Nat)(f:Vec->Vec->Bool):Prop where
 trans:∀{a b c:Vec},f a b=true->f b c=true->f a c=true
 irrefl:∀(a:Vec),f a a=false
 total:∀{a b:Vec},a.length=n->b.length=n->a≠b->f a b=false->f b a=true
theorem order_before(n:Nat):Order n before:=⟨before_trans,dI,fun la lb=>before_total (la.trans lb.symm)⟩
theorem order_sooner(n:Nat):Order n sooner:=⟨sooner_trans,sooner_irrefl,fun la lb=>sooner_total (la.trans lb.symm)⟩
theorem insertBy_sorted{n:Nat}{f:Vec->Vec->Bool}(F:Order n f){x:Vec}(lx:x.length=n):∀{l:List Vec},Len n l->x∉l->l.Pairwise (fun a b=>f a b=true)->(insertBy f x l).Pairwise (fun a b=>f a b=true)
 | [],_,_,_=>by simp [insertBy]
 | y::l,L,hx,hp=>by
   have hp':=List.pairwise_cons.1 hp
   unfold insertBy
   split
   ·rename_i h
    refine List.pairwise_cons.2 ⟨?_,hp⟩
    intro z hz
    rcases List.mem_cons.1 hz with e | e
    ·rw [e]; exact h
    ·exact F.trans h (hp'.1 z e)
   ·rename_i h
    refine List.pairwise_cons.2 ⟨?_,insertBy_sorted F lx L.tail (fun e=>hx (List.mem_cons_of_mem _ e)) hp'.2⟩
    intro z hz
    rcases List.mem_cons.1 ((insertBy_perm f x l).mem_iff.1 hz) with e | e
    ·rw [e]
     exact F.total lx L.head (fun e=>hx (by rw [e]; exact List.mem_cons_self)) (by simpa using h)
    ·exact hp'.1 z e
theorem sortBy_sorted{n:Nat}{f:Vec->Vec->Bool}(F:Order n f):∀{l:List Vec},Len n l->l.Nodup->(sortBy f l).Pairwise (fun a b=>f a b=true)
 | [],_,_=>List.Pairwise.nil
 | x::l,L,hn=>by
   have hn':=List.nodup_cons.1 hn
   refine insertBy_sorted F L.head (L.tail.perm (dr f l).symm) ?_ (sortBy_sorted F L.tail hn'.2)
   intro h
   exact hn'.1 ((dr f l).mem_iff.1 h)
theorem sorted_unique{n:Nat}{f:Vec->Vec->Bool}(F:Order n f):∀{a b:List Vec},a.Pairwise (fun a b=>f a b=true)->b.Pairwise (fun a b=>f a b=true)->(∀v,v∈a↔v∈b)->a=b
 | [],[],_,_,_=>rfl
 | [],y::b,_,_,h=>by have:=(h y).2 List.mem_cons_self; simp at this
 | x::a,[],_,_,h=>by have:=(h x).1 List.mem_cons_self; simp at this
 | x::a,y::b,ha,hb,h=>by
   have ha':=List.pairwise_cons.1 ha
   have hb':=List.pairwise_cons.1 hb
   have e:x=y:=by
    rcases List.mem_cons.1 ((h x).1 List.mem_cons_self) with e | e
    ·exact e
    ·rcases List.mem_cons.1 ((h y).2 List.mem_cons_self) with e' | e'
     ·exact e'.symm
     ·have h1:=F.trans (hb'.1 x e) (ha'.1 y e')
      rw [F.irrefl] at h1; exact absurd h1 (by simp)
   subst e
   rw [sorted_unique F ha'.2 hb'.2]
   intro v
   have hv:=h v
   simp only [List.mem_cons] at hv
   constructor
   ·intro m
    rcases hv.1 (Or.inr m) with e | e
    ·subst e
     have:=ha'.1 v m
     rw [F.irrefl] at this; exact absurd this (by simp)
    ·exact e
   ·intro m
    rcases hv.2 (Or.inr m) with e | e
    ·subst e
     have:=hb'.1 v m
     rw [F.irrefl] at this; exact absurd this (by simp)
    ·exact e
theorem mem_sortBy{f:Vec->Vec->Bool}{l:List Vec}{v:Vec}:v∈sortBy f l↔v∈l:=(dr f l).mem_iff
theorem foldl_min_spec:∀(l:List Int)(a:Int),(l.foldl min a=a\/l.foldl min a∈l)/\l.foldl min a<=a/\∀x∈l,l.foldl min a<=x
 | [],a=>⟨Or.inl rfl,Int.le_refl a,by simp⟩
 | y::l,a=>by
   rw [List.foldl_cons]
   obtain⟨h1,h2,h3⟩:=foldl_min_spec l (min a y)
   refine⟨?_,by omega,?_⟩
   ·rcases h1 with h | h
    ·rcases Int.le_total a y with h' | h'
     ·left; rw [h]; omega
     ·right; rw [h,show min a y=y by omega]; exact List.mem_cons_self
    ·right; exact List.mem_cons_of_mem _ h
   ·intro x hx
    rcases List.mem_cons.1 hx with e | e
    ·subst e; omega
    ·exact h3 x e
theorem leastLength_spec{l:List Vec}(h:l≠[]):(∃v∈l,lengthOf v=leastLength l)/\∀v∈l,leastLength l<=lengthOf v:=by
 unfold leastLength
 cases l with
 | nil=>exact absurd rfl h
 | cons r l=>
   obtain⟨h1,h2,h3⟩:=foldl_min_spec ((r::l).map lengthOf) (lengthOf ((r::l).headD []))
   constructor
   ·rcases h1 with e | e
    ·exact⟨r,List.mem_cons_self,e.symm⟩
    ·obtain⟨v,hv,ev⟩:=List.mem_map.1 e
     exact⟨v,hv,ev⟩
   ·intro v hv; exact h3 _ (List.mem_map_of_mem hv)
theorem grow_spec(f:Int->List Vec):∀(k:Nat)(b:Int),∃c,grow f k b=f c/\(f c≠[]\/c=2^k*(b+1) - 1)
 | 0,b=>⟨b,rfl,Or.inr (by omega)⟩
 | k+1,b=>by
   unfold grow
   dsimp only
   split
   ·obtain⟨c,e,h⟩:=grow_spec f k (2*b+1)
    refine⟨c,e,h.imp id ?_⟩
    intro e
    rw [e,Int.pow_succ,show(2*b+1+1:Int)=2*(b+1) by omega,Int.mul_assoc]
   ·rename_i h
    exact⟨b,rfl,Or.inl (by simpa using h)⟩
theorem grow_least{S:Vec->Prop}{f:Int->List Vec}(hf:∀b w,w∈f b↔S w/\lengthOf w<=b)(k:Nat)(b:Int){w0:Vec}(h0:S w0)(hb:lengthOf w0<=2^k*(b+1) - 1) :
  (∃v,S v/\lengthOf v=leastLength (grow f k b))/\(∀v,S v->leastLength (grow f k b)<=lengthOf v)/\(∃c,grow f k b=f c)/\
  ∀v,(v∈grow f k b/\lengthOf v=leastLength (grow f k b))↔(S v/\lengthOf v=leastLength (grow f k b)):=by
 obtain⟨c,e,h⟩:=grow_spec f k b
 rw [e]
 have hne:f c≠[]:=by
  rcases h with h | h
  ·exact h
  ·intro h1
   have:=(hf c w0).2 ⟨h0,by omega⟩
   rw [h1] at this; simp at this
 obtain⟨⟨v,hv,ev⟩,hmin⟩:=leastLength_spec hne
 have hvc:=(hf c v).1 hv
 refine⟨⟨v,hvc.1,ev⟩,?_,⟨c,rfl⟩,?_⟩
 ·intro u hu
  rcases Int.le_total (lengthOf u) c with h | h
  ·exact hmin u ((hf c u).2 ⟨hu,h⟩)
  ·omega
 ·intro u
  constructor
  ·rintro⟨h1,h2⟩; exact⟨((hf c u).1 h1).1,h2⟩
  ·rintro⟨h1,h2⟩; exact⟨(hf c u).2 ⟨h1,by omega⟩,h2⟩
theorem lt_pow(L:Nat):(L:Int)<2^(L.log2+1):=by
 have h:L<2^(L.log2+1):=Nat.lt_log2_self
 exact_mod_cast h
structure IsLeast(S:Vec->Prop)(x:Int):Prop where
 some:∃v,S v/\lengthOf v=x
 le:∀v,S v->x<=lengthOf v
theorem IsLeast.unique{S:Vec->Prop}{x y:Int}(h:IsLeast S x)(k:IsLeast S y):x=y:=by
 obtain⟨v,hv,ev⟩:=h.some
 obtain⟨w,hw,ew⟩:=k.some
 have:=h.le w hw
 have:=k.le v hv
 omega
theorem mem_others{n:Nat}{h:List Vec}(H:Ech n h)(b:Int)(w:Vec):w∈others h n b↔(Sp n h w/\isZero w=false)/\lengthOf w<=b:=by
 unfold others
 rw [List.mem_filter,gA H b (aH n)]
 constructor
 ·rintro⟨⟨lw,hs,hb⟩,hz⟩
  rw [c7 lw] at hs
  exact⟨⟨hs,by simpa using hz⟩,hb⟩
 ·rintro⟨⟨hs,hz⟩,hb⟩
  exact⟨⟨hs.len,by rw [c7 hs.len]; exact hs,hb⟩,by simpa using hz⟩
theorem not_isZero_of_pos{r:Vec}(h:0<num r (lead r)):isZero r=false:=by
 cases e:isZero r with
 | false=>rfl
 | true=>have:=(c9 r).1 e (lead r); omega
theorem least_eq{n:Nat}{r:Vec}{h:List Vec}(H:Ech n (r::h)){x:Int}(hx:IsLeast (fun v=>Sp n (r::h) v/\isZero v=false) x):least n (r::h)=some x:=by
 show some _=some x
 congr 1
 have L0:=cx r
 have L1:=lt_pow (lengthOf r).toNat
 have:=grow_least (S:=fun v=>Sp n (r::h) v/\isZero v=false) (f:=others (r::h) n) (mem_others H) (Nat.log2 (lengthOf r).toNat+1) 1 (w0:=r)
  ⟨Sp.mem H.len List.mem_cons_self,not_isZero_of_pos H.hpos⟩ (by omega)
 exact IsLeast.unique ⟨this.1,this.2.1⟩ hx
theorem mem_short{n:Nat}{h:List Vec}(H:Ech n h)(b:Int)(w:Vec):w∈Tg.short n h b↔Sp n h w/\isTold w=true/\lengthOf w<=b:=by
 unfold Tg.short
 rw [mem_sortBy,List.mem_filter,gA H b (aH n)]
 constructor
 ·rintro⟨⟨lw,hs,hb⟩,ht⟩
  rw [c7 lw] at hs
  exact⟨hs,ht,hb⟩
 ·rintro⟨hs,ht,hb⟩
  exact⟨⟨hs.len,by rw [c7 hs.len]; exact hs,hb⟩,ht⟩
theorem short_sorted{n:Nat}{h:List Vec}(H:Ech n h)(b:Int):(Tg.short n h b).Pairwise (fun a b=>sooner a b=true):=by
 unfold Tg.short
 refine sortBy_sorted (order_sooner n) ?_ ((nodup_walk0 H b (aH n)).filter _)
 intro w hw
 exact((gA H b (aH n) w).1 (List.mem_filter.1 hw).1).1
theorem short_eq{n:Nat}{h:List Vec}(H:Ech n h){b:Int}{l:List Vec}(hl:l.Pairwise (fun a b=>sooner a b=true))(hm:∀w,w∈l↔Sp n h w/\isTold w=true/\lengthOf w<=b) :
  Tg.short n h b=l:=
 sorted_unique (order_sooner n) (short_sorted H b) hl (fun w=>by rw [mem_short H,hm])
theorem minus_neg{n:Nat}{w p:Vec}(lw:w.length=n)(lp:p.length=n):minus w (times (-1) p)=plus w p:=by
 apply cB (aG lw (aD _ lp)) (aW lw lp)
 intro j; rw [cG _ lw lp,cS lw lp]; omega
theorem plus_cancel{n:Nat}{u p:Vec}(lu:u.length=n)(lp:p.length=n):plus (minus u p) p=u:=by
 apply cB (aW (aG lu lp) lp) lu
 intro j; rw [cS (aG lu lp) lp,aa lu lp]; omega
theorem dW{n:Nat}{u p:Vec}(lu:u.length=n)(lp:p.length=n):minus (plus u p) p=u:=by
 apply cB (aG (aW lu lp) lp) lu
 intro j; rw [aa (aW lu lp) lp,cS lu lp]; omega
theorem minus_swap{n:Nat}{u p:Vec}(lu:u.length=n)(lp:p.length=n):minus u p=times (-1) (minus p u):=by
 apply cB (aG lu lp) (aD _ (aG lp lu))
 intro j; rw [aa lu lp,aM,aa lp lu]; omega
theorem dist_comm{n:Nat}{u p:Vec}(lu:u.length=n)(lp:p.length=n):lengthOf (minus u p)=lengthOf (minus p u):=by
 rw [minus_swap lu lp,lengthOf_neg]
theorem mem_walk_neg{n:Nat}{h:List Vec}(H:Ech n h){p:Vec}(lp:p.length=n)(b:Int)(w:Vec):w∈walk h (times (-1) p) 0 b↔(w.length=n/\Sp n h (plus w p))/\lengthOf w<=b:=by
 rw [gA H b (aD _ lp)]
 constructor
 ·rintro⟨lw,hs,hb⟩; rw [minus_neg lw lp] at hs; exact⟨⟨lw,hs⟩,hb⟩
 ·rintro⟨⟨lw,hs⟩,hb⟩; exact⟨lw,by rw [minus_neg lw lp]; exact hs,hb⟩
structure IsNear(n:Nat)(h:List Vec)(p:Vec)(x:Int)(l:List Vec):Prop where
 some:∃u,Sp n h u/\lengthOf (minus p u)=x
 le:∀u,Sp n h u->x<=lengthOf (minus p u)
 mem:∀u,u∈l↔Sp n h u/\lengthOf (minus p u)=x
 sorted:l.Pairwise (fun a b=>before a b=true)
theorem IsNear.unique{n:Nat}{h:List Vec}{p:Vec}{x y:Int}{l m:List Vec}(A:IsNear n h p x l)(B:IsNear n h p y m):(x,l)=(y,m):=by
 have e:x=y:=by
  obtain⟨u,hu,eu⟩:=A.some
  obtain⟨v,hv,ev⟩:=B.some
  have:=A.le v hv
  have:=B.le u hu
  omega
 subst e
 rw [sorted_unique (order_before n) A.sorted B.sorted (fun u=>by rw [A.mem,B.mem])]
theorem near_isNear{n:Nat}{h:List Vec}(H:Ech n h){p:Vec}(lp:p.length=n):IsNear n h p (near h p).1 (near h p).2:=by
 have D:=ck H lp
 have ll:(leftOf h p).length=n:=D.len
 have L0:=cx (leftOf h p)
 have L1:=lt_pow (lengthOf (leftOf h p)).toNat
 have G:=grow_least (S:=fun w=>w.length=n/\Sp n h (plus w p)) (f:=walk h (times (-1) p) 0) (mem_walk_neg H lp) (Nat.log2 (lengthOf (leftOf h p)).toNat+1) 0 (w0:=times (-1) (leftOf h p))
  ⟨aD _ ll,by
   have e:plus (times (-1) (leftOf h p)) p=minus p (leftOf h p):=by
    apply cB (aW (aD _ ll) lp) (aG lp ll)
    intro j; rw [cS (aD _ ll) lp,aM,aa lp ll]; omega
   rw [e]; exact D.sub⟩ (by rw [lengthOf_neg]; omega)
 unfold near
 dsimp only
 generalize hl:grow (walk h (times (-1) p) 0) (Nat.log2 (lengthOf (leftOf h p)).toNat+1) 0=l at G ⊢
 obtain⟨g1,g2,⟨c,gc⟩,g3⟩:=G
 have lenl:∀w∈l,w.length=n:=by
  intro w hw
  rw [gc] at hw
  exact((mem_walk_neg H lp c w).1 hw).1.1
 have dist:∀u:Vec,Sp n h u->(minus u p).length=n/\Sp n h (plus (minus u p) p)/\lengthOf (minus u p)=lengthOf (minus p u):=by
  intro u hu
  exact⟨aG hu.len lp,by rw [plus_cancel hu.len lp]; exact hu,dist_comm hu.len lp⟩
 have memb:∀u,u∈((l.filter fun(w:Vec)=>lengthOf w == leastLength l).map fun(w:Vec)=>plus w p)↔Sp n h u/\lengthOf (minus p u)=leastLength l:=by
  intro u
  rw [List.mem_map]
  constructor
  ·rintro⟨w,hw,rfl⟩
   obtain⟨hw,he⟩:=List.mem_filter.1 hw
   have he:lengthOf w=leastLength l:=by simpa using he
   have h1:=(g3 w).1 ⟨hw,he⟩
   refine⟨h1.1.2,?_⟩
   rw [<- dist_comm (aW (lenl w hw) lp) lp,dW (lenl w hw) lp]; exact he
  ·rintro⟨hu,he⟩
   have hd:=dist u hu
   refine⟨minus u p,?_,plus_cancel hu.len lp⟩
   rw [List.mem_filter]
   have h1:=(g3 (minus u p)).2 ⟨⟨hd.1,hd.2.1⟩,by rw [hd.2.2]; exact he⟩
   exact⟨h1.1,by simpa using h1.2⟩
 refine⟨?_,?_,?_,?_⟩
 ·obtain⟨v,hv,ev⟩:=g1
  refine⟨plus v p,hv.2,?_⟩
  rw [<- dist_comm (aW hv.1 lp) lp,dW hv.1 lp]; exact ev
 ·intro u hu
  have hd:=dist u hu
  have:=g2 (minus u p) ⟨hd.1,hd.2.1⟩
  omega
 ·intro u; rw [mem_sortBy]; exact memb u
 ·refine sortBy_sorted (order_before n) ?_ ?_
  ·intro u hu
   exact((memb u).1 hu).1.len
  ·rw [List.nodup_iff_pairwise_ne,List.pairwise_map]
   have nd:l.Nodup:=by rw [gc]; exact nodup_walk0 H c (aD _ lp)
   refine List.Pairwise.imp_of_mem ?_ (List.nodup_iff_pairwise_ne.1 (nd.filter _))
   intro a b ha hb hab e
   apply hab
   have la:=lenl a (List.mem_filter.1 ha).1
   have lb:=lenl b (List.mem_filter.1 hb).1
   have:=congrArg (fun v=>minus v p) e
   simp only [dW la lp,dW lb lp] at this
   exact this
theorem near_eq{n:Nat}{h:List Vec}(H:Ech n h){p:Vec}(lp:p.length=n){x:Int}{l:List Vec}(A:IsNear n h p x l):near h p=(x,l):=
 (near_isNear H lp).unique A
theorem fdiv_rest{a b:Int}(hb:b≠0):(a - a.fdiv b*b).natAbs<b.natAbs/\0<=(a - a.fdiv b*b)*b:=by
 rcases Int.lt_or_gt_of_ne hb with h | h
 ·have e:a.fdiv b=(-a)/(-b):=by
   rw [<- Int.fdiv_eq_ediv_of_nonneg (-a) (b:=-b) (by omega),Int.neg_fdiv_neg]
  have e1:a - a.fdiv b*b= -((-a)%(-b)):=by
   rw [e,Int.emod_def]; grind
  have h1:=Int.emod_nonneg (-a) (b:=-b) (by omega)
  have h2:=Int.emod_lt_of_pos (-a) (b:=-b) (by omega)
  rw [e1]
  refine⟨by omega,?_⟩
  exact Int.mul_nonneg_of_nonpos_of_nonpos (by omega) (by omega)
 ·have e:a.fdiv b=a/b:=Int.fdiv_eq_ediv_of_nonneg a (by omega)
  have e1:a - a.fdiv b*b=a%b:=by
   rw [e,Int.emod_def]; grind
  have h1:=Int.emod_nonneg a (b:=b) (by omega)
  have h2:=Int.emod_lt_of_pos a h
  rw [e1]
  exact⟨by omega,Int.mul_nonneg h1 (by omega)⟩
theorem fdiv_split{a b:Int}(hb:b≠0)(hs:0<=b*a):a.natAbs=(a.fdiv b).natAbs*b.natAbs+(a - a.fdiv b*b).natAbs:=by
 rcases Int.lt_or_gt_of_ne hb with h | h
 ·have e:a.fdiv b=(-a)/(-b):=by
   rw [<- Int.fdiv_eq_ediv_of_nonneg (-a) (b:=-b) (by omega),Int.neg_fdiv_neg]
  have e1:a - a.fdiv b*b= -((-a)%(-b)):=by
   rw [e,Int.emod_def]; grind
  have ha:a<=0:=by
   rcases Int.le_total a 0 with h' | h'
   ·exact h'
   ·rcases Int.lt_or_le 0 a with h2 | h2
    ·have:=Int.mul_neg_of_neg_of_pos h h2; omega
    ·omega
  have h1:=Int.emod_nonneg (-a) (b:=-b) (by omega)
  have hq:0<=(-a)/(-b):=Int.ediv_nonneg (by omega) (by omega)
  rw [e1,e]
  have h3:(-a)=(-a)/(-b)*(-b)+(-a)%(-b):=by rw [Int.emod_def]; grind
  generalize (-a)/(-b)=q at *
  generalize (-a)%(-b)=r at *
  have e4:q.natAbs*b.natAbs=(q*(-b)).natAbs:=by rw [Int.natAbs_mul,Int.natAbs_neg]
  have:0<=q*(-b):=Int.mul_nonneg hq (by omega)
  rw [e4]
  omega
 ·have e:a.fdiv b=a/b:=Int.fdiv_eq_ediv_of_nonneg a (by omega)
  have e1:a - a.fdiv b*b=a%b:=by
   rw [e,Int.emod_def]; grind
  have ha:0<=a:=by
   rcases Int.le_total 0 a with h' | h'
   ·exact h'
   ·rcases Int.lt_or_le a 0 with h2 | h2
    ·have:=Int.mul_neg_of_pos_of_neg h h2; omega
    ·omega
  have h1:=Int.emod_nonneg a (b:=b) (by omega)
  have hq:0<=a/b:=Int.ediv_nonneg (by omega) (by omega)
  rw [e1,e]
  have h3:a=a/b*b+a%b:=by rw [Int.emod_def]; grind
  generalize a/b=q at *
  generalize a%b=r at *
  have e4:q.natAbs*b.natAbs=(q*b).natAbs:=by rw [Int.natAbs_mul]
  have:0<=q*b:=Int.mul_nonneg hq (by omega)
  rw [e4]
  omega
theorem c6(x q y:Int):(x - q*y).natAbs<=x.natAbs+q.natAbs*y.natAbs:=by
 rw [<- Int.natAbs_mul]; omega
structure Run(n p:Nat)(a b f s:Vec)(M:Nat):Prop where
 lf:f.length=n
 ls:s.length=n
 same:Same n [f,s] [a,b]
 fne:num f p≠0
 lt:(num s p).natAbs<(num f p).natAbs
 sign:0<=num s p*num f p
 fp:(num f p).natAbs<=(num b p).natAbs
 bnd:∀j,(num f j).natAbs*(num s p).natAbs+(num s j).natAbs*(num f p).natAbs<=M
 fb:∀j,(num f j).natAbs<=M
theorem Run.sb{n p:Nat}{a b f s:Vec}{M:Nat}(R:Run n p a b f s M)(j:Nat):(num s j).natAbs<=M:=by
 have h:=R.bnd j
 have h1:1<=(num f p).natAbs:=by have:=R.fne; omega
 have h2:(num s j).natAbs*1<=(num s j).natAbs*(num f p).natAbs:=Nat.mul_le_mul_left _ h1
 omega
theorem Run.start{n p:Nat}{a b:Vec}{M:Nat}(la:a.length=n)(lb:b.length=n)(hb:num b p≠0)
  (hM:∀j,(num a j).natAbs*(num b p).natAbs+(num b j).natAbs*((num a p).natAbs+2*(num b p).natAbs)<=M) :
  Run n p a b b (minus a (times ((num a p).fdiv (num b p)) b)) M:=by
 have hr:=fdiv_rest (a:=num a p) hb
 have hb1:1<=(num b p).natAbs:=by omega
 refine⟨lb,aG la (aD _ lb),Same.step _ la lb,hb,?_,?_,Nat.le_refl _,?_,?_⟩
 ·rw [cG _ la lb]; exact hr.1
 ·rw [cG _ la lb]; exact hr.2
 ·intro j
  rw [cG _ la lb,cG _ la lb]
  have h1:=c6 (num a j) ((num a p).fdiv (num b p)) (num b j)
  have h2:((num a p).fdiv (num b p)).natAbs*(num b p).natAbs<=(num a p).natAbs+(num b p).natAbs:=by
   rw [<- Int.natAbs_mul]
   have:=hr.1
   omega
  have hM:=hM j
  have hr1:(num a p - (num a p).fdiv (num b p)*num b p).natAbs<=(num b p).natAbs:=by omega
  generalize (num a p).fdiv (num b p)=q at *
  generalize (num a p - q*num b p).natAbs=R at *
  generalize (num a j - q*num b j).natAbs=Z at *
  generalize (num a j).natAbs=A at *
  generalize (num b j).natAbs=B at *
  generalize (num b p).natAbs=S at *
  generalize (num a p).natAbs=T at *
  generalize q.natAbs=Q at *
  have e1:B*R<=B*S:=Nat.mul_le_mul_left _ hr1
  have e2:Z*S<=(A+Q*B)*S:=Nat.mul_le_mul_right _ h1
  have e3:(A+Q*B)*S=A*S+B*(Q*S):=by grind
  have e4:B*(Q*S)<=B*(T+S):=Nat.mul_le_mul_left _ h2
  have e5:B*(T+2*S)=B*(T+S)+B*S:=by grind
  omega
 ·intro j
  have hM:=hM j
  have:(num b j).natAbs*1<=(num b j).natAbs*((num a p).natAbs+2*(num b p).natAbs):=Nat.mul_le_mul_left _ (by omega)
  omega
theorem Run.step{n p:Nat}{a b f s:Vec}{M:Nat}(R:Run n p a b f s M)(hs:num s p≠0) :
  Run n p a b s (minus f (times ((num f p).fdiv (num s p)) s)) M:=by
 have hr:=fdiv_rest (a:=num f p) hs
 have hsp:=fdiv_split (a:=num f p) hs R.sign
 refine⟨R.ls,aG R.lf (aD _ R.ls),(Same.step _ R.lf R.ls).trans R.same,hs,?_,?_,?_,?_,R.sb⟩
 ·rw [cG _ R.lf R.ls]; exact hr.1
 ·rw [cG _ R.lf R.ls]; exact hr.2
 ·have:=R.lt; have:=R.fp; omega
 ·intro j
  rw [cG _ R.lf R.ls,cG _ R.lf R.ls]
  have h1:=c6 (num f j) ((num f p).fdiv (num s p)) (num s j)
  have hM:=R.bnd j
  generalize (num f p).fdiv (num s p)=q at *
  generalize (num f p - q*num s p).natAbs=T at *
  generalize (num f j - q*num s j).natAbs=Z at *
  generalize (num f j).natAbs=A at *
  generalize (num s j).natAbs=B at *
  generalize (num s p).natAbs=S at *
  generalize (num f p).natAbs=F at *
  generalize q.natAbs=Q at *
  have e2:Z*S<=(A+Q*B)*S:=Nat.mul_le_mul_right _ h1
  have e3:(A+Q*B)*S=A*S+B*(Q*S):=by grind
  have e4:B*F=B*(Q*S)+B*T:=by rw [hsp]; grind
  omega
theorem Run.pair{n p:Nat}{a b f s:Vec}{M:Nat}(R:Run n p a b f s M)(hs:num s p=0):Pair n p a b f s:=⟨R.lf,R.ls,hs,R.same⟩
def Bd(m:Nat)(v:Vec):Prop:=∀j,(num v j).natAbs<2^m
theorem Bd.mono{m k:Nat}{v:Vec}(h:m<=k)(b:Bd m v):Bd k v:=fun j=>Nat.lt_of_lt_of_le (b j) (Nat.pow_le_pow_right (by omega) h)
theorem Bd.zero(m n:Nat):Bd m (Tg.zero n):=fun j=>by rw [a6]; exact Nat.two_pow_pos m
theorem Bd.times_neg{m:Nat}{v:Vec}(b:Bd m v):Bd m (times (-1) v):=fun j=>by
 rw [aM]; have:=b j; omega
def Bds(m:Nat)(l:List Vec):Prop:=∀v∈l,Bd m v
theorem Bds.mono{m k:Nat}{l:List Vec}(h:m<=k)(b:Bds m l):Bds k l:=fun v hv=>(b v hv).mono h
theorem Bds.append{m:Nat}{l k:List Vec}(a:Bds m l)(b:Bds m k):Bds m (l++k):=fun v hv=>by
 rcases List.mem_append.1 hv with h | h
 ·exact a v h
 ·exact b v h
theorem Bds.nil{m:Nat}:Bds m []:=fun v hv=>by simp at hv
theorem Bds.one{m:Nat}{v:Vec}(b:Bd m v):Bds m [v]:=fun u hu=>by
 simp only [List.mem_cons,List.not_mem_nil,or_false] at hu; rw [hu]; exact b
theorem Bd.minus{n m k:Nat}{a b:Vec}(q:Int)(la:a.length=n)(lb:b.length=n)(ha:Bd m a)(hb:Bd k b){t:Nat}(hq:q.natAbs<2^t):Bd (max m (t+k)+1) (minus a (times q b)):=fun j=>by
 rw [cG _ la lb]
 have h1:=c6 (num a j) q (num b j)
 have h2:=ha j
 have h3:=hb j
 have h4:q.natAbs*(num b j).natAbs<=2^t*2^k:=Nat.mul_le_mul (by omega) (by omega)
 rw [<- Nat.pow_add] at h4
 have h5:2^m<=2^(max m (t+k)):=Nat.pow_le_pow_right (by omega) (by omega)
 have h6:2^(t+k)<=2^(max m (t+k)):=Nat.pow_le_pow_right (by omega) (by omega)
 rw [Nat.pow_succ]
 omega
theorem run_bound{p A V P:Nat}{a b:Vec}(ha:Bd A a)(hb:Bd V b)(hap:(num a p).natAbs<2^P)(hbp:(num b p).natAbs<2^P)(j:Nat) :
  (num a j).natAbs*(num b p).natAbs+(num b j).natAbs*((num a p).natAbs+2*(num b p).natAbs)<=2^(P+max A V+2) - 1:=by
 have h1:=ha j
 have h2:=hb j
 have e1:2^A<=2^max A V:=Nat.pow_le_pow_right (by omega) (by omega)
 have e2:2^V<=2^max A V:=Nat.pow_le_pow_right (by omega) (by omega)
 have e3:2^(P+max A V+2)=4*(2^P*2^max A V):=by
  rw [Nat.pow_add,Nat.pow_add]; omega
 rw [e3]
 generalize 2^max A V=x at *
 generalize 2^P=y at *
 generalize (num a j).natAbs=a1 at *
 generalize (num b j).natAbs=b1 at *
 generalize (num a p).natAbs=a2 at *
 generalize (num b p).natAbs=b2 at *
 obtain⟨x,rfl⟩:∃x',x=x'+1:=⟨x - 1,by omega⟩
 obtain⟨y,rfl⟩:∃y',y=y'+1:=⟨y - 1,by omega⟩
 have f1:a1*b2<=x*y:=Nat.mul_le_mul (by omega) (by omega)
 have f2:b1*(a2+2*b2)<=x*(3*y):=Nat.mul_le_mul (by omega) (by omega)
 have f3:x*(3*y)=3*(x*y):=by grind
 have f4:(y+1)*(x+1)=x*y+x+y+1:=by grind
 omega
structure Clr(n p:Nat)(a b x y:Vec)(m:Nat):Prop where
 pair:Pair n p a b x y
 keep:num b p=0->x=a/\y=b
 xb:Bd m x
 yb:Bd m y
 xp:(num x p).natAbs<=max (num a p).natAbs (num b p).natAbs
theorem Clr.same{n p A V P:Nat}{a b:Vec}(la:a.length=n)(lb:b.length=n)(ha:Bd A a)(hb:Bd V b)(h:num b p=0):Clr n p a b a b (P+max A V+2):=
 ⟨⟨la,lb,h,Same.refl⟩,fun _=>⟨rfl,rfl⟩,ha.mono (by omega),hb.mono (by omega),by omega⟩
theorem Clr.same0{n p m:Nat}{a b:Vec}(la:a.length=n)(lb:b.length=n)(ha:Bd m a)(hb:Bd m b)(h:num b p=0):Clr n p a b a b m:=
 ⟨⟨la,lb,h,Same.refl⟩,fun _=>⟨rfl,rfl⟩,ha,hb,by omega⟩
theorem Clr.run{n p m:Nat}{a b f s:Vec}(R:Run n p a b f s (2^m - 1))(hb:num b p≠0)(hs:num s p=0):Clr n p a b f s m:=
 ⟨R.pair hs,fun h=>absurd h hb,fun j=>by have:=R.fb j; have:=Nat.two_pow_pos m; omega,fun j=>by have:=R.sb j; have:=Nat.two_pow_pos m; omega,by have:=R.fp; omega⟩
def nzv(l:List Vec):Nat:=(l.filter fun(r:Vec)=>!isZero r).length
def cp(p:Nat)(l:List Vec):Nat:=(l.filter fun(r:Vec)=>num r p != 0).length
theorem nzv_snoc(l:List Vec)(v:Vec):nzv (l++[v])=nzv l+if isZero v=true then 0 else 1:=by
 unfold nzv
 rw [List.filter_append,List.length_append,List.filter_cons]
 cases h:isZero v <;> simp
theorem cp_snoc(p:Nat)(l:List Vec)(v:Vec):cp p (l++[v])=cp p l+if num v p=0 then 0 else 1:=by
 unfold cp
 rw [List.filter_append,List.length_append,List.filter_cons]
 by_cases h:num v p=0 <;> simp [h]
theorem isZero_num{v:Vec}{p:Nat}(h:num v p≠0):isZero v=false:=by
 cases e:isZero v with
 | false=>rfl
 | true=>exact absurd ((c9 v).1 e p) h
theorem cp_le_nzv(p:Nat):∀(l:List Vec),cp p l<=nzv l
 | []=>Nat.le_refl _
 | v::l=>by
   have ih:=cp_le_nzv p l
   unfold cp nzv at ih ⊢
   rw [List.filter_cons,List.filter_cons]
   by_cases h:num v p=0
   ·rw [if_neg (by simp [h])]
    split <;> simp <;> omega
   ·rw [if_pos (by simpa using h),if_pos (by rw [isZero_num h]; rfl)]
    simp; exact ih
theorem nzv_le_len(l:List Vec):nzv l<=l.length:=List.length_filter_le _ _
structure Gat(n p:Nat)(rows:List Vec)(lead:Vec)(others:List Vec)(P m:Nat):Prop where
 ll:lead.length=n
 lo:Len n others
 lz:∀r∈others,num r p=0
 zero:num lead p=0->lead=Tg.zero n
 same:Same n ([lead]++others) rows
 bl:Bd m lead
 bo:Bds m others
 lp:(num lead p).natAbs<2^P
 cnt:others.length=rows.length
 nz:nzv others+(if num lead p=0 then 0 else 1)<=nzv rows
 z0:num lead p=0->cp p rows=0
theorem same_zero{n:Nat}{l:List Vec}(L:Len n l):Same n ([Tg.zero n]++l) l:=by
 refine Same.of ((Len.one (aH n)).append L) L ?_ ?_
 ·intro r hr
  rcases List.mem_append.1 hr with h | h
  ·simp only [List.mem_cons,List.not_mem_nil,or_false] at h; rw [h]; exact Sp.zero L
  ·exact Sp.mem L h
 ·intro r hr
  exact Sp.mem ((Len.one (aH n)).append L) (List.mem_append_right _ hr)
theorem Gat.start{n p P m:Nat}:Gat n p [] (Tg.zero n) [] P m:=
 ⟨aH n,Len.nil,by simp,fun _=>rfl,by simpa using same_zero (n:=n) Len.nil,Bd.zero m n,Bds.nil,by rw [a6]; exact Nat.two_pow_pos P,rfl,by rw [a6]; simp [nzv],fun _=>rfl⟩
theorem Gat.step{n p P m k:Nat}{rows others:List Vec}{lead v x y:Vec}(G:Gat n p rows lead others P m)(R:Len n rows)(lv:v.length=n)(vp:(num v p).natAbs<2^P)(C:Clr n p lead v x y k)(h:m<=k) :
  Gat n p (rows++[v]) x (others++[y]) P k:=by
 have lx:=C.pair.lx
 have ly:=C.pair.ly
 have zz:num x p=0->num lead p=0/\num v p=0:=by
  intro hx
  have hz:∀r∈[x,y],num r p=0:=by
   intro r hr
   simp only [List.mem_cons,List.not_mem_nil,or_false] at hr
   rcases hr with h | h <;> subst h
   ·exact hx
   ·exact C.pair.zy
  exact⟨Sp.zero_at (Len.two lx ly) hz ((C.pair.same lead).2 (Sp.mem (Len.two G.ll lv) (by simp))),Sp.zero_at (Len.two lx ly) hz ((C.pair.same v).2 (Sp.mem (Len.two G.ll lv) (by simp)))⟩
 refine⟨lx,G.lo.append (Len.one ly),?_,?_,?_,C.xb,(G.bo.mono h).append (Bds.one C.yb),?_,by simp [G.cnt],?_,?_⟩
 ·intro r hr
  rcases List.mem_append.1 hr with h | h
  ·exact G.lz r h
  ·simp only [List.mem_cons,List.not_mem_nil,or_false] at h; rw [h]; exact C.pair.zy
 ·intro hx
  by_cases hl:num lead p=0
  ·by_cases hv:num v p=0
   ·rw [(C.keep hv).1]; exact G.zero hl
   ·exfalso
    apply hv
    refine Sp.zero_at (h:=[x,y]) (Len.two lx ly) ?_ ((C.pair.same v).2 (Sp.mem (Len.two G.ll lv) (by simp)))
    intro r hr
    simp only [List.mem_cons,List.not_mem_nil,or_false] at hr
    rcases hr with h | h <;> subst h
    ·exact hx
    ·exact C.pair.zy
  ·exact absurd hx (C.pair.ne G.ll lv hl)
 ·refine(Same.perm (ia x y others) ((Len.one lx).append (G.lo.append (Len.one ly)))).trans ?_
  refine(Same.append (Len.two lx ly) (Len.two G.ll lv) G.lo G.lo C.pair.same Same.refl).trans ?_
  refine(Same.perm (ia lead v others).symm ((Len.two G.ll lv).append G.lo)).trans ?_
  rw [<- List.append_assoc]
  exact Same.append ((Len.one G.ll).append G.lo) R (Len.one lv) (Len.one lv) G.same Same.refl
 ·have:=C.xp
  have:=G.lp
  omega
 ·have g:=G.nz
  rw [nzv_snoc,nzv_snoc]
  by_cases hv:num v p=0
  ·obtain⟨e1,e2⟩:=C.keep hv
   subst e1 e2
   omega
  ·rw [isZero_num hv]
   by_cases hl:num lead p=0
   ·
    have ez:=G.zero hl
    have hy:isZero y=true:=by
     have hs:=(C.pair.same y).1 (Sp.mem (Len.two lx ly) (by simp))
     rw [ez] at hs
     obtain⟨_,k1,h1⟩:=hs
     obtain⟨_,k2,h2⟩:=h1
     have e1:∀j,num y j=k2*num v j:=by
      intro j
      have:=congrArg (fun u=>num u j) (show minus (minus y (times k1 (Tg.zero n))) (times k2 v)=Tg.zero n from h2)
      simp only [a6] at this
      rw [cG _ (aG ly (aD _ (aH n))) lv,cG _ ly (aH n),a6] at this
      omega
     have e2:=e1 p
     rw [C.pair.zy] at e2
     have k0:k2=0:=by
      rcases Int.mul_eq_zero.1 e2.symm with h | h
      ·exact h
      ·exact absurd h hv
     rw [c9]
     intro j; rw [e1 j,k0]; omega
    rw [hy]
    rw [if_pos hl] at g
    have i1:(if num x p=0 then 0 else 1)<=1:=by split <;> omega
    rw [if_pos rfl,if_neg (show ¬ false=true by decide)]
    omega
   ·rw [if_neg hl] at g
    have i1:(if num x p=0 then 0 else 1)<=1:=by split <;> omega
    have i2:(if isZero y=true then 0 else 1)<=1:=by split <;> omega
    rw [if_neg (show ¬ false=true by decide)]
    omega
 ·intro hx
  obtain⟨h1,h2⟩:=zz hx
  rw [cp_snoc,G.z0 h1,if_pos h2]
theorem Gat.none{n p P m:Nat}{rows others:List Vec}{lead:Vec}(G:Gat n p rows lead others P m)(h:num lead p=0):Col n p rows none others:=
 ⟨Len.nil,by simp,G.lo,G.lz,by
  have e:=G.zero h
  have s:=G.same
  rw [e] at s
  simpa using(same_zero G.lo).symm.trans s⟩
theorem Gat.some{n p P m:Nat}{rows others:List Vec}{lead:Vec}(G:Gat n p rows lead others P m)(h:num lead p≠0):Col n p rows (some lead) others:=
 ⟨Len.one G.ll,by simpa using h,G.lo,G.lz,by simpa using G.same⟩
def gr(N V:Nat):Nat:=V+N*(V+2)
theorem le_gr(N V:Nat):V<=gr N V:=by unfold gr; omega
theorem gr_step(N V:Nat):V+max (gr N V) V+2=gr (N+1) V:=by
 unfold gr
 have:(N+1)*(V+2)=N*(V+2)+(V+2):=by grind
 omega
theorem gr_mono{N M:Nat}(V:Nat)(h:N<=M):gr N V<=gr M V:=by
 unfold gr
 have:N*(V+2)<=M*(V+2):=Nat.mul_le_mul_right _ h
 omega
theorem gr_val(N V:Nat):gr N V+2=(N+1)*(V+2):=by unfold gr; grind
def gq(N V:Nat):Nat->Nat
 | 0=>V
 | d+1=>gr (N - d) (gq N V d)
theorem jV(N V:Nat){j k:Nat}(h:j<=k):gq N V j<=gq N V k:=by
 induction h with
 | refl=>exact Nat.le_refl _
 | step _ ih=>exact Nat.le_trans ih (le_gr _ _)
def grs(N V:Nat):Nat->Nat
 | 0=>V
 | k+1=>gr N (grs N V k)
theorem Turned.up{n j:Nat}{q:Vec}(lq:q.length=n)(h:0<num q j):Turned n j q q:=⟨lq,h,Same.refl⟩
theorem Turned.down{n j:Nat}{q:Vec}(lq:q.length=n)(h0:num q j≠0)(h:¬ 0<num q j):Turned n j q (times (-1) q):=
 ⟨aD _ lq,by rw [aM]; omega,same_neg lq⟩
theorem Ech.rank_le{n:Nat}:∀{g h:List Vec},Ech n g->Ech n h->(∀r∈h,Sp n g r)->h.length<=g.length
 | _,[],_,_,_=>Nat.zero_le _
 | [],r::h,_,H,hs=>by
   have h1:=hs r List.mem_cons_self
   have h2:=H.hpos
   rw [show r=Tg.zero n from h1,a6] at h2; omega
 | a::g,b::h,G,H,hs=>by
   have:h.length<=g.length:=by
    refine Ech.rank_le G.tail H.tail ?_
    intro r hr
    rw [G.tail_iff]
    refine⟨hs r (List.mem_cons_of_mem _ hr),?_⟩
    have lb:lead a<=lead b:=by
     refine gC (by have:=H.hpos; omega) ?_
     intro i hi
     refine Sp.zero_at G.len ?_ (hs b List.mem_cons_self)
     intro s hs'
     rcases List.mem_cons.1 hs' with e | e
     ·rw [e]; exact a5 hi
     ·exact a5 (by have:=G.above s e; omega)
    exact a5 (by have:=H.above r hr; omega)
   simpa using this
theorem Ech.ahead{n:Nat}{a:Vec}{g:List Vec}(G:Ech n (a::g)){v:Vec}(hv:Sp n (a::g) v){i:Nat}(hi:i<lead a):num v i=0:=by
 refine Sp.zero_at G.len ?_ hv
 intro s hs
 rcases List.mem_cons.1 hs with e | e
 ·rw [e]; exact a5 hi
 ·exact a5 (by have:=G.above s e; omega)
theorem Ech.part_head{n:Nat}{a b:Vec}{g h:List Vec}(G:Ech n (a::g))(H:Ech n (b::h))(hl:h.length=g.length)(hs:∀r∈b::h,Sp n (a::g) r) :
  lead b=lead a/\∀r∈h,Sp n g r:=by
 have lb:lead a<=lead b:=gC (by have:=H.hpos; omega) (fun i hi=>G.ahead (hs b List.mem_cons_self) hi)
 have e:lead b=lead a:=by
  rcases Nat.lt_or_ge (lead a) (lead b) with h1 | h1
  ·exfalso
   have:(b::h).length<=g.length:=by
    refine Ech.rank_le G.tail H ?_
    intro r hr
    rw [G.tail_iff]
    refine⟨hs r hr,?_⟩
    rcases List.mem_cons.1 hr with e | e
    ·rw [e]; exact a5 h1
    ·exact a5 (by have:=H.above r e; omega)
   simp at this; omega
  ·omega
 refine⟨e,?_⟩
 intro r hr
 rw [G.tail_iff]
 exact⟨hs r (List.mem_cons_of_mem _ hr),a5 (by have:=H.above r hr; omega)⟩
theorem foldl_add(l:List Nat)(f:Nat->Int)(s:Int):l.foldl (fun(s:Int)(j:Nat)=>s+f j) s=s+l.foldl (fun(s:Int)(j:Nat)=>s+f j) 0:=by
 induction l generalizing s with
 | nil=>simp
 | cons x l ih=>rw [List.foldl_cons,List.foldl_cons,ih,ih (0+_)]; omega
theorem foldl_zero(l:List Nat)(f:Nat->Int)(h:∀j∈l,f j=0):l.foldl (fun(s:Int)(j:Nat)=>s+f j) 0=0:=by
 induction l with
 | nil=>rfl
 | cons x l ih=>
   rw [List.foldl_cons,h x List.mem_cons_self]
   exact ih (fun j hj=>h j (List.mem_cons_of_mem _ hj))
theorem foldl_congr(l:List Nat){f g:Nat->Int}(h:∀j∈l,f j=g j)(s:Int):l.foldl (fun(s:Int)(j:Nat)=>s+f j) s=l.foldl (fun(s:Int)(j:Nat)=>s+g j) s:=by
 induction l generalizing s with
 | nil=>rfl
 | cons x l ih=>
   rw [List.foldl_cons,List.foldl_cons,h x List.mem_cons_self]
   exact ih (fun j hj=>h j (List.mem_cons_of_mem _ hj)) _
theorem gE:∀(n:Nat){m k:Nat->Nat->Int},(∀i j,i<n->j<n->m i j=k i j)->det n m=det n k
 | 0,_,_,_=>rfl
 | n+1,m,k,h=>by
   unfold det
   refine foldl_congr _ ?_ 0
   intro j hj
   have hj:=List.mem_range.1 hj
   rw [h 0 j (by omega) hj,gE n (m:=fun a b=>m (a+1) (if b<j then b else b+1)) (k:=fun a b=>k (a+1) (if b<j then b else b+1))]
   intro a b ha hb
   refine h _ _ (by omega) ?_
   split <;> omega
theorem det_zero_col:∀(n:Nat){m:Nat->Nat->Int},0<n->(∀i,i<n->m i 0=0)->det n m=0
 | n+1,m,_,h=>by
   unfold det
   refine foldl_zero _ _ ?_
   intro j hj
   have hj:=List.mem_range.1 hj
   rcases Nat.eq_zero_or_pos j with e | e
   ·subst e
    rw [h 0 (by omega)]; simp
   ·have:det n (fun a b=>m (a+1) (if b<j then b else b+1))=0:=by
     refine det_zero_col n (by omega) ?_
     intro i hi
     show m (i+1) (if 0<j then 0 else 0+1)=0
     rw [if_pos e]
     exact h (i+1) (by omega)
    rw [this]; simp
theorem det_corner(n:Nat){m:Nat->Nat->Int}(h:∀i,i<n->m (i+1) 0=0):det (n+1) m=m 0 0*det n (fun a b=>m (a+1) (b+1)):=by
 conv=>lhs; unfold det
 rw [List.range_succ_eq_map,List.foldl_cons,foldl_add,foldl_zero]
 ·simp
 ·intro j hj
  obtain⟨k,hk,rfl⟩:=List.mem_map.1 hj
  have hk:=List.mem_range.1 hk
  have:det n (fun a b=>m (a+1) (if b<k.succ then b else b+1))=0:=by
   refine det_zero_col n (by omega) ?_
   intro i hi
   show m (i+1) (if 0<k.succ then 0 else 0+1)=0
   rw [if_pos (by omega)]
   exact h i hi
  rw [this]; simp
def cX:List Vec->Int
 | []=>1
 | r::h=>num r (lead r)*cX h
theorem Ech.pivots_pos{n:Nat}:∀{h:List Vec},Ech n h->0<cX h
 | [],_=>by simp [cX]
 | r::h,H=>by
   unfold cX
   exact Int.mul_pos H.hpos (Ech.pivots_pos H.tail)
theorem divided_head{n:Nat}{a:Vec}{g:List Vec}(G:Ech n (a::g)){v:Vec}(hv:Sp n (a::g) v) :
  num v (lead a)=num v (lead a)/num a (lead a)*num a (lead a):=by
 obtain⟨lv,k,hk⟩:=hv
 have:=G.head_mul lv hk
 have p:=G.hpos
 rw [this,Int.mul_ediv_cancel _ (by omega)]
theorem divided_cons(a:Vec)(g:List Vec)(v:Vec):(divided (a::g) v).1=(num v (lead a)/num a (lead a))::(divided g (minus v (times (num v (lead a)/num a (lead a)) a))).1:=rfl
theorem index_det{n:Nat}:∀{g h:List Vec},Ech n g->Ech n h->h.length=g.length->(∀r∈h,Sp n g r)->
  (det h.length fun(i j:Nat)=>((divided g (h.getD i [])).1).getD j 0)*cX g=cX h/\0<det h.length fun(i j:Nat)=>((divided g (h.getD i [])).1).getD j 0
 | [],[],_,_,_,_=>by simp [det,cX]
 | a::g,b::h,G,H,hl,hs=>by
   have hl':h.length=g.length:=by simpa using hl
   obtain⟨le,ht⟩:=G.part_head H hl' hs
   have ih:=index_det G.tail H.tail hl' ht
   have la:=G.len.head
   have row:∀r∈h,(divided (a::g) r).1=0::(divided g r).1:=by
    intro r hr
    have h0:num r (lead a)=0:=a5 (by have:=H.above r hr; omega)
    rw [divided_cons,h0,Int.zero_ediv,minus_times_zero (H.len r (List.mem_cons_of_mem _ hr)) la]
   have mem:∀i,i<h.length->h.getD i []∈h:=by
    intro i hi
    rw [List.getD_eq_getElem?_getD,List.getElem?_eq_getElem hi]
    exact List.getElem_mem hi
   have e:det (b::h).length (fun(i j:Nat)=>((divided (a::g) ((b::h).getD i [])).1).getD j 0)=num b (lead a)/num a (lead a)*det h.length (fun(i j:Nat)=>((divided g (h.getD i [])).1).getD j 0):=by
    rw [List.length_cons,det_corner]
    ·congr 1
     apply gE
     intro i j hi hj
     show((divided (a::g) (h.getD i [])).1).getD (j+1) 0=_
     rw [row _ (mem i hi)]
     rfl
    ·intro i hi
     show((divided (a::g) (h.getD i [])).1).getD 0 0=0
     rw [row _ (mem i hi)]
     rfl
   rw [e]
   have hd:=divided_head G (hs b List.mem_cons_self)
   have pa:=G.hpos
   have pb:=H.hpos
   rw [le] at pb
   have q0:0<num b (lead a)/num a (lead a):=by
    rcases Int.lt_or_le 0 (num b (lead a)/num a (lead a)) with h1 | h1
    ·exact h1
    ·have:num b (lead a)/num a (lead a)*num a (lead a)<=0*num a (lead a):=Int.mul_le_mul_of_nonneg_right h1 (by omega)
     omega
   refine⟨?_,Int.mul_pos q0 ih.2⟩
   show _*(num a (lead a)*cX g)=num b (lead b)*cX h
   rw [<- ih.1,le]
   generalize det h.length (fun(i j:Nat)=>((divided g (h.getD i [])).1).getD j 0)=d
   conv=>rhs; rw [hd]
   grind
theorem index_eq{n:Nat}{g h:List Vec}(G:Ech n g)(H:Ech n h)(hl:h.length=g.length)(hs:∀r∈h,Sp n g r):Tg.index g h=cX h/cX g:=by
 have:=index_det G H hl hs
 unfold Tg.index
 have p:=G.pivots_pos
 rw [<- this.1,Int.mul_ediv_cancel _ (by omega)]
 omega
def db(B:Nat):Nat->Nat
 | 0=>1
 | n+1=>B+db B n+(n+1)
theorem foldl_bound(f:Nat->Int)(X:Nat):∀(l:List Nat)(s:Int),(∀j∈l,(f j).natAbs<=X)->(l.foldl (fun(s:Int)(j:Nat)=>s+f j) s).natAbs<=s.natAbs+l.length*X
 | [],s,_=>by simp
 | j::l,s,h=>by
   rw [List.foldl_cons]
   have ih:=foldl_bound f X l (s+f j) (fun k hk=>h k (List.mem_cons_of_mem _ hk))
   have h1:=h j List.mem_cons_self
   have e:(j::l).length*X=l.length*X+X:=by rw [List.length_cons]; grind
   omega
theorem two_pow_ge(n:Nat):n<2^n:=Nat.lt_two_pow_self
theorem eR{B:Nat}:∀(n:Nat){m:Nat->Nat->Int},(∀i j,i<n->j<n->(m i j).natAbs<2^B)->(det n m).natAbs<2^db B n
 | 0,m,_=>by simp [det,db]
 | n+1,m,h=>by
   unfold det
   have hb:=foldl_bound (fun j=>(if j%2=0 then 1 else -1)*m 0 j*det n fun(a b:Nat)=>m (a+1) (if b<j then b else b+1)) (2^(B+db B n)) (List.range (n+1)) 0 (by
    intro j hj
    have hj:=List.mem_range.1 hj
    have ih:=eR n (m:=fun(a b:Nat)=>m (a+1) (if b<j then b else b+1)) (by
     intro a b ha hb
     refine h _ _ (by omega) ?_
     split <;> omega)
    have h0:=h 0 j (by omega) hj
    rw [Int.natAbs_mul,Int.natAbs_mul]
    have e:(if j%2=0 then(1:Int) else -1).natAbs=1:=by split <;> rfl
    rw [e,Nat.one_mul,Nat.pow_add]
    exact Nat.mul_le_mul (by omega) (by omega))
   rw [List.length_range] at hb
   have e:2^db B (n+1)=2^(n+1)*2^(B+db B n):=by
    rw [<- Nat.pow_add]; congr 1; show B+db B n+(n+1)=_; omega
   rw [e]
   have h1:=two_pow_ge (n+1)
   have h2:=Nat.two_pow_pos (B+db B n)
   have:(n+1)*2^(B+db B n)<2^(n+1)*2^(B+db B n):=Nat.mul_lt_mul_of_pos_right h1 h2
   simp only [Int.natAbs_zero,Nat.zero_add] at hb
   omega
theorem gD{A B:Nat}:∀(a b:Vec),Bd A a->Bd B b->(dot a b).natAbs<=a.length*2^(A+B)
 | [],b,_,_=>by simp [dH]
 | x::a,[],_,_=>by simp [cP]
 | x::a,y::b,ha,hb=>by
   have ih:=gD a b (fun j=>ha (j+1)) (fun j=>hb (j+1))
   have h1:=ha 0
   have h2:=hb 0
   rw [cW] at h1 h2
   have h3:(x*y).natAbs<=2^(A+B):=by
    rw [Int.natAbs_mul,Nat.pow_add]
    exact Nat.mul_le_mul (by omega) (by omega)
   rw [b9,List.length_cons]
   have e:(a.length+1)*2^(A+B)=a.length*2^(A+B)+2^(A+B):=by grind
   omega
theorem eQ{n A B:Nat}{a b:Vec}(la:a.length=n)(ha:Bd A a)(hb:Bd B b):(dot a b).natAbs<2^(A+B+n):=by
 have h:=gD a b ha hb
 rw [la] at h
 have h1:=two_pow_ge n
 have h2:=Nat.two_pow_pos (A+B)
 have:n*2^(A+B)<2^n*2^(A+B):=Nat.mul_lt_mul_of_pos_right h1 h2
 rw [<- Nat.pow_add,Nat.add_comm n] at this
 omega
def cut(M:List Vec)(c:Nat):List Vec:=(M.drop 1).map fun(r:Vec)=>r.take c++r.drop (c+1)
def mat(M:List Vec)(i j:Nat):Int:=num (M.getD i []) j
theorem iD{n:Nat}{M:List Vec}(hM:M.length=n+1)(c:Nat):(cut M c).length=n:=by simp [cut,hM]
theorem cut_row{n:Nat}{M:List Vec}(L:Len (n+1) M){c:Nat}(hc:c<n+1):Len n (cut M c):=by
 intro r hr
 obtain⟨s,hs,rfl⟩:=List.mem_map.1 hr
 have:=L s (List.mem_of_mem_drop hs)
 simp [this]; omega
theorem num_cut{r:Vec}{c:Nat}(hc:c<r.length)(b:Nat):num (r.take c++r.drop (c+1)) b=num r (if b<c then b else b+1):=by
 have lt:(r.take c).length=c:=by simp; omega
 rcases Nat.lt_or_ge b c with h | h
 ·rw [if_pos h,num_append_left (by rw [lt]; exact h),eN h]
 ·rw [if_neg (by omega)]
  have e:b=(r.take c).length+(b - c):=by rw [lt]; omega
  conv=>lhs; rw [e]
  rw [num_append_right,cr]
  congr 1; omega
theorem mat_cut{n:Nat}{M:List Vec}(hM:M.length=n+1)(L:Len (n+1) M){c:Nat}(hc:c<n+1){i:Nat}(hi:i<n)(j:Nat):mat (cut M c) i j=mat M (i+1) (if j<c then j else j+1):=by
 unfold mat
 have h1:i<(M.drop 1).length:=by simp [hM]; omega
 have h2:i+1<M.length:=by omega
 have e1:(cut M c).getD i []=(M[i+1]).take c++(M[i+1]).drop (c+1):=by
  unfold cut
  rw [List.getD_eq_getElem?_getD,List.getElem?_map,List.getElem?_drop,Nat.add_comm 1 i,List.getElem?_eq_getElem h2]
  rfl
 have e2:M.getD (i+1) []=M[i+1]:=by
  rw [List.getD_eq_getElem?_getD,List.getElem?_eq_getElem h2]; rfl
 rw [e1,e2,num_cut (by rw [L _ (List.getElem_mem h2)]; exact hc)]
def jJ(n:Nat)(m:Nat->Nat->Int)(k:Nat):Int:=
 (List.range k).foldl (fun(s:Int)(j:Nat)=>s+(if j%2=0 then 1 else -1)*m 0 j*det n fun(a b:Nat)=>m (a+1) (if b<j then b else b+1)) 0
theorem detTo_succ(n:Nat)(m:Nat->Nat->Int)(k:Nat):jJ n m (k+1)=jJ n m k+(if k%2=0 then 1 else -1)*m 0 k*det n fun(a b:Nat)=>m (a+1) (if b<k then b else b+1):=by
 unfold jJ
 rw [List.range_succ,List.foldl_append]
 rfl
theorem detTo_all(n:Nat)(m:Nat->Nat->Int):jJ n m (n+1)=det (n+1) m:=rfl
theorem det_cut{n:Nat}{M:List Vec}(hM:M.length=n+1)(L:Len (n+1) M){c:Nat}(hc:c<n+1):det n (mat (cut M c))=det n fun(a b:Nat)=>mat M (a+1) (if b<c then b else b+1):=
 gE n fun i j hi _=>mat_cut hM L hc hi j
def Gen(n b:Nat)(h:List Vec):Prop:=∃G:List Vec,Len n G/\Bds b G/\(∀g∈G,Sp n h g)/\∀v,Sp n h v->∃k:Int,k≠0/\Sp n G (times k v)
theorem Gen.mono{n b c:Nat}{h:List Vec}(hbc:b<=c)(g:Gen n b h):Gen n c h:=
 let ⟨G,L,B,s,r⟩:=g; ⟨G,L,B.mono hbc,s,r⟩
theorem Gen.same{n b:Nat}{g h:List Vec}(e:Same n g h)(k:Gen n b g):Gen n b h:=
 let ⟨G,L,B,s,r⟩:=k; ⟨G,L,B,fun x hx=>(e x).1 (s x hx),fun v hv=>r v ((e v).2 hv)⟩
theorem fu{n:Nat}{v:Vec}(lv:v.length=n):times 1 v=v:=by
 apply cB (aD _ lv) lv
 intro j; rw [aM]; omega
theorem times_times(j k:Int)(v:Vec):times j (times k v)=times (j*k) v:=by
 apply bn
 ·rw [aI,aI,aI]
 ·intro i; rw [aM,aM,aM,Int.mul_assoc]
theorem times_plus{n:Nat}(k:Int){a b:Vec}(la:a.length=n)(lb:b.length=n):times k (plus a b)=plus (times k a) (times k b):=by
 apply cB (aD _ (aW la lb)) (aW (aD _ la) (aD _ lb))
 intro j; rw [aM,cS la lb,cS (aD _ la) (aD _ lb),aM,aM]; grind
theorem Gen.rows{n b:Nat}{rows:List Vec}(L:Len n rows)(B:Bds b rows):Gen n b rows:=
 ⟨rows,L,B,fun g hg=>Sp.mem L hg,fun v hv=>⟨1,by decide,by rw [fu hv.len]; exact hv⟩⟩
theorem Gen.form{n b:Nat}{rows:List Vec}(L:Len n rows)(B:Bds b rows):Gen n b (Tg.form n rows):=
 (Gen.rows L B).same (dE L).symm
theorem Gen.append{n b:Nat}{g h:List Vec}(LG:Len n g)(LH:Len n h)(A:Gen n b g)(B:Gen n b h):Gen n b (g++h):=by
 obtain⟨G,L1,B1,s1,r1⟩:=A
 obtain⟨K,L2,B2,s2,r2⟩:=B
 refine⟨G++K,L1.append L2,B1.append B2,?_,?_⟩
 ·intro x hx
  rcases List.mem_append.1 hx with e | e
  ·exact Sp.app_left LG LH (s1 x e)
  ·exact Sp.app_right LG LH (s2 x e)
 ·intro v hv
  obtain⟨x,y,hx,hy,rfl⟩:=(Sp.app_iff LG LH).1 hv
  obtain⟨j,hj,hj'⟩:=r1 x hx
  obtain⟨k,hk,hk'⟩:=r2 y hy
  refine⟨j*k,Int.mul_ne_zero hj hk,?_⟩
  rw [times_plus _ hx.len hy.len]
  refine Sp.plus (L1.append L2) (Sp.app_left L1 L2 ?_) (Sp.app_right L1 L2 ?_)
  ·rw [Int.mul_comm,<- times_times]; exact Sp.times k L1 hj'
  ·rw [<- times_times]; exact Sp.times j L2 hk'
theorem Gen.join{n b:Nat}{h rows:List Vec}(LH:Len n h)(L:Len n rows)(B:Bds b rows)(A:Gen n b h):Gen n b (Tg.form n (h++rows)):=
 (A.append LH L (Gen.rows L B)).same (dE (LH.append L)).symm
def off(p:Nat)(g u:Vec):Vec:=minus (times (num g p) u) (times (num u p) g)
theorem e8{n p:Nat}{g u:Vec}(lg:g.length=n)(lu:u.length=n)(j:Nat):num (off p g u) j=num g p*num u j - num u p*num g j:=by
 unfold off; rw [cG _ (aD _ lu) lg,aM]
theorem dv{n p:Nat}{g u:Vec}(lg:g.length=n)(lu:u.length=n):(off p g u).length=n:=aG (aD _ lu) (aD _ lg)
theorem lin_off{n p:Nat}{g:Vec}(lg:g.length=n):Lin n n (off p g) where
 len a la:=dv lg la
 zero:=by
  apply cB (dv lg (aH n)) (aH n)
  intro j; rw [e8 lg (aH n),a6,a6]; omega
 pt a b k la lb:=by
  apply cB (dv lg (aW la (aD _ lb))) (aW (dv lg la) (aD _ (dv lg lb)))
  intro j
  rw [e8 lg (aW la (aD _ lb)),fh _ la lb,fh _ la lb,fh _ (dv lg la) (dv lg lb),e8 lg la,e8 lg lb]
  grind
theorem off_bd{n p b:Nat}{g u:Vec}(lg:g.length=n)(lu:u.length=n)(hg:Bd b g)(hu:Bd b u):Bd (2*b+1) (off p g u):=by
 intro j
 rw [e8 lg lu]
 have h1:=hg p
 have h2:=hu j
 have h3:=hu p
 have h4:=hg j
 have e1:(num g p*num u j).natAbs<=2^b*2^b:=by rw [Int.natAbs_mul]; exact Nat.mul_le_mul (by omega) (by omega)
 have e2:(num u p*num g j).natAbs<2^b*2^b:=by rw [Int.natAbs_mul]; exact Nat.mul_lt_mul'' h3 h4
 have e3:2^(2*b+1)=2*(2^b*2^b):=by rw [Nat.pow_succ,Nat.two_mul,Nat.pow_add]; omega
 rw [e3]
 omega
theorem Gen.step{n b:Nat}{r:Vec}{h:List Vec}(H:Ech n (r::h))(A:Gen n b (r::h)) :
  Gen n (2*b+1) h/\∃g,Bd b g/\Sp n (r::h) g/\num g (lead r)≠0:=by
 obtain⟨G,L,B,s,sat⟩:=A
 have ex:∃g∈G,num g (lead r)≠0:=by
  apply Classical.byContradiction
  intro hne
  have hz:∀g∈G,num g (lead r)=0:=fun g hg=>Classical.byContradiction fun h0=>hne ⟨g,hg,h0⟩
  obtain⟨k,hk,hs⟩:=sat r (Sp.mem H.len List.mem_cons_self)
  have:=Sp.zero_at L hz hs
  rw [aM] at this
  have p:=H.hpos
  rcases Int.mul_eq_zero.1 this with e | e
  ·exact hk e
  ·omega
 obtain⟨g,hg,hgp⟩:=ex
 have lg:=L g hg
 refine⟨⟨G.map (off (lead r) g),L.map (lin_off lg),?_,?_,?_⟩,g,B g hg,s g hg,hgp⟩
 ·intro v hv
  obtain⟨u,hu,rfl⟩:=List.mem_map.1 hv
  exact off_bd lg (L u hu) (B g hg) (B u hu)
 ·intro v hv
  obtain⟨u,hu,rfl⟩:=List.mem_map.1 hv
  rw [H.tail_iff]
  refine⟨Sp.minus H.len (Sp.times _ H.len (s u hu)) (Sp.times _ H.len (s g hg)),?_⟩
  rw [e8 lg (L u hu)]; grind
 ·intro v hv
  have hv':=(H.tail_iff v).1 hv
  obtain⟨k,hk,hs⟩:=sat v hv'.1
  refine⟨num g (lead r)*k,Int.mul_ne_zero hgp hk,?_⟩
  refine(Sp.map_iff (lin_off lg) L).2 ⟨times k v,hs,?_⟩
  have lv:=hv.len
  apply cB (aD _ lv) (dv lg (aD _ lv))
  intro j
  rw [e8 lg (aD _ lv),aM,aM,aM,hv'.2]
  grind
theorem Form.member{n:Nat}:∀{h:List Vec},Form n h->∀{w:Vec}{X F:Nat},Sp n h w->(∀s∈h,(num w (lead s)).natAbs<=X*(num s (lead s)).natAbs)->Bds F h->∀j,(num w j).natAbs<=X*(2^h.length - 1)*2^F
 | [],_,w,X,F,hw,_,_,j=>by
   rw [show w=Tg.zero n from hw,a6]; simp
 | r::h,H,w,X,F,⟨lw,k,hk⟩,hs,hF,j=>by
   have lr:=H.len.head
   have hm:=H.head_mul lw hk
   have p:=H.hpos
   have h1:=hs r List.mem_cons_self
   rw [hm,Int.natAbs_mul] at h1
   have hkX:k.natAbs<=X:=Nat.le_of_mul_le_mul_right h1 (by omega)
   have ih:=Form.member H.tail (X:=2*X) (F:=F) hk (by
    intro s hs'
    rw [cG _ lw lr]
    have h2:=hs s (List.mem_cons_of_mem _ hs')
    have h3:=(List.pairwise_cons.1 H.red).1 s hs'
    have h4:=c6 (num w (lead s)) k (num r (lead s))
    have h5:k.natAbs*(num r (lead s)).natAbs<=X*(num s (lead s)).natAbs:=Nat.mul_le_mul hkX (by omega)
    have e:2*X*(num s (lead s)).natAbs=X*(num s (lead s)).natAbs+X*(num s (lead s)).natAbs:=by grind
    omega) (fun v hv=>hF v (List.mem_cons_of_mem _ hv)) j
   rw [cG _ lw lr] at ih
   have hr:=hF r List.mem_cons_self j
   have h6:k.natAbs*(num r j).natAbs<=X*2^F:=Nat.mul_le_mul hkX (by omega)
   have h7:(num w j).natAbs<=(num w j - k*num r j).natAbs+k.natAbs*(num r j).natAbs:=by
    rw [<- Int.natAbs_mul]; omega
   have e1:X*(2^(h.length+1) - 1)*2^F=2*X*(2^h.length - 1)*2^F+X*2^F:=by
    have:2^(h.length+1) - 1=2*(2^h.length - 1)+1:=by
     rw [Nat.pow_succ]; have:=Nat.two_pow_pos h.length; omega
    rw [this]; grind
   rw [List.length_cons,e1]
   omega
def fb(b:Nat):Nat->Nat
 | 0=>0
 | r+1=>b+r+3+fb (2*b+1) r
theorem fb_mono{b c:Nat}(h:b<=c):∀r,fb b r<=fb c r
 | 0=>Nat.le_refl _
 | r+1=>by
   have:=fb_mono (b:=2*b+1) (c:=2*c+1) (by omega) r
   unfold fb; omega
theorem Gen.form_bd{n:Nat}:∀{h:List Vec}{b:Nat},Form n h->Gen n b h->Bds (fb b h.length) h
 | [],b,_,_=>Bds.nil
 | r::h,b,H,A=>by
   obtain⟨A',g,bg,hg,hgp⟩:=A.step H.toEch
   have ih:=Gen.form_bd H.tail A'
   have p:=H.hpos
   have lr:=H.len.head
   obtain⟨lg,m,hm⟩:=hg
   have em:=H.head_mul lg hm
   have hm0:m≠0:=fun e=>hgp (by rw [em,e]; simp)
   have hmb:m.natAbs<=2^b:=by
    have h1:=bg (lead r)
    rw [em,Int.natAbs_mul] at h1
    have:m.natAbs*1<=m.natAbs*(num r (lead r)).natAbs:=Nat.mul_le_mul_left _ (by omega)
    omega
   have hw:=Form.member H.tail (X:=2*2^b) (F:=fb (2*b+1) h.length) hm (by
    intro s hs
    rw [cG _ lg lr]
    have h2:=bg (lead s)
    have h3:=(List.pairwise_cons.1 H.red).1 s hs
    have h4:=c6 (num g (lead s)) m (num r (lead s))
    have h5:m.natAbs*(num r (lead s)).natAbs<=2^b*(num s (lead s)).natAbs:=Nat.mul_le_mul hmb (by omega)
    have h6:2^b*1<=2^b*(num s (lead s)).natAbs:=Nat.mul_le_mul_left _ (by omega)
    have e:2*2^b*(num s (lead s)).natAbs=2^b*(num s (lead s)).natAbs+2^b*(num s (lead s)).natAbs:=by grind
    omega) ih
   intro v hv
   rcases List.mem_cons.1 hv with e | e
   ·subst e
    intro j
    have h1:=hw j
    rw [cG _ lg lr] at h1
    have h2:=bg j
    have h3:(num v j).natAbs<=(m*num v j).natAbs:=by
     rw [Int.natAbs_mul]
     have:1*(num v j).natAbs<=m.natAbs*(num v j).natAbs:=Nat.mul_le_mul_right _ (by omega)
     omega
    have h4:(num v j).natAbs<=(num g j).natAbs+(num g j - m*num v j).natAbs:=by omega
    rw [List.length_cons]
    show _<2^(b+h.length+3+fb (2*b+1) h.length)
    have e1:2^(b+h.length+3+fb (2*b+1) h.length)=8*(2^b*2^h.length*2^fb (2*b+1) h.length):=by
     rw [Nat.pow_add,Nat.pow_add,Nat.pow_add]; grind
    have e2:2*2^b*(2^h.length - 1)*2^fb (2*b+1) h.length<=2*(2^b*2^h.length*2^fb (2*b+1) h.length):=by
     have:2*2^b*(2^h.length - 1)*2^fb (2*b+1) h.length<=2*2^b*2^h.length*2^fb (2*b+1) h.length:=Nat.mul_le_mul_right _ (Nat.mul_le_mul_left _ (Nat.sub_le _ _))
     have e:2*2^b*2^h.length*2^fb (2*b+1) h.length=2*(2^b*2^h.length*2^fb (2*b+1) h.length):=by grind
     omega
    have e3:2^b<=2^b*2^h.length*2^fb (2*b+1) h.length:=by
     have h5:2^b*1<=2^b*2^h.length:=Nat.mul_le_mul_left _ (Nat.one_le_two_pow)
     have h6:2^b*2^h.length*1<=2^b*2^h.length*2^fb (2*b+1) h.length:=Nat.mul_le_mul_left _ (Nat.one_le_two_pow)
     omega
    rw [e1]
    generalize 2^b*2^h.length*2^fb (2*b+1) h.length=Z at *
    omega
   ·refine(ih v e).mono ?_
    show _<=b+h.length+3+fb (2*b+1) h.length
    omega
def el(b:Nat):Nat->Nat
 | 0=>b
 | k+1=>el (2*b+1) k
theorem el_mono{b c:Nat}(h:b<=c):∀k,el b k<=el c k
 | 0=>h
 | k+1=>el_mono (by omega) k
theorem jG(b:Nat):∀k,b<=el b k
 | 0=>Nat.le_refl _
 | k+1=>Nat.le_trans (by omega) (jG (2*b+1) k)
theorem jI(b:Nat){j k:Nat}(h:j<=k):el b j<=el b k:=by
 induction j generalizing b k with
 | zero=>exact jG b k
 | succ j ih=>
   cases k with
   | zero=>omega
   | succ k=>exact ih (2*b+1) (by omega)
theorem gP(b:Nat):∀k,el b k+1=2^k*(b+1)
 | 0=>by simp [el]
 | k+1=>by
   show el (2*b+1) k+1=_
   rw [gP (2*b+1) k,Nat.pow_succ]; grind
theorem Gen.filter{N m:Nat}:∀{h:List Vec}{b:Nat},Ech N h->Gen N b h->∀{k:Nat},(h.filter fun(r:Vec)=>!isZero (r.take m)).length<=k->Gen N (el b k) (h.filter fun(r:Vec)=>isZero (r.take m))
 | [],b,_,A,k,_=>A.mono (jG b k)
 | r::h,b,H,A,k,hk=>by
   by_cases hr:isZero (r.take m)=true
   ·have e:(r::h).filter (fun(r:Vec)=>isZero (r.take m))=r::h:=by
     rw [List.filter_eq_self]
     intro s hs
     rcases List.mem_cons.1 hs with h1 | h1
     ·rw [h1]; exact hr
     ·exact H.all_behind hr s h1
    rw [e]
    exact A.mono (jG b k)
   ·rw [List.filter_cons_of_neg (p:=fun(r:Vec)=>isZero (r.take m)) hr]
    rw [List.filter_cons_of_pos (p:=fun(r:Vec)=>!isZero (r.take m)) (by simpa using hr),List.length_cons] at hk
    cases k with
    | zero=>omega
    | succ k=>exact Gen.filter H.tail (A.step H).1 (by omega)
theorem behind_sp{m n:Nat}{h:List Vec}(H:Ech (m+n) h):h.filter (fun(r:Vec)=>isZero (r.take m))=(behind m h).map (fun w=>Tg.zero m++w):=by
 unfold behind
 rw [List.map_map]
 conv=>lhs; rw [<- List.map_id (h.filter _)]
 apply List.map_congr_left
 intro r hr
 exact take_zero (H.len r (List.mem_filter.1 hr).1) (List.mem_filter.1 hr).2
theorem Gen.behind{m n b k:Nat}{h:List Vec}(H:Form (m+n) h)(A:Gen (m+n) b h)(hk:(h.filter fun(r:Vec)=>!isZero (r.take m)).length<=k):Gen n (el b k) (behind m h):=by
 have A':=A.filter H.toEch hk
 rw [behind_sp H.toEch] at A'
 obtain⟨G,L,B,s,sat⟩:=A'
 have lb:=(behind_form H).len
 refine⟨G.map (fun v=>v.drop m),?_,?_,?_,?_⟩
 ·intro v hv
  obtain⟨u,hu,rfl⟩:=List.mem_map.1 hv
  have:=L u hu
  simp; omega
 ·intro v hv
  obtain⟨u,hu,rfl⟩:=List.mem_map.1 hv
  intro j
  rw [cr]; exact B u hu _
 ·intro v hv
  obtain⟨u,hu,rfl⟩:=List.mem_map.1 hv
  obtain⟨a,ha,e⟩:=(Sp.map_iff (de m n) lb).1 (s u hu)
  rw [e,List.drop_left' (aH m)]; exact ha
 ·intro v hv
  obtain⟨j,hj,hs⟩:=sat (Tg.zero m++v) ((Sp.map_iff (de m n) lb).2 ⟨v,hv,rfl⟩)
  refine⟨j,hj,?_⟩
  have eG:G=(G.map (fun v=>v.drop m)).map (fun w=>Tg.zero m++w):=by
   rw [List.map_map]
   conv=>lhs; rw [<- List.map_id G]
   apply List.map_congr_left
   intro u hu
   obtain⟨a,ha,e⟩:=(Sp.map_iff (de m n) lb).1 (s u hu)
   show u=Tg.zero m++u.drop m
   rw [e,List.drop_left' (aH m)]
  have lG:Len n (G.map (fun v=>v.drop m)):=by
   intro v hv
   obtain⟨u,hu,rfl⟩:=List.mem_map.1 hv
   have:=L u hu
   simp; omega
  rw [eG,dC,eX] at hs
  obtain⟨a,ha,e⟩:=(Sp.map_iff (de m n) lG).1 hs
  rw [List.append_cancel_left e]; exact ha
theorem ahead_le{N m:Nat}:∀{h:List Vec}{j:Nat},Ech N h->(∀r∈h,j<=lead r)->(h.filter fun(r:Vec)=>!isZero (r.take m)).length<=m - j
 | [],_,_,_=>by simp
 | r::h,j,H,hj=>by
   by_cases hr:isZero (r.take m)=true
   ·have e:(r::h).filter (fun(r:Vec)=>!isZero (r.take m))=[]:=by
     rw [List.filter_eq_nil_iff]
     intro s hs
     rcases List.mem_cons.1 hs with h1 | h1
     ·rw [h1]; simp [hr]
     ·simp [H.all_behind hr s h1]
    rw [e]; simp
   ·rw [List.filter_cons_of_pos (p:=fun(r:Vec)=>!isZero (r.take m)) (by simpa using hr),List.length_cons]
    have ih:=ahead_le (m:=m) (j:=lead r+1) H.tail (fun s hs=>H.above s hs)
    have h1:=hj r List.mem_cons_self
    have hl:lead r<m:=by
     rcases Nat.lt_or_ge (lead r) m with h1 | h1
     ·exact h1
     ·exfalso; apply hr; rw [cI]
      intro j hj; exact a5 (by omega)
    omega
theorem Gen.map{n m b:Nat}{f:Vec->Vec}(F:Lin n m f)(fbd:∀v,v.length=n->Bd b v->Bd b (f v)){g:List Vec}(L:Len n g)(A:Gen n b g):Gen m b (g.map f):=by
 obtain⟨G,LG,B,s,sat⟩:=A
 refine⟨G.map f,LG.map F,?_,?_,?_⟩
 ·intro v hv
  obtain⟨u,hu,rfl⟩:=List.mem_map.1 hv
  exact fbd u (LG u hu) (B u hu)
 ·intro v hv
  obtain⟨u,hu,rfl⟩:=List.mem_map.1 hv
  exact(Sp.map_iff F L).2 ⟨u,s u hu,rfl⟩
 ·intro v hv
  obtain⟨a,ha,rfl⟩:=(Sp.map_iff F L).1 hv
  obtain⟨k,hk,hs⟩:=sat a ha
  refine⟨k,hk,(Sp.map_iff F LG).2 ⟨_,hs,?_⟩⟩
  have e:=F.pt (Tg.zero n) a k (aH n) ha.len
  rw [zero_plus (aD _ ha.len),F.zero,zero_plus (aD _ (F.len a ha.len))] at e
  exact e.symm
theorem num_append{a b:Vec}(j:Nat):num (a++b) j=if j<a.length then num a j else num b (j - a.length):=by
 split
 ·rename_i h; exact num_append_left h
 ·rename_i h
  have e:j=a.length+(j - a.length):=by omega
  conv=>lhs; rw [e]
  exact num_append_right _
theorem Bd.append{b:Nat}{u v:Vec}(hu:Bd b u)(hv:Bd b v):Bd b (u++v):=by
 intro j
 rw [num_append]
 split
 ·exact hu _
 ·exact hv _
theorem Gen.meet{n b:Nat}{g h:List Vec}(LG:Len n g)(LH:Len n h)(A:Gen n b g)(B:Gen n b h):Gen n (el b n) (Tg.meet n g h):=by
 have R:=meet_rows_len LG LH
 have A1:=A.map (lin_twice n) (fun v _ hv=>hv.append hv) LG
 have B1:=B.map (lin_ahead n) (fun v _ hv=>hv.append (Bd.zero b n)) LH
 have C:=(A1.append (LG.map (lin_twice n)) (LH.map (lin_ahead n)) B1).same (dE R).symm
 have F:=bu R
 unfold Tg.meet
 generalize Tg.form (2*n) ((g.map fun(r:Vec)=>r++r)++h.map fun(r:Vec)=>r++Tg.zero n)=f at C F ⊢
 have e:2*n=n+n:=Nat.two_mul n
 rw [e] at C F
 refine Gen.behind F C ?_
 have:=ahead_le (m:=n) (j:=0) F.toEch (fun _ _=>Nat.zero_le _)
 simpa using this
theorem column_len(j:Nat)(rows:List Vec):(column j rows).1.toList.length+(column j rows).2.length=rows.length:=by
 unfold column
 have main:∀(rest:List Vec)(z:Option Vec × List Vec),
   (rest.foldl (fun(z:Option Vec × List Vec)(r:Vec)=>match z.1 with
    | none=>if num r j=0 then(none,z.2++[r]) else(some r,z.2)
    | some q=>let x:=euclid j ((num r j).natAbs+2) q r
      (some x.1,z.2++[x.2])) z).1.toList.length+(rest.foldl (fun(z:Option Vec × List Vec)(r:Vec)=>match z.1 with
    | none=>if num r j=0 then(none,z.2++[r]) else(some r,z.2)
    | some q=>let x:=euclid j ((num r j).natAbs+2) q r
      (some x.1,z.2++[x.2])) z).2.length=z.1.toList.length+z.2.length+rest.length:=by
  intro rest
  induction rest with
  | nil=>intro z; simp
  | cons r rest ih=>
    intro z
    rw [List.foldl_cons,ih]
    obtain⟨o,l⟩:=z
    cases o with
    | none=>
      dsimp only
      split <;> simp <;> omega
    | some q=>simp; omega
 exact(main rows (none,[])).trans (by simp)
theorem formFrom_len:∀(k j:Nat)(done rest:List Vec),(formFrom k j done rest).length<=done.length+rest.length
 | 0,_,done,rest=>by simp [formFrom]
 | k+1,j,done,rest=>by
   have C:=column_len j rest
   unfold formFrom
   split
   ·rename_i l e
    rw [e] at C
    have ih:=formFrom_len k (j+1) done l
    simp at C
    omega
   ·rename_i q l e
    rw [e] at C
    have ih:=formFrom_len k (j+1) ((done.map fun(r:Vec)=>minus r (times (num r j/num (upright q) j) (upright q)))++[upright q]) l
    simp at C ih ⊢
    omega
theorem form_len(n:Nat)(rows:List Vec):(Tg.form n rows).length<=rows.length:=by
 have:=formFrom_len n 0 [] rows
 simpa [Tg.form] using this
theorem across_congr{n:Nat}{g h:List Vec}(G:Len n g)(H:Len n h)(e:∀v:Vec,v.length=n->((∀r∈g,dot r v=0)↔(∀r∈h,dot r v=0))):across n g=across n h:=by
 refine Form.unique (cb G) (cb H) ?_
 intro v
 rw [eh G,eh H]
 constructor
 ·rintro⟨lv,hv⟩; exact⟨lv,(e v lv).1 hv⟩
 ·rintro⟨lv,hv⟩; exact⟨lv,(e v lv).2 hv⟩
theorem dot_sp{n:Nat}{h:List Vec}(H:Len n h){v u:Vec}(hv:∀r∈h,dot r v=0)(hu:Sp n h u):dot u v=0:=by
 refine Sp.le_of (P:=fun u=>dot u v=0) (by rw [ai,fm]) ?_ H hv hu
 intro a b k la lb ha hb
 rw [ai,ip _ _ la lb,ai v a,ai v b,ha,hb]; omega
theorem filter_split{α:Type}(p:α->Bool)(l:List α):(l.filter p).length+(l.filter fun x=>!p x).length=l.length:=by
 induction l with
 | nil=>rfl
 | cons x l ih=>
   by_cases h:p x=true
   ·rw [List.filter_cons_of_pos h,List.filter_cons_of_neg (by simp [h])]; simp; omega
   ·rw [List.filter_cons_of_neg h,List.filter_cons_of_pos (by simpa using h)]; simp; omega
theorem Gen.across{n b:Nat}{h:List Vec}(hb:1<=b)(H:Len n h)(A:Gen n b h):Gen n (el b (n - 1)) (Tg.across n h):=by
 obtain⟨G,L,B,s,sat⟩:=A
 have e:Tg.across n h=Tg.across n G:=by
  refine across_congr H L ?_
  intro v lv
  constructor
  ·intro hv g hg; exact dot_sp H hv (s g hg)
  ·intro hv r hr
   obtain⟨k,hk,hs⟩:=sat r (Sp.mem H hr)
   have:=dot_sp L hv hs
   rw [ai,cA,ai] at this
   rcases Int.mul_eq_zero.1 this with e | e
   ·exact absurd e hk
   ·exact e
 rw [e]
 have UL:=(d4 n).len
 have R:=UL.map (gU G L)
 have F:=bu R
 have bR:Bds b ((units n).map (fun x=>(G.map fun(r:Vec)=>dot r x)++x)):=by
  rw [<- eC L]
  intro v hv
  obtain⟨j,hj,rfl⟩:=List.mem_map.1 hv
  have hj:=List.mem_range.1 hj
  refine Bd.append ?_ ?_
  ·intro i
   simp only [num,List.getD_eq_getElem?_getD,List.getElem?_map]
   cases e:G[i]? with
   | none=>simp [Nat.two_pow_pos]
   | some g=>exact B g (List.mem_of_getElem? e) j
  ·intro i
   rcases Nat.lt_or_ge i n with hi | hi
   ·rw [cF hi]
    have:(2:Nat)^1<=2^b:=Nat.pow_le_pow_right (by omega) hb
    split <;> simp <;> omega
   ·rw [ba (by rw [b5]; exact hi)]; simp [Nat.two_pow_pos]
 have C:=Gen.form R bR
 have hlen:(Tg.form (G.length+n) ((units n).map (fun x=>(G.map fun(r:Vec)=>dot r x)++x))).length<=n:=by
  have:=form_len (G.length+n) ((units n).map (fun x=>(G.map fun(r:Vec)=>dot r x)++x))
  simpa [units] using this
 have ea:Tg.across n G=Tg.behind G.length (Tg.form (G.length+n) ((units n).map (fun x=>(G.map fun(r:Vec)=>dot r x)++x))):=by
  unfold Tg.across
  rw [eC L]
 rw [ea]
 generalize Tg.form (G.length+n) ((units n).map (fun x=>(G.map fun(r:Vec)=>dot r x)++x))=f at F C hlen
 by_cases h0:f.filter (fun(r:Vec)=>isZero (r.take G.length))=[]
 ·have:Tg.behind G.length f=[]:=by unfold Tg.behind; rw [h0]; rfl
  rw [this]
  exact Gen.rows Len.nil Bds.nil
 ·refine Gen.behind F C ?_
  have h1:=filter_split (fun(r:Vec)=>isZero (r.take G.length)) f
  have h2:(f.filter (fun(r:Vec)=>isZero (r.take G.length))).length≠0:=fun e=>h0 (List.length_eq_zero_iff.1 e)
  omega
theorem dot_minus{n:Nat}(r:Vec){a b:Vec}(k:Int)(la:a.length=n)(lb:b.length=n):dot r (minus a (times k b))=dot r a - k*dot r b:=by
 have e:minus a (times k b)=plus a (times (-k) b):=by
  apply cB (aG la (aD _ lb)) (aW la (aD _ lb))
  intro j; rw [cG _ la lb,fh _ la lb]; grind
 rw [e,ip _ _ la lb]; grind
theorem Ech.normal{n:Nat}:∀{h:List Vec},Ech n h->∀{c:Nat},c<n->(∀r∈h,lead r≠c)->
  ∃u:Vec,u.length=n/\num u c≠0/\(∀j,j≠c->(∀r∈h,lead r≠j)->num u j=0)/\∀r∈h,dot r u=0
 | [],_,c,hc,_=>by
   refine⟨unit n c,b5 n c,by rw [cF hc]; simp,?_,by simp⟩
   intro j hj _
   rcases Nat.lt_or_ge j n with h | h
   ·rw [cF h,if_neg hj]
   ·exact ba (by rw [b5]; exact h)
 | r::h,H,c,hc,hn=>by
   obtain⟨u,lu,hu,hz,hd⟩:=Ech.normal H.tail hc (fun s hs=>hn s (List.mem_cons_of_mem _ hs))
   have p:=H.hpos
   have ll:=H.lead_lt (List.mem_cons_self (a:=r) (l:=h))
   have lun:=b5 n (lead r)
   have lr:=H.len.head
   have du:∀s:Vec,s.length=n->dot s (unit n (lead r))=num s (lead r):=by
    intro s ls
    have:=dot_unit s (lead r) (by omega)
    rw [ls] at this; exact this
   have hrc:=hn r List.mem_cons_self
   refine⟨minus (times (num r (lead r)) u) (times (dot r u) (unit n (lead r))),aG (aD _ lu) (aD _ lun),?_,?_,?_⟩
   ·rw [cG _ (aD _ lu) lun,aM,cF hc,if_neg (fun e=>hrc e.symm)]
    intro e
    have:num r (lead r)*num u c=0:=by omega
    rcases Int.mul_eq_zero.1 this with e1 | e1
    ·omega
    ·exact hu e1
   ·intro j hj hp
    have hj1:=hp r List.mem_cons_self
    rw [cG _ (aD _ lu) lun,aM,hz j hj (fun s hs=>hp s (List.mem_cons_of_mem _ hs))]
    rcases Nat.lt_or_ge j n with h1 | h1
    ·rw [cF h1,if_neg (fun e=>hj1 e.symm)]; omega
    ·rw [ba (v:=unit n (lead r)) (by rw [lun]; exact h1)]; omega
   ·intro s hs
    rw [dot_minus _ _ (aD _ lu) lun,cA,du s (H.len s hs)]
    rcases List.mem_cons.1 hs with e | e
    ·subst e; grind
    ·rw [hd s e,a5 (H.above s e)]; omega
theorem Ech.cleared{n:Nat}:∀{h:List Vec},Ech n h->∀{v:Vec},v.length=n->∃(D:Int)(w:Vec),D≠0/\w.length=n/\Sp n h (minus (times D v) w)/\(∀r∈h,num w (lead r)=0)
 | [],_,v,lv=>by
   refine⟨1,v,by decide,lv,?_,by simp⟩
   show _=_
   apply cB (aG (aD _ lv) lv) (aH n)
   intro j; rw [aa (aD _ lv) lv,aM,a6]; omega
 | r::h,H,v,lv=>by
   have lr:=H.len.head
   have p:=H.hpos
   obtain⟨D,w,hD,lw,hs,hz⟩:=Ech.cleared H.tail (v:=minus (times (num r (lead r)) v) (times (num v (lead r)) r)) (aG (aD _ lv) (aD _ lr))
   have lm:=aG (aD (num r (lead r)) lv) (aD (num v (lead r)) lr)
   refine⟨D*num r (lead r),w,Int.mul_ne_zero hD (by omega),lw,⟨aG (aD _ lv) lw,D*num v (lead r),?_⟩,?_⟩
   ·have e:minus (minus (times (D*num r (lead r)) v) w) (times (D*num v (lead r)) r)=minus (times D (minus (times (num r (lead r)) v) (times (num v (lead r)) r))) w:=by
     apply cB (aG (aG (aD _ lv) lw) (aD _ lr)) (aG (aD _ lm) lw)
     intro j
     rw [cG _ (aG (aD _ lv) lw) lr,aa (aD _ lv) lw,aM,aa (aD _ lm) lw,aM,cG _ (aD _ lv) lr,aM]
     grind
    rw [e]; exact hs
   ·intro s hs'
    rcases List.mem_cons.1 hs' with e | e
    ·subst e
     have h1:=H.below hs (Nat.le_refl _)
     rw [aa (aD _ lm) lw,aM,cG _ (aD _ lv) lr,aM] at h1
     have h2:num s (lead s)*num v (lead s) - num v (lead s)*num s (lead s)=0:=by grind
     rw [h2] at h1; omega
    ·exact hz s e
theorem dot_single:∀{u w:Vec}{c:Nat},(∀j,j≠c->num u j*num w j=0)->dot u w=num u c*num w c
 | [],w,c,_=>by rw [dH,hZ]; omega
 | x::u,[],c,_=>by rw [cP,hZ]; omega
 | x::u,y::w,0,h=>by
   rw [b9,cW,cW]
   have:dot u w=0:=by
    have:=dot_single (u:=u) (w:=w) (c:=u.length) (fun j _=>by have:=h (j+1) (by omega); rwa [bb,bb] at this)
    rw [this,ba (Nat.le_refl _)]; omega
   omega
 | x::u,y::w,c+1,h=>by
   rw [b9,bb,bb]
   have h0:=h 0 (by omega)
   rw [cW,cW] at h0
   rw [h0,dot_single (u:=u) (w:=w) (c:=c) (fun j hj=>by have:=h (j+1) (by omega); rwa [bb,bb] at this)]
   omega
theorem fill_iff{n:Nat}{h:List Vec}(H:Ech n h)(v:Vec):Sp n (fill n h) v↔v.length=n/\∃D:Int,D≠0/\Sp n h (times D v):=by
 have FA:=cb H.len
 unfold fill
 rw [across_sp FA.len]
 constructor
 ·rintro⟨lv,hv⟩
  obtain⟨D,w,hD,lw,hs,hz⟩:=H.cleared lv
  refine⟨lv,D,hD,?_⟩
  have hw:∀u,Sp n (Tg.across n h) u->dot u w=0:=by
   intro u hu
   have h1:=hv u hu
   have h2:=((across_sp H.len u).1 hu).2 _ hs
   rw [ai] at h2
   have e:minus (times D v) w=minus (times D v) (times 1 w):=by rw [fu lw]
   rw [e,dot_minus _ _ (aD _ lv) lw,cA,h1] at h2
   omega
  have hw0:w=Tg.zero n:=by
   apply cB lw (aH n)
   intro c
   rw [a6]
   apply Classical.byContradiction
   intro hc0
   have hc:c<n:=by
    rcases Nat.lt_or_ge c n with h1 | h1
    ·exact h1
    ·exact absurd (ba (by rw [lw]; exact h1)) hc0
   have hnp:∀r∈h,lead r≠c:=fun r hr e=>hc0 (by rw [<- e]; exact hz r hr)
   obtain⟨u,lu,hu,huz,hud⟩:=H.normal hc hnp
   have hua:Sp n (Tg.across n h) u:=(eh H.len u).2 ⟨lu,hud⟩
   have h1:=hw u hua
   rw [dot_single (c:=c)] at h1
   ·rcases Int.mul_eq_zero.1 h1 with e | e
    ·exact hu e
    ·exact hc0 e
   ·intro j hj
    by_cases hp:∀r∈h,lead r≠j
    ·rw [huz j hj hp]; omega
    ·have:∃r∈h,lead r=j:=Classical.byContradiction fun hne=>hp fun r hr e=>hne ⟨r,hr,e⟩
     obtain⟨r,hr,e⟩:=this
     rw [<- e,hz r hr]; omega
  rw [hw0,c7 (aD _ lv)] at hs
  exact hs
 ·rintro⟨lv,D,hD,hs⟩
  refine⟨lv,fun u hu=>?_⟩
  have h1:=((across_sp H.len u).1 hu).2 _ hs
  rw [ai,cA] at h1
  rcases Int.mul_eq_zero.1 h1 with e | e
  ·exact absurd e hD
  ·exact e
theorem fill_form{n:Nat}{h:List Vec}(H:Len n h):Form n (fill n h):=cb (cb H).len
theorem Gen.fill{n b:Nat}{h:List Vec}(H:Ech n h)(A:Gen n b h):Gen n b (Tg.fill n h):=by
 obtain⟨G,L,B,s,sat⟩:=A
 refine⟨G,L,B,?_,?_⟩
 ·intro g hg
  have:=s g hg
  exact(fill_iff H g).2 ⟨this.len,1,by decide,by rw [fu this.len]; exact this⟩
 ·intro v hv
  obtain⟨lv,D,hD,hs⟩:=(fill_iff H v).1 hv
  obtain⟨k,hk,hks⟩:=sat _ hs
  exact⟨k*D,Int.mul_ne_zero hk hD,by rw [<- times_times]; exact hks⟩
def ca(n:Nat):Nat->List Int->List Vec
 | 0,_=>[]
 | k+1,l=>l.take n::ca n k (l.drop n)
theorem dg(n:Nat):∀(k:Nat)(l:List Int),(ca n k l).length=k
 | 0,_=>rfl
 | k+1,l=>by simp [ca,dg n k]
theorem chunks_rows{n:Nat}:∀(k:Nat)(l:List Int),k*n<=l.length->Len n (ca n k l)
 | 0,_,_=>Len.nil
 | k+1,l,h=>by
   have e:(k+1)*n=k*n+n:=by grind
   refine Len.cons (by simp; omega) (chunks_rows k (l.drop n) (by simp; omega))
theorem chunks_get{n:Nat}:∀(k:Nat)(l:List Int)(i:Nat),i<k->(ca n k l)[i]? =some ((l.drop (i*n)).take n)
 | k+1,l,0,_=>by simp [ca]
 | k+1,l,i+1,h=>by
   have ih:=chunks_get (n:=n) k (l.drop n) i (by omega)
   have e:(i+1)*n=n+i*n:=by grind
   show(ca n k (l.drop n))[i]? =_
   rw [ih,List.drop_drop,e]
theorem chunks_bd{n b:Nat}:∀(k:Nat)(l:List Int),(∀x∈l,x.natAbs<2^b)->Bds b (ca n k l)
 | 0,_,_=>Bds.nil
 | k+1,l,h=>by
   intro v hv
   rcases List.mem_cons.1 hv with e | e
   ·subst e
    intro j
    rcases Nat.lt_or_ge j (l.take n).length with hj | hj
    ·have:num (l.take n) j∈l.take n:=by
      simp only [num,List.getD_eq_getElem?_getD,List.getElem?_eq_getElem hj]
      exact List.getElem_mem hj
     exact h _ (List.mem_of_mem_take this)
    ·rw [ba hj]; simp [Nat.two_pow_pos]
   ·exact chunks_bd k (l.drop n) (fun x hx=>h x (List.mem_of_mem_drop hx)) v e
theorem vecsIn_eq{n:Nat}(hn:0<n):∀(k:Nat)(l:List Int),TgCalls.vecsIn n k l=if l.length%n=0/\l.length<=k*n then some (ca n (l.length/n) l) else none
 | k,[]=>by simp [TgCalls.vecsIn,ca]
 | 0,x::l=>by simp [TgCalls.vecsIn]
 | k+1,x::l=>by
   unfold TgCalls.vecsIn
   have ek:(k+1)*n=k*n+n:=by grind
   split
   ·rename_i h
    rw [if_neg]
    rintro⟨h1,_⟩
    rw [Nat.mod_eq_of_lt h] at h1
    simp at h1
   ·rename_i h
    have h:n<=(x::l).length:=by omega
    rw [vecsIn_eq hn k ((x::l).drop n)]
    have ld:((x::l).drop n).length=(x::l).length - n:=by simp
    have em:((x::l).length - n)%n=(x::l).length%n:=(Nat.mod_eq_sub_mod h).symm
    have ed:(x::l).length/n=((x::l).length - n)/n+1:=Nat.div_eq_sub_div hn h
    rw [ld]
    by_cases hc:((x::l).length - n)%n=0/\(x::l).length - n<=k*n
    ·rw [if_pos hc,if_pos ⟨by rw [<- em]; exact hc.1,by omega⟩,ed]
     rfl
    ·rw [if_neg hc,if_neg]
     rintro⟨h1,h2⟩
     exact hc ⟨by rw [em]; exact h1,by omega⟩
theorem vecsOf_eq{n:Nat}(h1:1<=n)(h3:n<=3)(l:List Int):TgCalls.vecsOf n l=if l.length%n=0/\l.length<=12*n then some (ca n (l.length/n) l) else none:=by
 unfold TgCalls.vecsOf
 rw [if_neg (by unfold TgCalls.PLACES; omega)]
 exact vecsIn_eq (by omega) 12 l
theorem eV{n:Nat}(h:n=0\/3<n)(l:List Int):TgCalls.vecsOf n l=none:=by
 unfold TgCalls.vecsOf
 rw [if_pos (by unfold TgCalls.PLACES; omega)]
def isPlain(p:Int):Prop:=p=3\/p=6\/p=11\/p=12\/p=13
def cz(p:Int):Prop:=p=2\/p=4\/p=5\/p=7\/p=8\/p=9\/p=10\/p=15
inductive Reads:List Int->List (List (List Int))->Prop
 | nil:Reads [] []
 | plain {p:Int} {t:List Int} {cs:List (List (List Int))}:isPlain p->Reads t cs->Reads (p::t) ([[p]]::cs)
 | short {x:Int} {t:List Int} {cs:List (List (List Int))}:Reads t cs->Reads (14::x::t) ([[14,x]]::cs)
 | row {p:Int} {r t:List Int} {cs:List (List (List Int))}:cz p->Reads t cs->Reads (p::(r.length:Int)::(r++t)) ([[p],r]::cs)
 | fresh {x:Int} {r t:List Int} {cs:List (List (List Int))}:Reads t cs->Reads (1::x::(r.length:Int)::(r++t)) ([[1,x],r]::cs)
theorem row_some{l x s:List Int}(h:PyFlat.row l=some (x,s)):l=(x.length:Int)::(x++s):=by
 cases l with
 | nil=>simp [PyFlat.row] at h
 | cons n r=>
   simp only [PyFlat.row] at h
   split at h
   ·rename_i hc
    have h:=Option.some.inj h
    have e1:=(Prod.mk.inj h).1
    have e2:=(Prod.mk.inj h).2
    subst e1 e2
    rw [List.take_append_drop]
    congr 1
    simp; omega
   ·simp at h
theorem rows_one{l s:List Int}{xs:List (List Int)}(h:PyFlat.rows 1 l=some (xs,s)):∃x,xs=[x]/\l=(x.length:Int)::(x++s):=by
 unfold PyFlat.rows at h
 split at h
 ·simp at h
 ·rename_i x t e
  simp only [PyFlat.rows] at h
  have h:=Option.some.inj h
  have e1:=(Prod.mk.inj h).1
  have e2:=(Prod.mk.inj h).2
  subst e1 e2
  exact⟨x,rfl,row_some e⟩
theorem rows_none{l s:List Int}{xs:List (List Int)}(h:PyFlat.rows 0 l=some (xs,s)):xs=[]/\s=l:=by
 simp only [PyFlat.rows] at h
 have h:=Option.some.inj h
 exact⟨(Prod.mk.inj h).1.symm,(Prod.mk.inj h).2.symm⟩
theorem shape_cases{p:Int}{n k:Nat}(es:PyYqtgda.shape p=some (n,k)):(n=1/\k=1/\p=1)\/(n=0/\k=1/\cz p)\/(n=0/\k=0/\isPlain p)\/(n=1/\k=0/\p=14):=by
 unfold PyYqtgda.shape at es
 by_cases h1:p=1
 ·rw [if_pos h1] at es
  have es:=Option.some.inj es
  obtain⟨rfl,rfl⟩:=Prod.mk.inj es
  subst h1
  unfold cz isPlain; omega
 rw [if_neg h1] at es
 by_cases h2:p=2
 ·rw [if_pos h2] at es
  have es:=Option.some.inj es
  obtain⟨rfl,rfl⟩:=Prod.mk.inj es
  subst h2
  unfold cz isPlain; omega
 rw [if_neg h2] at es
 by_cases h3:p=3
 ·rw [if_pos h3] at es
  have es:=Option.some.inj es
  obtain⟨rfl,rfl⟩:=Prod.mk.inj es
  subst h3
  unfold cz isPlain; omega
 rw [if_neg h3] at es
 by_cases h4:p=4
 ·rw [if_pos h4] at es
  have es:=Option.some.inj es
  obtain⟨rfl,rfl⟩:=Prod.mk.inj es
  subst h4
  unfold cz isPlain; omega
 rw [if_neg h4] at es
 by_cases h5:p=5
 ·rw [if_pos h5] at es
  have es:=Option.some.inj es
  obtain⟨rfl,rfl⟩:=Prod.mk.inj es
  subst h5
  unfold cz isPlain; omega
 rw [if_neg h5] at es
 by_cases h6:p=6
 ·rw [if_pos h6] at es
  have es:=Option.some.inj es
  obtain⟨rfl,rfl⟩:=Prod.mk.inj es
  subst h6
  unfold cz isPlain; omega
 rw [if_neg h6] at es
 by_cases h7:p=7
 ·rw [if_pos h7] at es
  have es:=Option.some.inj es
  obtain⟨rfl,rfl⟩:=Prod.mk.inj es
  subst h7
  unfold cz isPlain; omega
 rw [if_neg h7] at es
 by_cases h8:p=8
 ·rw [if_pos h8] at es
  have es:=Option.some.inj es
  obtain⟨rfl,rfl⟩:=Prod.mk.inj es
  subst h8
  unfold cz isPlain; omega
 rw [if_neg h8] at es
 by_cases h9:p=9
 ·rw [if_pos h9] at es
  have es:=Option.some.inj es
  obtain⟨rfl,rfl⟩:=Prod.mk.inj es
  subst h9
  unfold cz isPlain; omega
 rw [if_neg h9] at es
 by_cases h10:p=10
 ·rw [if_pos h10] at es
  have es:=Option.some.inj es
  obtain⟨rfl,rfl⟩:=Prod.mk.inj es
  subst h10
  unfold cz isPlain; omega
 rw [if_neg h10] at es
 by_cases h11:p=11
 ·rw [if_pos h11] at es
  have es:=Option.some.inj es
  obtain⟨rfl,rfl⟩:=Prod.mk.inj es
  subst h11
  unfold cz isPlain; omega
 rw [if_neg h11] at es
 by_cases h12:p=12
 ·rw [if_pos h12] at es
  have es:=Option.some.inj es
  obtain⟨rfl,rfl⟩:=Prod.mk.inj es
  subst h12
  unfold cz isPlain; omega
 rw [if_neg h12] at es
 by_cases h13:p=13
 ·rw [if_pos h13] at es
  have es:=Option.some.inj es
  obtain⟨rfl,rfl⟩:=Prod.mk.inj es
  subst h13
  unfold cz isPlain; omega
 rw [if_neg h13] at es
 by_cases h14:p=14
 ·rw [if_pos h14] at es
  have es:=Option.some.inj es
  obtain⟨rfl,rfl⟩:=Prod.mk.inj es
  subst h14
  unfold cz isPlain; omega
 rw [if_neg h14] at es
 by_cases h15:p=15
 ·rw [if_pos h15] at es
  have es:=Option.some.inj es
  obtain⟨rfl,rfl⟩:=Prod.mk.inj es
  subst h15
  unfold cz isPlain; omega
 rw [if_neg h15] at es
 cases es
theorem call_cases{p:Int}{r t:List Int}{c:List (List Int)}(h:PyFlat.call PyYqtgda.shape (p::r)=some (c,t)) :
  (isPlain p/\c=[[p]]/\r=t)\/(p=14/\∃x,c=[[14,x]]/\r=x::t)\/(cz p/\∃x,c=[[p],x]/\r=(x.length:Int)::(x++t))\/(p=1/\∃n x,c=[[1,n],x]/\r=n::(x.length:Int)::(x++t)):=by
 simp only [PyFlat.call] at h
 split at h
 ·simp at h
 ·rename_i n k es
  split at h
  ·simp at h
  ·rename_i hl
   split at h
   ·simp at h
   ·rename_i xs t' er
    have h:=Option.some.inj h
    have e1:=(Prod.mk.inj h).1
    have e2:=(Prod.mk.inj h).2
    subst e2
    have hsh:=shape_cases es
    rcases hsh with⟨rfl,rfl,hp⟩ | ⟨rfl,rfl,hp⟩ | ⟨rfl,rfl,hp⟩ | ⟨rfl,rfl,hp⟩
    ·obtain⟨x,rfl,e⟩:=rows_one er
     cases r with
     | nil=>simp at hl
     | cons m r=>
       refine .inr (.inr (.inr ⟨hp,m,x,?_,?_⟩))
       ·rw [<- e1,hp]; rfl
       ·simp at e; rw [e]
    ·obtain⟨x,rfl,e⟩:=rows_one er
     refine .inr (.inr (.inl ⟨hp,x,?_,?_⟩))
     ·rw [<- e1]; rfl
     ·simpa using e
    ·obtain⟨rfl,e⟩:=rows_none er
     refine .inl ⟨hp,?_,?_⟩
     ·rw [<- e1]; rfl
     ·rw [e]; rfl
    ·obtain⟨rfl,e⟩:=rows_none er
     cases r with
     | nil=>simp at hl
     | cons m r=>
       refine .inr (.inl ⟨hp,m,?_,?_⟩)
       ·rw [<- e1,hp]; rfl
       ·rw [e]; rfl
theorem reads_of:∀{f:Nat}{l:List Int}{cs:List (List (List Int))},PyFlat.calls PyYqtgda.shape f l=some cs->Reads l cs
 | f,[],cs,h=>by
   have:cs=[]:=by
    cases f <;> simp [PyFlat.calls] at h <;> exact h
   rw [this]; exact .nil
 | 0,p::r,cs,h=>by simp [PyFlat.calls] at h
 | f+1,p::r,cs,h=>by
   unfold PyFlat.calls at h
   split at h
   ·simp at h
   ·rename_i c t ec
    split at h
    ·simp at h
    ·rename_i cs' ecs
     have h:=Option.some.inj h
     subst h
     have ih:=reads_of ecs
     rcases call_cases ec with⟨hp,rfl,rfl⟩ | ⟨rfl,x,rfl,rfl⟩ | ⟨hp,x,rfl,rfl⟩ | ⟨rfl,n,x,rfl,rfl⟩
     ·exact .plain hp ih
     ·exact .short ih
     ·exact .row hp ih
     ·exact .fresh ih
def Wf(c:List (List Int)):Prop:=(∃p,isPlain p/\c=[[p]])\/(∃x,c=[[14,x]])\/(∃p r,cz p/\c=[[p],r])\/(∃x r,c=[[1,x],r])
theorem Reads.wf{l:List Int}{cs:List (List (List Int))}(h:Reads l cs):∀c∈cs,Wf c:=by
 induction h with
 | nil=>intro c hc; cases hc
 | plain hp _ ih=>
   intro c hc
   rcases List.mem_cons.1 hc with rfl | hc
   ·exact .inl ⟨_,hp,rfl⟩
   ·exact ih c hc
 | short _ ih=>
   intro c hc
   rcases List.mem_cons.1 hc with rfl | hc
   ·exact .inr (.inl ⟨_,rfl⟩)
   ·exact ih c hc
 | row hp _ ih=>
   intro c hc
   rcases List.mem_cons.1 hc with rfl | hc
   ·exact .inr (.inr (.inl ⟨_,_,hp,rfl⟩))
   ·exact ih c hc
 | fresh _ ih=>
   intro c hc
   rcases List.mem_cons.1 hc with rfl | hc
   ·exact .inr (.inr (.inr ⟨_,_,rfl⟩))
   ·exact ih c hc
theorem Wf.whole{c:List (List Int)}(h:Wf c):PyYqtgda.whole c=c:=by
 rcases h with⟨p,hp,rfl⟩ | ⟨x,rfl⟩ | ⟨p,r,hp,rfl⟩ | ⟨x,r,rfl⟩
 ·rcases hp with q | q | q | q | q <;> subst q <;> rfl
 ·rfl
 ·rcases hp with q | q | q | q | q | q | q | q <;> subst q <;> rfl
 ·rfl
theorem calls_reads{l:List Int}{cs:List (List (List Int))}(h:PyYqtgda.calls l=some cs):Reads l cs:=by
 unfold PyYqtgda.calls at h
 split at h
 ·simp at h
 ·rename_i ds e
  have h:=Option.some.inj h
  have e2:ds.map PyYqtgda.whole=ds:=by
   conv=>rhs; rw [<- List.map_id ds]
   apply List.map_congr_left
   intro c hc; exact((reads_of e).wf c hc).whole
  rw [<- h,e2]; exact reads_of e
end Wl
end
section
open Tg TgCalls
namespace Wl
theorem Ech.rank_n{n:Nat}{h:List Vec}(H:Ech n h):h.length<=n:=by
 have:=Ech.rank_le (d4 n) H (fun r hr=>units_all (H.len r hr))
 simpa [units] using this
structure Good(k:Nat)(g:Grid):Prop where
 n1:1<=g.n
 n3:g.n<=3
 form:Form g.n g.h
 gen:Gen g.n (el 4 k) g.h
theorem Good.mono{j k:Nat}{g:Grid}(h:j<=k)(G:Good j g):Good k g:=⟨G.n1,G.n3,G.form,G.gen.mono (jI 4 h)⟩
theorem Good.rank{k:Nat}{g:Grid}(G:Good k g):g.h.length<=g.n:=G.form.toEch.rank_n
theorem fb_le_succ(b r:Nat):fb b r<=fb b (r+1):=by
 have:=fb_mono (b:=b) (c:=2*b+1) (by omega) r
 show _<=b+r+3+fb (2*b+1) r
 omega
theorem fb_le(b:Nat){r s:Nat}(h:r<=s):fb b r<=fb b s:=by
 induction h with
 | refl=>exact Nat.le_refl _
 | step _ ih=>exact Nat.le_trans ih (fb_le_succ b _)
theorem fb3(b:Nat):fb b 3=7*b+16:=by simp [fb]; omega
theorem el7:el 4 7=639:=by decide
theorem Good.bd{k:Nat}{g:Grid}(G:Good k g)(hk:k<=7):Bds 4489 g.h:=by
 have h1:=G.gen.form_bd G.form
 refine h1.mono ?_
 have h2:fb (el 4 k) g.h.length<=fb (el 4 7) g.h.length:=fb_mono (jI 4 hk) _
 have h3:fb (el 4 7) g.h.length<=fb (el 4 7) 3:=fb_le _ (by have:=G.rank; have:=G.n3; omega)
 rw [el7,fb3] at h3
 rw [el7] at h2
 omega
theorem d8{m:Int}{l:List Int}{b:Nat}(hm:m.toNat<2^b)(h:GridNeutral.upTo m l=true):∀x∈l,x.natAbs<2^b:=by
 intro x hx
 unfold GridNeutral.upTo at h
 have:=List.all_eq_true.1 h x hx
 simp at this
 omega
theorem small_bd{b:Nat}{l:List Int}(h:∀x∈l,x.natAbs<2^b):Bd b l:=by
 intro j
 rcases Nat.lt_or_ge j l.length with hj | hj
 ·have:num l j∈l:=by
   simp only [num,List.getD_eq_getElem?_getD,List.getElem?_eq_getElem hj]
   exact List.getElem_mem hj
  exact h _ this
 ·rw [ba hj]; simp [Nat.two_pow_pos]
theorem vecs_of{n:Nat}(h1:1<=n)(h3:n<=3){l:List Int}{x:List Vec}(h:vecsOf n l=some x):x=ca n (l.length/n) l/\l.length%n=0/\l.length<=12*n:=by
 rw [vecsOf_eq h1 h3] at h
 split at h
 ·rename_i hc; exact⟨(Option.some.inj h).symm,hc.1,hc.2⟩
 ·simp at h
theorem eJ{n:Nat}(h1:1<=n)(h3:n<=3){l:List Int}{x:List Vec}(h:vecsOf n l=some x):Len n x:=by
 obtain⟨rfl,hm,_⟩:=vecs_of h1 h3 h
 exact chunks_rows _ _ (by rw [Nat.div_mul_cancel (Nat.dvd_of_mod_eq_zero hm)]; exact Nat.le_refl _)
theorem vecs_bd{n:Nat}(h1:1<=n)(h3:n<=3){l:List Int}{x:List Vec}(h:vecsOf n l=some x)(hs:GridNeutral.upTo 9 l=true):Bds 4 x:=by
 obtain⟨rfl,_,_⟩:=vecs_of h1 h3 h
 exact chunks_bd _ _ (d8 (b:=4) (by decide) hs)
def cost:Call->Nat
 | .meet _=>3
 | .across=>2
 | .fill=>2
 | _=>0
theorem le4(k:Nat):4<=el 4 k:=jG 4 k
theorem Good.fresh{n k:Nat}{l:List Int}{x:List Vec}(h:vecsOf n l=some x)(hs:GridNeutral.upTo 9 l=true):Good k ⟨n,Tg.form n x⟩:=by
 have h13:1<=n/\n<=3:=by
  rcases Nat.lt_or_ge n 1 with h1 | h1
  ·rw [eV (by omega)] at h; simp at h
  ·rcases Nat.lt_or_ge 3 n with h3 | h3
   ·rw [eV (by omega)] at h; simp at h
   ·exact⟨h1,h3⟩
 have L:=eJ h13.1 h13.2 h
 exact⟨h13.1,h13.2,bu L,(Gen.form L (vecs_bd h13.1 h13.2 h hs)).mono (le4 k)⟩
theorem Good.act{k:Nat}{g:Grid}(G:Good k g)(c:Call)(hm:GridNeutral.moderate c=true):Good (k+cost c) (TgCalls.act g c).1:=by
 cases c with
 | fresh n l=>exact G
 | add v=>
   show Good k (if v.length=g.n then _ else _:Grid × Answer).1
   split
   ·rename_i hv
    have L:=Len.one hv
    exact⟨G.n1,G.n3,bu (G.form.len.append L),Gen.join G.form.len L (Bds.one ((small_bd (d8 (b:=4) (by decide) hm)).mono (le4 k))) G.gen⟩
   ·exact G
 | form=>exact G
 | has v=>exact G
 | left v=>exact G
 | size=>exact G
 | same l=>exact G
 | index l=>exact G
 | join l=>
   show Good k (match vecsOf g.n l with | none=>(g,no (-1)) | some x=>_:Grid × Answer).1
   split
   ·exact G
   ·rename_i x hx
    have L:=eJ G.n1 G.n3 hx
    exact⟨G.n1,G.n3,bu (G.form.len.append L),Gen.join G.form.len L ((vecs_bd G.n1 G.n3 hx hm).mono (le4 k)) G.gen⟩
 | meet l=>
   show Good (k+3) (match vecsOf g.n l with | none=>(g,no (-1)) | some x=>_:Grid × Answer).1
   split
   ·exact G.mono (by omega)
   ·rename_i x hx
    have L:=eJ G.n1 G.n3 hx
    have LF:=(bu L).len
    refine⟨G.n1,G.n3,meet_form G.form.len LF,?_⟩
    have hM:=(Gen.form L (vecs_bd G.n1 G.n3 hx hm)).mono (le4 k)
    have:=Gen.meet G.form.len LF G.gen hM
    refine this.mono ?_
    have h1:el (el 4 k) g.n<=el (el 4 k) 3:=jI _ G.n3
    have h2:el (el 4 k) 3=el 4 (k+3):=by
     have a:=gP (el 4 k) 3
     have b:=gP 4 k
     have c:=gP 4 (k+3)
     rw [b] at a
     have:(2:Nat)^(k+3)*(4+1)=2^3*(2^k*(4+1)):=by rw [Nat.pow_add]; grind
     omega
    omega
 | across=>
   show Good (k+2) ⟨g.n,Tg.across g.n g.h⟩
   refine⟨G.n1,G.n3,cb G.form.len,?_⟩
   refine(Gen.across (by have:=le4 k; omega) G.form.len G.gen).mono ?_
   have h1:el (el 4 k) (g.n - 1)<=el (el 4 k) 2:=jI _ (by have:=G.n3; omega)
   have h2:el (el 4 k) 2=el 4 (k+2):=by
    have a:=gP (el 4 k) 2
    have b:=gP 4 k
    have c:=gP 4 (k+2)
    rw [b] at a
    have:(2:Nat)^(k+2)*(4+1)=2^2*(2^k*(4+1)):=by rw [Nat.pow_add]; grind
    omega
   omega
 | fill=>
   show Good (k+2) ⟨g.n,Tg.fill g.n g.h⟩
   exact⟨G.n1,G.n3,fill_form G.form.len,(Gen.fill G.form.toEch G.gen).mono (jI 4 (by omega))⟩
 | least=>exact G
 | short b=>exact G
 | near p=>exact G
def fo(k:Nat)(s:State):Prop:=∀g,s=some g->Good k g
theorem fo.start:fo 0 TgCalls.start:=fun g h=>by cases h
theorem fo.step{k:Nat}{s:State}(G:fo k s)(c:Call)(hm:GridNeutral.moderate c=true):fo (k+cost c) (TgCalls.step s c).1:=by
 cases c with
 | fresh n l=>
   intro g hg
   have hg:(match vecsOf n l with | none=>(s,no (-1)) | some x=>(some ⟨n,Tg.form n x⟩,rankOf ⟨n,Tg.form n x⟩):State × Answer).1=some g:=hg
   split at hg
   ·exact G g hg
   ·rename_i x hx
    cases hg
    exact Good.fresh hx hm
 | _=>
   cases s with
   | none=>intro g hg; cases hg
   | some h=>
     intro g hg
     cases hg
     exact Good.act (G h rfl) _ hm
def costOf(c:List (List Int)):Nat:=match GridNeutral.callOf c with
 | some x=>cost x
 | none=>0
def gK(cs:List (List (List Int))):Nat:=(cs.map costOf).sum
theorem costOf_le{c:List (List Int)}(h:Wf c):costOf c<=2*(if (c == [[11]] || c == [[12]])=true then 1 else 0)+3*(if (c.headD [] == [10])=true then 1 else 0):=by
 rcases h with⟨p,hp,rfl⟩ | ⟨x,rfl⟩ | ⟨p,r,hp,rfl⟩ | ⟨x,r,rfl⟩
 ·rcases hp with q | q | q | q | q <;> subst q <;> decide
 ·have e:costOf [[14,x]]=0:=by
   unfold costOf
   show(match (GridNeutral.nat x).bind (fun b=>some (TgCalls.Call.short b)) with | some x=>cost x | none=>0)=0
   cases GridNeutral.nat x <;> rfl
  rw [e]; exact Nat.zero_le _
 ·have z:∀p,costOf [[p],r]=0->costOf [[p],r]<=2*(if (([[p],r]:List (List Int)) == [[11]] || ([[p],r]:List (List Int)) == [[12]])=true then 1 else 0)+3*(if (([[p],r]:List (List Int)).headD [] == [10])=true then 1 else 0):=fun p e=>by rw [e]; exact Nat.zero_le _
  rcases hp with q | q | q | q | q | q | q | q
  ·subst q; exact z 2 rfl
  ·subst q; exact z 4 rfl
  ·subst q; exact z 5 rfl
  ·subst q; exact z 7 rfl
  ·subst q; exact z 8 rfl
  ·subst q; exact z 9 rfl
  ·subst q
   have e:(([[10],r]:List (List Int)).headD [] == [10])=true:=rfl
   have e3:costOf [[10],r]=3:=rfl
   rw [e3,if_pos e]; omega
  ·subst q; exact z 15 rfl
 ·have e:costOf [[1,x],r]=0:=by
   unfold costOf
   show(match (GridNeutral.nat x).bind (fun n=>some (TgCalls.Call.fresh n r)) with | some x=>cost x | none=>0)=0
   cases GridNeutral.nat x <;> rfl
  rw [e]; exact Nat.zero_le _
theorem costs_le:∀(cs:List (List (List Int))),(∀c∈cs,Wf c)->gK cs<=2*GridNeutral.turnings cs+3*GridNeutral.meets cs
 | [],_=>by simp [gK]
 | c::cs,hw=>by
   have ih:=costs_le cs fun c hc=>hw c (List.mem_cons_of_mem _ hc)
   have h:=costOf_le (hw c List.mem_cons_self)
   have e1:gK (c::cs)=costOf c+gK cs:=by simp [gK]
   have e2:GridNeutral.turnings (c::cs)=(if (c == [[11]] || c == [[12]])=true then 1 else 0)+GridNeutral.turnings cs:=by
    unfold GridNeutral.turnings
    rw [List.filter_cons]
    split <;> simp <;> omega
   have e3:GridNeutral.meets (c::cs)=(if (c.headD [] == [10])=true then 1 else 0)+GridNeutral.meets cs:=by
    unfold GridNeutral.meets
    rw [List.filter_cons]
    split <;> simp <;> omega
   rw [e1,e2,e3]; omega
structure Fair(c:List (List Int)):Prop where
 asked:GridNeutral.asked1 c=true
 fits:∃x,GridNeutral.callOf c=some x/\GridNeutral.moderate x=true
theorem fair_of{c:List (List Int)}(h1:GridNeutral.asked1 c=true)(h2:GridNeutral.fits c=true):Fair c:=by
 refine⟨h1,?_⟩
 unfold GridNeutral.fits at h2
 cases e:GridNeutral.callOf c with
 | none=>rw [e] at h2; simp at h2
 | some x=>
   rw [e] at h2
   exact⟨x,rfl,by simpa using h2⟩
structure Asked(l:List Int)(cs:List (List (List Int))):Prop where
 reads:Reads l cs
 fair:∀c∈cs,Fair c
 cost:gK cs<=7
 few:cs.length<=14
theorem asked_of{l:List Int}(h:PyYqtgda.answers_asked l=true):∃cs,PyYqtgda.calls l=some cs/\Asked l cs/\PyYqtgda.answers l=PyFlat.told (PyFlat.played GridNeutral.step GridNeutral.start cs):=by
 unfold PyYqtgda.answers_asked at h
 split at h
 ·simp at h
 ·rename_i cs e
  refine⟨cs,e,?_,?_⟩
  ·unfold GridNeutral.asked PyFlat.atMost at h
   simp only [Bool.and_eq_true,decide_eq_true_eq,List.all_eq_true] at h
   obtain⟨h0,_,h1,h2,h3,h4,h5⟩:=h
   refine⟨calls_reads e,fun c hc=>fair_of (h1 c hc) (h2 c hc),?_,h0⟩
   have:=costs_le cs (calls_reads e).wf
   omega
  ·unfold PyYqtgda.answers
   rw [e]
theorem fo.turn{k:Nat}{s:State}(G:fo k s){c:List (List Int)}(F:Fair c):fo (k+costOf c) (GridNeutral.step s c).1:=by
 obtain⟨x,hx,hm⟩:=F.fits
 unfold GridNeutral.step costOf
 rw [hx]
 exact G.step x hm
theorem played_cons(s:State)(c:List (List Int))(cs:List (List (List Int))):PyFlat.told (PyFlat.played GridNeutral.step s (c::cs))=(((GridNeutral.step s c).2.length:Int)::(GridNeutral.step s c).2)++PyFlat.told (PyFlat.played GridNeutral.step (GridNeutral.step s c).1 cs):=rfl
end Wl
end
section
open Tg
namespace Wl
def bil(g:List Vec)(x y:Vec):Int:=det (g++[x]).length fun(i j:Nat)=>dot ((g++[x]).getD i []) ((g++[y]).getD j [])
theorem eU(g:List Vec)(x:Vec):bil g x x=Tg.sizeOf (g++[x]):=rfl
theorem cM(x y:Vec):bil [] x y=dot x y:=by
 simp [bil,det,List.range,List.range.loop]
theorem gx(u x y:Vec):bil [u] x y=dot u u*dot x y - dot u y*dot x u:=by
 simp [bil,det,List.range,List.range.loop]
 grind
theorem jN(u v x y:Vec):bil [u,v] x y=dot u u*(dot v v*dot x y - dot v y*dot x v) - dot u v*(dot v u*dot x y - dot v y*dot x u)+dot u y*(dot v u*dot x v - dot v v*dot x u):=by
 simp [bil,det,List.range,List.range.loop]
 grind
structure BF(n:Nat)(g:List Vec)(d:Int)(B:Vec->Vec->Int):Prop where
 pos:0<d
 sym:∀x y,x.length=n->y.length=n->B x y=B y x
 lin:∀x y z k,x.length=n->y.length=n->z.length=n->B x (minus y (times k z))=B x y - k*B x z
 van:∀x y,y.length=n->Sp n g x->B x y=0
 nn:∀x,x.length=n->0<=B x x
 le:∀x,x.length=n->B x x<=d*dot x x
theorem a9:∀x:Vec,0<=dot x x
 | []=>by simp [dH]
 | a::x=>by
   rw [b9]
   have h1:=a9 x
   have h2:0<=a*a:=by
    rcases Int.le_total 0 a with h | h
    ·exact Int.mul_nonneg h h
    ·exact Int.mul_nonneg_of_nonpos_of_nonpos h h
   omega
theorem cN(a:Int):0<=a*a:=by
 rcases Int.le_total 0 a with h | h
 ·exact Int.mul_nonneg h h
 ·exact Int.mul_nonneg_of_nonpos_of_nonpos h h
theorem BF.zero(n:Nat):BF n [] 1 (bil []) where
 pos:=by decide
 sym:=fun x y _ _=>by rw [cM,cM,ai]
 lin:=fun x y z k _ hy hz=>by rw [cM,cM,cM]; exact dot_minus x k hy hz
 van:=fun x y hy hx=>by
  have e:x=Tg.zero n:=by simpa [Sp] using hx
  rw [cM,e,ai,fm]
 nn:=fun x _=>by rw [cM]; exact a9 x
 le:=fun x _=>by rw [cM]; omega
section
variable{n:Nat}{g:List Vec}{d:Int}{B:Vec->Vec->Int}
theorem BF.linL(F:BF n g d B){x y z:Vec}(k:Int)(hx:x.length=n)(hy:y.length=n)(hz:z.length=n):B (minus y (times k z)) x=B y x - k*B z x:=by
 have hm:(minus y (times k z)).length=n:=by rw [aY _ _ (by rw [aI,hy,hz])]; exact hy
 rw [F.sym _ _ hm hx,F.lin x y z k hx hy hz,F.sym x y hx hy,F.sym x z hx hz]
theorem BF.step(F:BF n g d B){x b:Vec}(k:Int)(hx:x.length=n)(hb:b.length=n):B (minus x (times k b)) (minus x (times k b))=B x x - 2*k*B b x+k*k*B b b:=by
 have hm:(minus x (times k b)).length=n:=by rw [aY _ _ (by rw [aI,hx,hb])]; exact hx
 rw [F.lin _ x b k hm hx hb,F.linL k hx hx hb,F.linL k hb hx hb,F.sym x b hx hb]
 grind
theorem BF.cs(F:BF n g d B){x b:Vec}(hx:x.length=n)(hb:b.length=n)(he:0<B b b):B b x*B b x<=B b b*B x x:=by
 have hl:(times (B b b) x).length=n:=by rw [aI]; exact hx
 have hm:(minus (times (B b b) x) (times (B b x) b)).length=n:=by rw [aY _ _ (by rw [aI,aI,hx,hb])]; exact hl
 have h:=F.nn _ hm
 rw [F.step (B b x) hl hb] at h
 have e1:∀y,y.length=n->B y (times (B b b) x)=B b b*B y x:=fun y hy=>by
  have:=F.lin y (Tg.zero n) x (-(B b b)) hy (by simp [Tg.zero]) hx
  have ez:minus (Tg.zero n) (times (-(B b b)) x)=times (B b b) x:=by
   refine bn (by rw [aY _ _ (by rw [aI,hx]; simp [Tg.zero]),hl]; simp [Tg.zero]) fun j=>?_
   rw [aw _ _ (by rw [aI,hx]; simp [Tg.zero]),aM,aM,a6]
   grind
  have e0:B y (Tg.zero n)=0:=by
   have:=F.lin y (Tg.zero n) (Tg.zero n) 1 hy (by simp [Tg.zero]) (by simp [Tg.zero])
   have ez:minus (Tg.zero n) (times 1 (Tg.zero n))=Tg.zero n:=by
    refine bn (by rw [aY _ _ (by rw [aI])]) fun j=>?_
    rw [aw _ _ (by rw [aI]),aM,a6]; omega
   rw [ez] at this; omega
  rw [ez,e0] at this
  rw [this]; grind
 rw [e1 _ hl,F.sym _ x hl hx,e1 x hx,e1 b hb] at h
 have h3:0<=B b b*(B b b*B x x - B b x*B b x):=by
  have e:B b b*(B b b*B x x) - 2*B b x*(B b b*B b x)+B b x*B b x*B b b=B b b*(B b b*B x x - B b x*B b x):=by grind
  rw [e] at h; exact h
 have:=Int.nonneg_of_mul_nonneg_right h3 he
 omega
theorem sp_snoc{n:Nat}{g:List Vec}{b v:Vec}(G:Len n g)(hb:b.length=n)(h:Sp n (g++[b]) v):∃a k,Sp n g a/\a.length=n/\v=minus a (times k b):=by
 have hB:Len n [b]:=fun r hr=>by rw [List.mem_singleton.1 hr]; exact hb
 obtain⟨a,c,ha,hc,rfl⟩:=(Sp.app_iff G hB).1 h
 have la:=ha.len
 obtain⟨k,hk⟩:∃k,c=times k b:=by
  refine Sp.le_of (P:=fun c=>∃k,c=times k b) ⟨0,?_⟩ (fun x y k lx ly hx hy=>?_) hB (fun r hr=>⟨1,?_⟩) hc
  ·refine bn (by rw [aI,hb]; simp [Tg.zero]) fun j=>by rw [aM,a6]; omega
  ·obtain⟨k1,rfl⟩:=hx
   obtain⟨k2,rfl⟩:=hy
   refine⟨k1+k*k2,bn (by rw [dM _ _ (by simp [aI]),aI,aI]) fun j=>?_⟩
   rw [eO _ _ (by simp [aI]),aM,aM,aM,aM]; grind
  ·rw [List.mem_singleton.1 hr]
   refine bn (by rw [aI]) fun j=>by rw [aM]; omega
 subst hk
 refine⟨a,-k,ha,la,bn ?_ fun j=>?_⟩
 ·rw [dM _ _ (by rw [aI,la,hb]),aY _ _ (by rw [aI,la,hb])]
 ·rw [eO _ _ (by rw [aI,la,hb]),aw _ _ (by rw [aI,la,hb]),aM,aM]; grind
theorem BF.next(F:BF n g d B){b:Vec}(G:Len n g)(hb:b.length=n)(he:0<B b b){B':Vec->Vec->Int}(hB:∀x y,x.length=n->y.length=n->d*B' x y=B b b*B x y - B b x*B b y):BF n (g++[b]) (B b b) B' where
 pos:=he
 sym:=fun x y hx hy=>by
  have h1:=hB x y hx hy
  have h2:=hB y x hy hx
  rw [F.sym x y hx hy] at h1
  exact Int.eq_of_mul_eq_mul_left (Int.ne_of_gt F.pos) (by rw [h1,h2]; grind)
 lin:=fun x y z k hx hy hz=>by
  have hm:(minus y (times k z)).length=n:=by rw [aY _ _ (by rw [aI,hy,hz])]; exact hy
  refine Int.eq_of_mul_eq_mul_left (a:=d) (Int.ne_of_gt F.pos) ?_
  rw [Int.mul_sub,hB x _ hx hm,hB x y hx hy,F.lin x y z k hx hy hz,F.lin b y z k hb hy hz]
  have:=hB x z hx hz
  grind
 van:=fun x y hy hx=>by
  obtain⟨a,k,ha,la,rfl⟩:=sp_snoc G hb hx
  have hm:(minus a (times k b)).length=n:=by rw [aY _ _ (by rw [aI,la,hb])]; exact la
  have h:=hB _ y hm hy
  rw [F.linL k hy la hb,F.lin b a b k hb la hb,F.van a y hy ha,F.sym b a hb la,F.van a b hb ha] at h
  refine Int.eq_of_mul_eq_mul_left (a:=d) (Int.ne_of_gt F.pos) ?_
  rw [h]; grind
 nn:=fun x hx=>by
  have h:=hB x x hx hx
  have c:=F.cs hx hb he
  exact Int.nonneg_of_mul_nonneg_right (a:=d) (by rw [h]; omega) F.pos
 le:=fun x hx=>by
  have h:=hB x x hx hx
  have s:=cN (B b x)
  have l:=F.le x hx
  refine Int.le_of_mul_le_mul_left (a:=d) ?_ F.pos
  rw [h]
  have l2:B b b*B x x<=B b b*(d*dot x x):=Int.mul_le_mul_of_nonneg_left l (by omega)
  have e:d*(B b b*dot x x)=B b b*(d*dot x x):=by grind
  omega
end
def d1(u:Vec):Int:=dot u u
def d2(u v:Vec):Int:=bil [u] v v
def d3(u v w:Vec):Int:=bil [u,v] w w
theorem BF.one{n:Nat}{u:Vec}(hu:u.length=n)(h:0<d1 u):BF n [u] (d1 u) (bil [u]):=by
 have:=BF.next (BF.zero n) (b:=u) (B':=bil [u]) (fun r hr=>by simp at hr) hu (by rw [cM]; exact h) (fun x y hx hy=>by
  rw [gx,cM,cM,cM,cM,ai x u]; grind)
 rw [cM] at this
 exact this
theorem BF.two{n:Nat}{u v:Vec}(hu:u.length=n)(hv:v.length=n)(h1:0<d1 u)(h2:0<d2 u v):BF n [u,v] (d2 u v) (bil [u,v]):=
 BF.next (BF.one hu h1) (b:=v) (B':=bil [u,v]) (fun r hr=>by rw [List.mem_singleton.1 hr]; exact hu) hv h2 (fun x y hx hy=>by
  rw [jN,gx,gx,gx,gx,ai v u,ai x u,ai x v]; unfold d1; grind)
def Cos(n:Nat)(g:List Vec)(p v:Vec):Prop:=v.length=n/\Sp n g (minus p v)
structure Reach(n:Nat)(g:List Vec)(p:Vec)(bound:Int)(N:Nat)(l:List Vec):Prop where
 mem:∀v,v∈l↔Cos n g p v/\dot v v<=bound
 nd:l.Nodup
 len:l.length<=N
abbrev lss(p b:Vec)(k:Int):Vec:=minus p (times k b)
theorem bY{n:Nat}{p b:Vec}(k:Int)(hp:p.length=n)(hb:b.length=n):(lss p b k).length=n:=by rw [aY _ _ (by rw [aI,hp,hb])]; exact hp
theorem dy{n:Nat}{p b:Vec}(k:Int)(hp:p.length=n)(hb:b.length=n)(j:Nat):num (lss p b k) j=num p j - k*num b j:=by rw [aw _ _ (by rw [aI,hp,hb]),aM]
theorem e9{n:Nat}{p b:Vec}(k m:Int)(hp:p.length=n)(hb:b.length=n):lss (lss p b k) b m=lss p b (k+m):=
 bn (by rw [bY m (bY k hp hb) hb,bY _ hp hb]) fun j=>by rw [dy m (bY k hp hb) hb,dy k hp hb,dy _ hp hb]; grind
theorem gT{n:Nat}{p b:Vec}(hp:p.length=n)(hb:b.length=n):lss p b 0=p:=
 bn (by rw [bY 0 hp hb,hp]) fun j=>by rw [dy 0 hp hb]; omega
theorem cos_snoc{n:Nat}{g:List Vec}{p b v:Vec}(G:Len n g)(hp:p.length=n)(hb:b.length=n):Cos n (g++[b]) p v↔∃t:Int,Cos n g (lss p b t) v:=by
 have hB:Len n [b]:=fun r hr=>by rw [List.mem_singleton.1 hr]; exact hb
 constructor
 ·rintro⟨lv,h⟩
  obtain⟨a,k,ha,la,e⟩:=sp_snoc G hb h
  refine⟨-k,lv,?_⟩
  have:minus (lss p b (-k)) v=a:=by
   refine bn (by rw [aY _ _ (by rw [bY _ hp hb,lv]),bY _ hp hb,la]) fun j=>?_
   have ej:num (minus p v) j=num (minus a (times k b)) j:=by rw [e]
   rw [aw _ _ (by rw [hp,lv]),aw _ _ (by rw [aI,la,hb]),aM] at ej
   rw [aw _ _ (by rw [bY _ hp hb,lv]),dy _ hp hb]
   grind
  rw [this]; exact ha
 ·rintro⟨t,lv,h⟩
  refine⟨lv,(Sp.app_iff G hB).2 ⟨_,times t b,h,Sp.times t hB (Sp.mem hB List.mem_cons_self),?_⟩⟩
  refine bn (by rw [aY _ _ (by rw [hp,lv]),dM _ _ (by rw [aY _ _ (by rw [bY _ hp hb,lv]),bY _ hp hb,aI,hb]),aY _ _ (by rw [bY _ hp hb,lv]),bY _ hp hb,hp]) fun j=>?_
  rw [aw _ _ (by rw [hp,lv]),eO _ _ (by rw [aY _ _ (by rw [bY _ hp hb,lv]),bY _ hp hb,aI,hb]),aw _ _ (by rw [bY _ hp hb,lv]),dy _ hp hb,aM]
  grind
section
variable{n:Nat}{g:List Vec}{d:Int}{B:Vec->Vec->Int}
theorem BF.cos(F:BF n g d B){p v y:Vec}(hp:p.length=n)(hy:y.length=n)(h:Cos n g p v):B y v=B y p:=by
 have e:=F.van _ y hy h.2
 have hl:(minus p v).length=n:=by rw [aY _ _ (by rw [hp,h.1])]; exact hp
 rw [F.sym _ y hl hy] at e
 have e1:minus p v=minus p (times 1 v):=by
  refine bn (by rw [aY _ _ (by rw [hp,h.1]),aY _ _ (by rw [aI,hp,h.1])]) fun j=>?_
  rw [aw _ _ (by rw [hp,h.1]),aw _ _ (by rw [aI,hp,h.1]),aM]; omega
 rw [e1,F.lin y p v 1 hy hp h.1] at e
 omega
theorem BF.cos2(F:BF n g d B){p v:Vec}(hp:p.length=n)(h:Cos n g p v):B v v=B p p:=by
 rw [F.cos hp h.1 h,F.sym v p h.1 hp,F.cos hp hp h]
structure StepsAt(n:Nat)(g:List Vec)(b st:Vec)(s bound:Int)(N J:Nat)(l:List Vec):Prop where
 mem:∀v,v∈l↔∃j:Nat,j<J/\Cos n g (lss st b (j*s)) v/\dot v v<=bound
 nd:l.Nodup
 len:l.length<=J*N
variable{b st:Vec}{s bound:Int}{N J:Nat}{l:List Vec}
theorem StepsAt.nil:StepsAt n g b st s bound N 0 []:=⟨fun v=>by simp,.nil,Nat.zero_le _⟩
theorem BF.beta(F:BF n g d B)(k:Int)(hst:st.length=n)(hb:b.length=n):B b (lss st b k)=B b st - k*B b b:=F.lin b st b k hb hst hb
theorem StepsAt.snoc(F:BF n g d B)(hst:st.length=n)(hb:b.length=n)(he:0<B b b)(hs:s=1\/s= -1)(h:StepsAt n g b st s bound N J l){l':List Vec}(h':Reach n g (lss st b (J*s)) bound N l'):StepsAt n g b st s bound N (J+1) (l++l'):=by
 refine⟨fun v=>?_,?_,?_⟩
 ·rw [List.mem_append,h.mem,h'.mem]
  constructor
  ·rintro(⟨j,hj,c⟩ | c)
   ·exact⟨j,by omega,c⟩
   ·exact⟨J,by omega,c⟩
  ·rintro⟨j,hj,c⟩
   rcases Nat.lt_or_ge j J with q | q
   ·exact .inl ⟨j,q,c⟩
   ·have:j=J:=by omega
    rw [this] at c; exact .inr c
 ·rw [List.nodup_append]
  refine⟨h.nd,h'.nd,fun v hv w hw e=>?_⟩
  subst e
  obtain⟨j,hj,c,_⟩:=(h.mem v).1 hv
  obtain⟨c',_⟩:=(h'.mem v).1 hw
  have e1:=F.cos (bY _ hst hb) hb c
  have e2:=F.cos (bY _ hst hb) hb c'
  rw [F.beta _ hst hb] at e1 e2
  have e3:((J:Int) - j)*s*B b b=0:=by grind
  have e4:((J:Int) - j)*s≠0:=by rcases hs with rfl | rfl <;> omega
  rcases Int.mul_eq_zero.1 e3 with z | z
  ·exact e4 z
  ·omega
 ·rw [List.length_append]
  have:=h.len
  have:=h'.len
  have:(J+1)*N=J*N+N:=by grind
  omega
theorem BF.far(F:BF n g d B)(j:Nat)(hst:st.length=n)(hb:b.length=n)(hs:s=1\/s= -1)(h0:s*B b st<=0):(j:Int)*j*B b b<=B (lss st b (j*s)) (lss st b (j*s)):=by
 rw [F.step (j*s) hst hb]
 have h1:=F.nn st hst
 have h2:(j:Int)*s*(j*s)=j*j:=by rcases hs with rfl | rfl <;> grind
 have h3:2*((j:Int)*s)*B b st=2*(j*(s*B b st)):=by grind
 have h4:(j:Int)*(s*B b st)<=0:=Int.mul_nonpos_of_nonneg_of_nonpos (by omega) h0
 rw [h2,h3]
 omega
theorem BF.mono(F:BF n g d B){i j:Nat}(hij:i<=j)(hst:st.length=n)(hb:b.length=n)(he:0<B b b)(hs:s=1\/s= -1)(h0:s*B b st<=0) :
  B (lss st b (i*s)) (lss st b (i*s))<=B (lss st b (j*s)) (lss st b (j*s)):=by
 rw [F.step (i*s) hst hb,F.step (j*s) hst hb]
 have h2:∀k:Int,k*s*(k*s)=k*k:=fun k=>by rcases hs with rfl | rfl <;> grind
 have h3:∀k:Int,2*(k*s)*B b st=2*(k*(s*B b st)):=fun k=>by grind
 rw [h2,h2,h3,h3]
 have h4:((j:Int) - i)*(s*B b st)<=0:=Int.mul_nonpos_of_nonneg_of_nonpos (by omega) h0
 have h5:(i:Int)*i*B b b<=j*j*B b b:=Int.mul_le_mul_of_nonneg_right (Int.mul_le_mul (by omega) (by omega) (by omega) (by omega)) (by omega)
 have h6:((j:Int) - i)*(s*B b st)=j*(s*B b st) - i*(s*B b st):=by grind
 omega
theorem StepsAt.done(F:BF n g d B)(hst:st.length=n)(hb:b.length=n)(he:0<B b b)(hs:s=1\/s= -1)(h0:s*B b st<=0)(h:StepsAt n g b st s bound N J l)
  (hJ:bound*d<B (lss st b (J*s)) (lss st b (J*s))):∀v,v∈l↔∃j:Nat,Cos n g (lss st b (j*s)) v/\dot v v<=bound:=by
 intro v
 rw [h.mem]
 constructor
 ·rintro⟨j,_,c⟩; exact⟨j,c⟩
 ·rintro⟨j,c,hv⟩
  refine⟨j,?_,c,hv⟩
  rcases Nat.lt_or_ge j J with q | q
  ·exact q
  ·exfalso
   have h1:=F.mono q hst hb he hs h0
   have h2:=F.cos2 (bY _ hst hb) c
   have h3:=F.le v c.1
   have h4:d*dot v v<=d*bound:=Int.mul_le_mul_of_nonneg_left hv (by have:=F.pos; omega)
   have h5:d*bound=bound*d:=Int.mul_comm _ _
   omega
theorem BF.steps_le(F:BF n g d B){S:Nat}(hst:st.length=n)(hb:b.length=n)(he:0<B b b)(hs:s=1\/s= -1)(h0:s*B b st<=0)(hS:bound*d<((S:Int)+1)*(S+1)*B b b)
  (hJ:B (lss st b (J*s)) (lss st b (J*s))<=bound*d):J<=S:=by
 have h1:=F.far J hst hb hs h0
 rcases Nat.lt_or_ge S J with q | q
 ·exfalso
  have:((S:Int)+1)*(S+1)*B b b<=J*J*B b b:=Int.mul_le_mul_of_nonneg_right (Int.mul_le_mul (by omega) (by omega) (by omega) (by omega)) (by omega)
  omega
 ·exact q
theorem Reach.both(F:BF n g d B)(G:Len n g){p:Vec}{c:Int}{l1 l2:List Vec}(hp:p.length=n)(hb:b.length=n)(he:0<B b b){M:Nat}
  (h1:∀v,v∈l1↔∃j:Nat,Cos n g (lss (lss p b c) b (j*(-1))) v/\dot v v<=bound) (n1:l1.Nodup) (k1:l1.length<=M)
  (h2:∀v,v∈l2↔∃j:Nat,Cos n g (lss (lss p b (c+1)) b (j*1)) v/\dot v v<=bound) (n2:l2.Nodup) (k2:l2.length<=M):Reach n (g++[b]) p bound (2*M) (l1++l2):=by
 refine⟨fun v=>?_,?_,by rw [List.length_append]; omega⟩
 ·rw [List.mem_append,h1,h2,cos_snoc G hp hb]
  constructor
  ·rintro(⟨j,cc,hv⟩ | ⟨j,cc,hv⟩)
   ·rw [e9 _ _ hp hb] at cc; exact⟨⟨_,cc⟩,hv⟩
   ·rw [e9 _ _ hp hb] at cc; exact⟨⟨_,cc⟩,hv⟩
  ·rintro⟨⟨t,cc⟩,hv⟩
   rcases Int.le_total t c with q | q
   ·refine .inl ⟨(c - t).toNat,?_,hv⟩
    rw [e9 _ _ hp hb]
    have:c+((c - t).toNat:Int)*(-1)=t:=by omega
    rw [this]; exact cc
   ·rcases Int.lt_or_le c t with q' | q'
    ·refine .inr ⟨(t - (c+1)).toNat,?_,hv⟩
     rw [e9 _ _ hp hb]
     have:c+1+((t - (c+1)).toNat:Int)*1=t:=by omega
     rw [this]; exact cc
    ·refine .inl ⟨0,?_,hv⟩
     rw [e9 _ _ hp hb]
     have:c+((0:Nat):Int)*(-1)=t:=by omega
     rw [this]; exact cc
 ·rw [List.nodup_append]
  refine⟨n1,n2,fun v hv w hw e=>?_⟩
  subst e
  obtain⟨j,c1,_⟩:=(h1 v).1 hv
  obtain⟨i,c2,_⟩:=(h2 v).1 hw
  rw [e9 _ _ hp hb] at c1 c2
  have e1:=F.cos (bY _ hp hb) hb c1
  have e2:=F.cos (bY _ hp hb) hb c2
  rw [F.beta _ hp hb] at e1 e2
  have e3:(c+1+(i:Int)*1 - (c+(j:Int)* -1))*B b b=0:=by grind
  rcases Int.mul_eq_zero.1 e3 with z | z
  ·omega
  ·omega
theorem Reach.base{p:Vec}(hp:p.length=n):Reach n [] p bound 1 (if dot p p<=bound then [p] else []):=by
 have hc:∀v,Cos n [] p v↔v=p:=fun v=>by
  constructor
  ·rintro⟨lv,h⟩
   have e:minus p v=Tg.zero n:=by simpa [Sp] using h
   refine bn (by rw [lv,hp]) fun j=>?_
   have ej:num (minus p v) j=num (Tg.zero n) j:=by rw [e]
   rw [aw _ _ (by rw [hp,lv]),a6] at ej
   omega
  ·rintro rfl
   refine⟨hp,?_⟩
   have e:minus v v=Tg.zero n:=bn (by rw [aY _ _ rfl,hp]; simp [Tg.zero]) fun j=>by rw [aw _ _ rfl,a6]; omega
   rw [e]; exact Sp.zero (fun r hr=>by simp at hr)
 by_cases h:dot p p<=bound
 ·rw [if_pos h]
  refine⟨fun v=>?_,by simp,by simp⟩
  rw [hc]; simp only [List.mem_singleton]
  exact⟨fun e=>⟨e,by rw [e]; exact h⟩,fun e=>e.1⟩
 ·rw [if_neg h]
  refine⟨fun v=>?_,.nil,by simp⟩
  rw [hc]; simp only [List.not_mem_nil,false_iff]
  rintro⟨rfl,q⟩; exact h q
theorem floor_beta{β e:Int}(he:0<e):0<=β - β.fdiv e*e/\β - (β.fdiv e+1)*e<=0:=by
 rw [Int.fdiv_eq_ediv_of_nonneg _ (by omega)]
 have h1:=Int.emod_nonneg β (by omega:e≠0)
 have h2:=Int.emod_lt_of_pos β he
 have h3:=Int.emod_add_mul_ediv β e
 have h4:(β/e+1)*e=e*(β/e)+e:=by grind
 have h5:β/e*e=e*(β/e):=Int.mul_comm _ _
 omega
end
structure Chain(n:Nat)(g:List Vec):Prop where
 bf:∀i,i<g.length->BF n (g.take i) (Tg.sizeOf (g.take i)) (bil (g.take i))
 pos:∀i,i<=g.length->0<Tg.sizeOf (g.take i)
theorem Chain.pre{n:Nat}{g:List Vec}{b:Vec}(h:Chain n (g++[b])):Chain n g:=by
 constructor
 ·intro i hi
  have:=h.bf i (by simp; omega)
  rwa [List.take_append_of_le_length (by omega)] at this
 ·intro i hi
  have:=h.pos i (by simp; omega)
  rwa [List.take_append_of_le_length hi] at this
theorem Chain.last{n:Nat}{g:List Vec}{b:Vec}(h:Chain n (g++[b])):BF n g (Tg.sizeOf g) (bil g)/\0<bil g b b:=by
 constructor
 ·have:=h.bf g.length (by simp)
  rwa [List.take_left] at this
 ·have:=h.pos (g++[b]).length (Nat.le_refl _)
  rw [List.take_length] at this
  rw [eU]; exact this
def Cnt(S:Nat->Nat):Nat->Nat
 | 0=>1
 | k+1=>2*((S k+1)*Cnt S k)
theorem Cnt.le(S:Nat->Nat)(k:Nat):2*Cnt S k<=Cnt S (k+1):=by
 have:1*Cnt S k<=(S k+1)*Cnt S k:=Nat.mul_le_mul_right _ (by omega)
 show 2*Cnt S k<=2*((S k+1)*Cnt S k)
 omega
def Fit:Nat->Nat->Prop
 | 0,P=>P+P<=134217728
 | k+1,P=>16*(2*P+5)<=134217728/\Fit k (8*P+64)
structure SeekOk(n:Nat)(g:List Vec)(bound:Int)(S:Nat->Nat):Prop where
 n1:1<=n
 n3:n<=3
 len:Len n g
 k3:g.length<=3
 ch:Chain n g
 bd:bound.natAbs<2^10000000
 cnt:∀i,i<g.length->bound*Tg.sizeOf (g.take i)<((S i:Int)+1)*(S i+1)*Tg.sizeOf (g.take (i+1))
 big:Cnt S g.length<=16777216
theorem SeekOk.pre{n:Nat}{g:List Vec}{b:Vec}{bound:Int}{S:Nat->Nat}(h:SeekOk n (g++[b]) bound S):SeekOk n g bound S where
 n1:=h.n1
 n3:=h.n3
 len:=fun r hr=>h.len r (List.mem_append_left _ hr)
 k3:=by have:=h.k3; simp at this; omega
 ch:=h.ch.pre
 bd:=h.bd
 cnt:=fun i hi=>by
  have:=h.cnt i (by simp; omega)
  rwa [List.take_append_of_le_length (by omega),List.take_append_of_le_length (by omega)] at this
 big:=by
  have h1:=h.big
  have h2:=Cnt.le S g.length
  simp only [List.length_append,List.length_singleton] at h1
  omega
theorem SeekOk.last{n:Nat}{g:List Vec}{b:Vec}{bound:Int}{S:Nat->Nat}(h:SeekOk n (g++[b]) bound S):bound*Tg.sizeOf g<((S g.length:Int)+1)*(S g.length+1)*bil g b b:=by
 have:=h.cnt g.length (by simp)
 rw [List.take_left] at this
 rw [eU]
 have e:(g++[b]).take (g.length+1)=g++[b]:=List.take_of_length_le (by simp)
 rw [e] at this
 exact this
theorem SeekOk.small{n:Nat}{g:List Vec}{b:Vec}{bound:Int}{S:Nat->Nat}(h:SeekOk n (g++[b]) bound S):S g.length+1<=16777216/\(S g.length+1)*Cnt S g.length<=16777216/\1<=Cnt S g.length:=by
 have h1:=h.big
 simp only [List.length_append,List.length_singleton,Cnt] at h1
 have h0:∀k,1<=Cnt S k:=fun k=>by
  induction k with
  | zero=>simp [Cnt]
  | succ k ih=>have:=Cnt.le S k; omega
 have h2:(S g.length+1)*1<=(S g.length+1)*Cnt S g.length:=Nat.mul_le_mul_left _ (h0 _)
 have:=h0 g.length
 omega
abbrev nth(g:List Vec)(c:Nat):Vec:=g.getD c []
def rt(g:List Vec)(c:Nat)(v:Vec):Int:=(2*bil (g.take c) (nth g c) v+Tg.sizeOf (g.take (c+1))).fdiv (2*Tg.sizeOf (g.take (c+1)))
def aX(g:List Vec):Nat->Vec->Vec
 | 0,v=>v
 | c+1,v=>aX g c (lss v (nth g c) (rt g c v))
theorem take_snoc{g:List Vec}{c:Nat}(hc:c<g.length):g.take (c+1)=g.take c++[nth g c]:=by
 rw [List.take_add_one,List.getElem?_eq_getElem hc]
 simp [nth,hc]
theorem dw{n:Nat}{g:List Vec}{c:Nat}(G:Len n g)(hc:c<g.length):(nth g c).length=n:=by
 have:nth g c=g[c]:=by simp [nth,hc]
 rw [this]; exact G _ (List.getElem_mem hc)
theorem take_len{n:Nat}{g:List Vec}(G:Len n g)(c:Nat):Len n (g.take c):=fun r hr=>G r (List.mem_of_mem_take hr)
theorem bil_take{g:List Vec}{c:Nat}(hc:c<g.length):bil (g.take c) (nth g c) (nth g c)=Tg.sizeOf (g.take (c+1)):=by rw [eU,take_snoc hc]
theorem round_near{β e:Int}(he:0<e):-e<=2*(β - (2*β+e).fdiv (2*e)*e)/\2*(β - (2*β+e).fdiv (2*e)*e)<=e:=by
 have h:=floor_beta (β:=2*β+e) (e:=2*e) (by omega)
 generalize (2*β+e).fdiv (2*e)=t at h ⊢
 have e1:t*(2*e)=2*(t*e):=by grind
 have e2:(t+1)*(2*e)=2*(t*e)+2*e:=by grind
 rw [e1,e2] at h
 omega
section
variable{n:Nat}{g:List Vec}
theorem rnd_len(G:Len n g):∀(c:Nat)(v:Vec),c<=g.length->v.length=n->(aX g c v).length=n
 | 0,v,_,hv=>hv
 | c+1,v,hc,hv=>rnd_len G c _ (by omega) (bY _ hv (dw G (by omega)))
theorem dU(G:Len n g):∀(c:Nat)(v:Vec),c<=g.length->v.length=n->Cos n (g.take c) v (aX g c v)
 | 0,v,_,hv=>⟨hv,by
   have e:minus v v=Tg.zero n:=bn (by rw [aY _ _ rfl,hv]; simp [Tg.zero]) fun j=>by rw [aw _ _ rfl,a6]; omega
   show Sp n _ (minus v v)
   rw [e]; exact Sp.zero (take_len G 0)⟩
 | c+1,v,hc,hv=>by
   rw [take_snoc (by omega)]
   exact(cos_snoc (take_len G c) hv (dw G (by omega))).2 ⟨_,dU G c _ (by omega) (bY _ hv (dw G (by omega)))⟩
def Red(g:List Vec)(c:Nat)(r:Vec):Prop:=∀i,i<c->-(Tg.sizeOf (g.take (i+1)))<=2*bil (g.take i) (nth g i) r/\2*bil (g.take i) (nth g i) r<=Tg.sizeOf (g.take (i+1))
theorem e6(C:Chain n g)(G:Len n g):∀(c:Nat)(v:Vec),c<=g.length->v.length=n->Red g c (aX g c v)
 | 0,v,_,hv=>fun i hi=>absurd hi (by omega)
 | c+1,v,hc,hv=>fun i hi=>by
   have hb:=dw G (c:=c) (by omega)
   have hl:=bY (rt g c v) hv hb
   rcases Nat.lt_or_ge i c with q | q
   ·exact e6 C G c _ (by omega) hl i q
   ·have ei:i=c:=by omega
    subst ei
    have F:=C.bf i (by omega)
    have e:=F.cos hl hb (dU G i _ (by omega) hl)
    have he:0<Tg.sizeOf (g.take (i+1)):=C.pos (i+1) (by omega)
    show _<=2*bil (g.take i) (nth g i) (aX g i (lss v (nth g i) (rt g i v)))/\2*bil (g.take i) (nth g i) (aX g i (lss v (nth g i) (rt g i v)))<=_
    rw [e,F.beta _ hv hb,bil_take (by omega)]
    exact round_near he
theorem BF.lvl{d:Int}{B B':Vec->Vec->Int}(F:BF n g d B){b r:Vec}(he:0<B b b)(hr:r.length=n)(hB:d*B' r r=B b b*B r r - B b r*B b r)(h:-(B b b)<=2*B b r/\2*B b r<=B b b) :
  4*(B b b*B r r)<=B b b*B b b+4*(d*B' r r):=by
 have h1:(2*B b r)*(2*B b r)<=B b b*B b b:=by
  rcases Int.le_total 0 (B b r) with q | q
  ·exact Int.mul_le_mul h.2 h.2 (by omega) (by omega)
  ·have:=Int.mul_le_mul (show -(2*B b r)<=B b b by omega) (show -(2*B b r)<=B b b by omega) (by omega) (by omega)
   have e:-(2*B b r)* -(2*B b r)=2*B b r*(2*B b r):=by grind
   omega
 have h2:(2*B b r)*(2*B b r)=4*(B b r*B b r):=by grind
 omega
end
theorem d9:Tg.sizeOf []=1:=rfl
theorem au(u:Vec):Tg.sizeOf [u]=d1 u:=by
 have:=eU [] u
 rw [cM] at this
 exact this.symm
theorem b7(u v:Vec):Tg.sizeOf [u,v]=d2 u v:=(eU [u] v).symm
theorem dL(u v w:Vec):Tg.sizeOf [u,v,w]=d3 u v w:=(eU [u,v] w).symm
section
variable{n:Nat}{u v w r:Vec}
theorem chain0:Chain n []:=⟨fun i hi=>absurd hi (by simp),fun i _=>by rw [List.take_nil,d9]; decide⟩
theorem iu(hu:u.length=n)(h1:0<d1 u):Chain n [u]:=by
 refine⟨fun i hi=>?_,fun i hi=>?_⟩
 ·have:i=0:=by simp at hi; exact hi
  subst this
  exact BF.zero n
 ·match i,hi with
  | 0,_=>show 0<Tg.sizeOf []; rw [d9]; decide
  | 1,_=>show 0<Tg.sizeOf [u]; rw [au]; exact h1
theorem iR(hu:u.length=n)(hv:v.length=n)(h1:0<d1 u)(h2:0<d2 u v):Chain n [u,v]:=by
 refine⟨fun i hi=>?_,fun i hi=>?_⟩
 ·match i,hi with
  | 0,_=>exact BF.zero n
  | 1,_=>show BF n [u] (Tg.sizeOf [u]) (bil [u]); rw [au]; exact BF.one hu h1
 ·match i,hi with
  | 0,_=>show 0<Tg.sizeOf []; rw [d9]; decide
  | 1,_=>show 0<Tg.sizeOf [u]; rw [au]; exact h1
  | 2,_=>show 0<Tg.sizeOf [u,v]; rw [b7]; exact h2
theorem gi(hu:u.length=n)(hv:v.length=n)(h1:0<d1 u)(h2:0<d2 u v)(h3:0<d3 u v w):Chain n [u,v,w]:=by
 refine⟨fun i hi=>?_,fun i hi=>?_⟩
 ·match i,hi with
  | 0,_=>exact BF.zero n
  | 1,_=>show BF n [u] (Tg.sizeOf [u]) (bil [u]); rw [au]; exact BF.one hu h1
  | 2,_=>show BF n [u,v] (Tg.sizeOf [u,v]) (bil [u,v]); rw [b7]; exact BF.two hu hv h1 h2
 ·match i,hi with
  | 0,_=>show 0<Tg.sizeOf []; rw [d9]; decide
  | 1,_=>show 0<Tg.sizeOf [u]; rw [au]; exact h1
  | 2,_=>show 0<Tg.sizeOf [u,v]; rw [b7]; exact h2
  | 3,_=>show 0<Tg.sizeOf [u,v,w]; rw [dL]; exact h3
theorem syl2(x y:Vec):bil [u] x y=d1 u*dot x y - dot u x*dot u y:=by rw [gx,ai x u]; unfold d1; grind
theorem jX(x y:Vec):d1 u*bil [u,v] x y=d2 u v*bil [u] x y - bil [u] v x*bil [u] v y:=by
 rw [jN,d2,gx,gx,gx,gx,ai v u,ai x u,ai x v]; unfold d1; grind
theorem gF:d2 u v=d2 v u:=by unfold d2; rw [gx,gx,ai v u]; grind
theorem d3_swap12:d3 u v w=d3 v u w:=by unfold d3; rw [jN,jN,ai v u,ai w u,ai w v]; grind
theorem d3_swap23:d3 u v w=d3 u w v:=by unfold d3; rw [jN,jN,ai v u,ai w u,ai w v]; grind
theorem iq(hu:u.length=n)(hv:v.length=n)(h1:0<d1 u)(h:Cos n [u] v r):d2 u r=d2 u v:=(BF.one hu h1).cos2 hv h
theorem d3_cos(hu:u.length=n)(hv:v.length=n)(hw:w.length=n)(h1:0<d1 u)(h2:0<d2 u v)(h:Cos n [u,v] w r):d3 u v r=d3 u v w:=(BF.two hu hv h1 h2).cos2 hw h
theorem d3_cos2(hu:u.length=n)(hv:v.length=n)(hw:w.length=n)(h1:0<d1 u)(h:Cos n [u] v r):d3 u r w=d3 u v w:=by
 have F:=BF.one hu h1
 refine Int.eq_of_mul_eq_mul_left (a:=d1 u) (Int.ne_of_gt h1) ?_
 unfold d3
 rw [jX,jX,iq hu hv h1 h,F.sym r w h.1 hw,F.cos hv hw h,F.sym v w hv hw]
theorem d1_pos(hu:u.length=n)(hr:r.length=n)(h1:0<d1 u)(h:0<d2 u r):0<d1 r:=by
 have:=(BF.one hu h1).le r hr
 have h2:d2 u r<=d1 u*dot r r:=this
 rcases Int.lt_or_le 0 (dot r r) with q | q
 ·exact q
 ·have:=Int.mul_nonpos_of_nonneg_of_nonpos (a:=d1 u) (by omega) q
  omega
theorem d2_pos(hu:u.length=n)(hv:v.length=n)(hr:r.length=n)(h1:0<d1 u)(h2:0<d2 u v)(h:0<d3 u v r):0<d2 u r:=by
 have e:=jX (u:=u) (v:=v) r r
 have s:=cN (bil [u] v r)
 have h5:0<d1 u*bil [u,v] r r:=Int.mul_pos h1 h
 rcases Int.lt_or_le 0 (bil [u] r r) with q | q
 ·exact q
 ·have:=Int.mul_nonpos_of_nonneg_of_nonpos (a:=d2 u v) (by omega) q
  omega
theorem short12(h:-(d1 u)<=2*dot u v/\2*dot u v<=d1 u)(h1:0<d1 u)(hl:3*d1 u<=4*dot v v):d1 u*d1 u<=2*d2 u v:=by
 have e:d2 u v=d1 u*dot v v - dot u v*dot u v:=syl2 v v
 have sq:(2*dot u v)*(2*dot u v)<=d1 u*d1 u:=by
  rcases Int.le_total 0 (dot u v) with q | q
  ·exact Int.mul_le_mul h.2 h.2 (by omega) (by omega)
  ·have:=Int.mul_le_mul (show -(2*dot u v)<=d1 u by omega) (show -(2*dot u v)<=d1 u by omega) (by omega) (by omega)
   have e:-(2*dot u v)* -(2*dot u v)=2*dot u v*(2*dot u v):=by grind
   omega
 have h2:(2*dot u v)*(2*dot u v)=4*(dot u v*dot u v):=by grind
 have h3:d1 u*(3*d1 u)<=d1 u*(4*dot v v):=Int.mul_le_mul_of_nonneg_left hl (by omega)
 have h4:d1 u*(3*d1 u)=3*(d1 u*d1 u):=by grind
 have h5:d1 u*(4*dot v v)=4*(d1 u*dot v v):=by grind
 omega
theorem short23(h:-(d2 u v)<=2*bil [u] v w/\2*bil [u] v w<=d2 u v)(h2:0<d2 u v)(hl:3*d2 u v<=4*d2 u w):d2 u v*d2 u v<=2*(d1 u*d3 u v w):=by
 have e:d1 u*d3 u v w=d2 u v*d2 u w - bil [u] v w*bil [u] v w:=jX w w
 have sq:(2*bil [u] v w)*(2*bil [u] v w)<=d2 u v*d2 u v:=by
  rcases Int.le_total 0 (bil [u] v w) with q | q
  ·exact Int.mul_le_mul h.2 h.2 (by omega) (by omega)
  ·have:=Int.mul_le_mul (show -(2*bil [u] v w)<=d2 u v by omega) (show -(2*bil [u] v w)<=d2 u v by omega) (by omega) (by omega)
   have e:-(2*bil [u] v w)* -(2*bil [u] v w)=2*bil [u] v w*(2*bil [u] v w):=by grind
   omega
 have h2':(2*bil [u] v w)*(2*bil [u] v w)=4*(bil [u] v w*bil [u] v w):=by grind
 have h3:d2 u v*(3*d2 u v)<=d2 u v*(4*d2 u w):=Int.mul_le_mul_of_nonneg_left hl (by omega)
 have h4:d2 u v*(3*d2 u v)=3*(d2 u v*d2 u v):=by grind
 have h5:d2 u v*(4*d2 u w)=4*(d2 u v*d2 u w):=by grind
 omega
theorem eL(hu:u.length=n)(hr:r.length=n)(h1:0<d1 u)(h:-(d1 u)<=2*dot u r/\2*dot u r<=d1 u):4*(d1 u*dot r r)<=d1 u*d1 u+4*d2 u r:=by
 have:=(BF.zero n).lvl (b:=u) (r:=r) (B':=bil [u]) (by rw [cM]; exact h1) hr (by rw [cM,cM,cM,syl2]; unfold d1; grind) (by rw [cM,cM]; exact h)
 rw [cM,cM] at this
 unfold d2
 have e:1*bil [u] r r=bil [u] r r:=by omega
 rw [e] at this
 exact this
theorem rnd_len2(hu:u.length=n)(hr:r.length=n)(h1:0<d1 u)(h2:0<d2 u v)(h:-(d2 u v)<=2*bil [u] v r/\2*bil [u] v r<=d2 u v):4*(d2 u v*d2 u r)<=d2 u v*d2 u v+4*(d1 u*d3 u v r):=
 (BF.one hu h1).lvl (b:=v) (r:=r) (B':=bil [u,v]) h2 hr (jX r r) h
end
def Adj(m:List Vec)(q:Nat):Prop:=(-(Tg.sizeOf (m.take q))<=2*bil (m.take (q - 1)) (nth m (q - 1)) (nth m q)/\2*bil (m.take (q - 1)) (nth m (q - 1)) (nth m q)<=Tg.sizeOf (m.take q))/\3*Tg.sizeOf (m.take q)<=4*bil (m.take (q - 1)) (nth m q) (nth m q)
structure LState(n:Nat)(g m:List Vec)(Mx LB:Int)(p:Nat):Prop where
 L:Len n m
 len:m.length=g.length
 sp:∀v,Sp n m v↔Sp n g v
 ch:Chain n m
 ds:∀i,i<=m.length->Tg.sizeOf (m.take i)<=Mx
 lb:∀v∈m,dot v v<=LB
 p1:1<=p
 sh:∀q,1<=q->q<p->q<m.length->Adj m q
def lmu(m:List Vec)(p:Nat):Nat:=4*(Tg.sizeOf (m.take 1)*Tg.sizeOf (m.take 2)).toNat+(m.length - p)
section
variable{n:Nat}{u v w r x:Vec}{g0 h h':List Vec}
theorem sp_cos_r(H:Len n h)(G:Len n g0)(hg:∀y∈g0,Sp n h y)(hx:Sp n h x)(lx:x.length=n)(c:Cos n g0 x r):Sp n h r:=by
 have h1:Sp n h (minus x r):=Sp.sub G H hg c.2
 have e:r=minus x (minus x r):=bn (by rw [aY _ _ (by rw [aY _ _ (by rw [lx,c.1])]),c.1,lx]) fun j=>by
  rw [aw _ _ (by rw [aY _ _ (by rw [lx,c.1])]),aw _ _ (by rw [lx,c.1])]; omega
 rw [e]; exact Sp.minus H hx h1
theorem sp_cos_x(H:Len n h)(G:Len n g0)(hg:∀y∈g0,Sp n h y)(hr:Sp n h r)(lx:x.length=n)(c:Cos n g0 x r):Sp n h x:=by
 have h1:Sp n h (minus x r):=Sp.sub G H hg c.2
 have e:x=plus (minus x r) r:=bn (by rw [dM _ _ (by rw [aY _ _ (by rw [lx,c.1]),lx,c.1]),aY _ _ (by rw [lx,c.1])]) fun j=>by
  rw [eO _ _ (by rw [aY _ _ (by rw [lx,c.1]),lx,c.1]),aw _ _ (by rw [lx,c.1])]; omega
 rw [e]; exact Sp.plus H h1 hr
theorem iW(H:Len n h)(H':Len n h')(a:∀y∈h,Sp n h' y)(b:∀y∈h',Sp n h y)(z:Vec):Sp n h' z↔Sp n h z:=⟨fun q=>Sp.sub H' H b q,fun q=>Sp.sub H H' a q⟩
theorem eH(hu:u.length=n)(hv:v.length=n):Len n [u,v]:=fun y hy=>by
 simp only [List.mem_cons,List.not_mem_nil,or_false] at hy
 rcases hy with rfl | rfl
 ·exact hu
 ·exact hv
theorem cY(hu:u.length=n)(hv:v.length=n)(hw:w.length=n):Len n [u,v,w]:=fun y hy=>by
 simp only [List.mem_cons,List.not_mem_nil,or_false] at hy
 rcases hy with rfl | rfl | rfl
 ·exact hu
 ·exact hv
 ·exact hw
theorem iV(hu:u.length=n):Len n [u]:=fun y hy=>by rw [List.mem_singleton.1 hy]; exact hu
theorem ig{a b c:Int}(ha:0<a)(h:4*(a*c)<=a*a+4*b)(hb:0<=b):c<=a+b:=by
 rcases Int.lt_or_le (a+b) c with q | q
 ·exfalso
  have h1:a*(a+b+1)<=a*c:=Int.mul_le_mul_of_nonneg_left (by omega) (by omega)
  have h2:a*(a+b+1)=a*a+a*b+a:=by grind
  have h3:1*b<=a*b:=Int.mul_le_mul_of_nonneg_right (by omega) hb
  have h4:0<=a*a:=cN a
  omega
 ·exact q
theorem turn2{g:List Vec}{Mx LB:Int}(S:LState n g [u,v] Mx LB 1)(hLB:2*Mx+Mx*Mx<=LB)(er:r=aX [u] 1 v) :
  (4*d1 r<3*d1 u->LState n g [r,u] Mx LB 1/\lmu [r,u] 1<lmu [u,v] 1)/\(¬ 4*d1 r<3*d1 u->LState n g [u,r] Mx LB 2/\lmu [u,r] 2<lmu [u,v] 1):=by
 have hu:u.length=n:=S.L u (by simp)
 have hv:v.length=n:=S.L v (by simp)
 have h1:0<d1 u:=by have:=S.ch.pos 1 (by simp); rw [show [u,v].take 1=[u] from rfl,au] at this; exact this
 have h2:0<d2 u v:=by have:=S.ch.pos 2 (by simp); rw [show [u,v].take 2=[u,v] from rfl,b7] at this; exact this
 have m1:d1 u<=Mx:=by have:=S.ds 1 (by simp); rw [show [u,v].take 1=[u] from rfl,au] at this; exact this
 have m2:d2 u v<=Mx:=by have:=S.ds 2 (by simp); rw [show [u,v].take 2=[u,v] from rfl,b7] at this; exact this
 have c:Cos n [u] v r:=by rw [er]; exact dU (g:=[u]) (iV hu) 1 v (by simp) hv
 have rd:Red [u] 1 r:=by rw [er]; exact e6 (iu hu h1) (iV hu) 1 v (by simp) hv
 have lr:=c.1
 have e2:=iq hu hv h1 c
 have rd0:-(d1 u)<=2*dot u r/\2*dot u r<=d1 u:=by
  have:=rd 0 (by decide)
  rw [show [u].take (0+1)=[u] from rfl,au] at this
  rw [show [u].take 0=[] from rfl,cM] at this
  exact this
 have p1:=d1_pos hu lr h1 (by rw [e2]; exact h2)
 have hlen:=eL hu lr h1 rd0
 rw [e2] at hlen
 have hrr:dot r r<=LB:=by
  have:=ig h1 hlen (by omega)
  have:=cN Mx
  omega
 have LBu:=S.lb u (by simp)
 have spa:∀z,Sp n [u,r] z↔Sp n [u,v] z:=fun z=>iW (eH hu hv) (eH hu lr) (fun y hy=>by
   simp only [List.mem_cons,List.not_mem_nil,or_false] at hy
   rcases hy with rfl | rfl
   ·exact Sp.mem (eH hu lr) (by simp)
   ·exact sp_cos_x (eH hu lr) (iV hu) (fun q hq=>Sp.mem (eH hu lr) (by rw [List.mem_singleton.1 hq]; simp)) (Sp.mem (eH hu lr) (by simp)) hv c) (fun y hy=>by
   simp only [List.mem_cons,List.not_mem_nil,or_false] at hy
   rcases hy with rfl | rfl
   ·exact Sp.mem (eH hu hv) (by simp)
   ·exact sp_cos_r (eH hu hv) (iV hu) (fun q hq=>Sp.mem (eH hu hv) (by rw [List.mem_singleton.1 hq]; simp)) (Sp.mem (eH hu hv) (by simp)) hv c) z
 have spb:∀z,Sp n [r,u] z↔Sp n [u,r] z:=fun z=>iW (eH hu lr) (eH lr hu) (fun y hy=>Sp.mem (eH lr hu) (by simp at hy ⊢; exact hy.symm)) (fun y hy=>Sp.mem (eH hu lr) (by simp at hy ⊢; exact hy.symm)) z
 constructor
 ·intro hlt
  refine⟨⟨eH lr hu,S.len,fun z=>(spb z).trans ((spa z).trans (S.sp z)),iR lr hu p1 (by rw [gF,e2]; exact h2),fun i hi=>?_,fun y hy=>?_,Nat.le_refl _,fun q h1 h2=>by omega⟩,?_⟩
  ·match i,hi with
   | 0,_=>show Tg.sizeOf []<=Mx; rw [d9]; omega
   | 1,_=>show Tg.sizeOf [r]<=Mx; rw [au]; omega
   | 2,_=>show Tg.sizeOf [r,u]<=Mx; rw [b7,gF,e2]; exact m2
  ·simp only [List.mem_cons,List.not_mem_nil,or_false] at hy
   rcases hy with rfl | rfl
   ·exact hrr
   ·exact LBu
  ·show 4*(Tg.sizeOf [r]*Tg.sizeOf [r,u]).toNat+_<4*(Tg.sizeOf [u]*Tg.sizeOf [u,v]).toNat+_
   rw [au,au,b7,b7,gF (u:=r),e2]
   have:d1 r*d2 u v<d1 u*d2 u v:=Int.mul_lt_mul_of_pos_right (by omega) h2
   have:0<d1 r*d2 u v:=Int.mul_pos p1 h2
   simp
   omega
 ·intro hge
  refine⟨⟨eH hu lr,S.len,fun z=>(spa z).trans (S.sp z),iR hu lr h1 (by rw [e2]; exact h2),fun i hi=>?_,fun y hy=>?_,by decide,fun q h1 h2 _=>?_⟩,?_⟩
  ·match i,hi with
   | 0,_=>show Tg.sizeOf []<=Mx; rw [d9]; omega
   | 1,_=>show Tg.sizeOf [u]<=Mx; rw [au]; omega
   | 2,_=>show Tg.sizeOf [u,r]<=Mx; rw [b7,e2]; exact m2
  ·simp only [List.mem_cons,List.not_mem_nil,or_false] at hy
   rcases hy with rfl | rfl
   ·exact LBu
   ·exact hrr
  ·have:q=1:=by omega
   subst this
   show(-(Tg.sizeOf [u])<=2*bil [] u r/\2*bil [] u r<=Tg.sizeOf [u])/\3*Tg.sizeOf [u]<=4*bil [] r r
   rw [au,cM,cM]
   exact⟨rd0,by have:¬ 4*dot r r<3*d1 u:=hge; omega⟩
  ·show 4*(Tg.sizeOf [u]*Tg.sizeOf [u,r]).toNat+_<4*(Tg.sizeOf [u]*Tg.sizeOf [u,v]).toNat+_
   rw [b7,b7,e2]
   simp
end
section
variable{n:Nat}{u v w r x:Vec}
theorem turn31{g:List Vec}{Mx LB:Int}(S:LState n g [u,v,w] Mx LB 1)(hLB:2*Mx+Mx*Mx<=LB)(er:r=aX [u] 1 v) :
  (4*d1 r<3*d1 u->LState n g [r,u,w] Mx LB 1/\lmu [r,u,w] 1<lmu [u,v,w] 1)/\(¬ 4*d1 r<3*d1 u->LState n g [u,r,w] Mx LB 2/\lmu [u,r,w] 2<lmu [u,v,w] 1):=by
 have hu:u.length=n:=S.L u (by simp)
 have hv:v.length=n:=S.L v (by simp)
 have hw:w.length=n:=S.L w (by simp)
 have h1:0<d1 u:=by have:=S.ch.pos 1 (by simp); rw [show [u,v,w].take 1=[u] from rfl,au] at this; exact this
 have h2:0<d2 u v:=by have:=S.ch.pos 2 (by simp); rw [show [u,v,w].take 2=[u,v] from rfl,b7] at this; exact this
 have h3:0<d3 u v w:=by have:=S.ch.pos 3 (by simp); rw [show [u,v,w].take 3=[u,v,w] from rfl,dL] at this; exact this
 have m1:d1 u<=Mx:=by have:=S.ds 1 (by simp); rw [show [u,v,w].take 1=[u] from rfl,au] at this; exact this
 have m2:d2 u v<=Mx:=by have:=S.ds 2 (by simp); rw [show [u,v,w].take 2=[u,v] from rfl,b7] at this; exact this
 have m3:d3 u v w<=Mx:=by have:=S.ds 3 (by simp); rw [show [u,v,w].take 3=[u,v,w] from rfl,dL] at this; exact this
 have c:Cos n [u] v r:=by rw [er]; exact dU (g:=[u]) (iV hu) 1 v (by simp) hv
 have rd:Red [u] 1 r:=by rw [er]; exact e6 (iu hu h1) (iV hu) 1 v (by simp) hv
 have lr:=c.1
 have e2:=iq hu hv h1 c
 have e3:=d3_cos2 hu hv hw h1 c
 have rd0:-(d1 u)<=2*dot u r/\2*dot u r<=d1 u:=by
  have:=rd 0 (by decide)
  rw [show [u].take (0+1)=[u] from rfl,au] at this
  rw [show [u].take 0=[] from rfl,cM] at this
  exact this
 have p1:=d1_pos hu lr h1 (by rw [e2]; exact h2)
 have hlen:=eL hu lr h1 rd0
 rw [e2] at hlen
 have hrr:dot r r<=LB:=by
  have:=ig h1 hlen (by omega)
  have:=cN Mx
  omega
 have LBu:=S.lb u (by simp)
 have LBw:=S.lb w (by simp)
 have spa:∀z,Sp n [u,r,w] z↔Sp n [u,v,w] z:=fun z=>iW (cY hu hv hw) (cY hu lr hw) (fun y hy=>by
   simp only [List.mem_cons,List.not_mem_nil,or_false] at hy
   rcases hy with rfl | rfl | rfl
   ·exact Sp.mem (cY hu lr hw) (by simp)
   ·exact sp_cos_x (cY hu lr hw) (iV hu) (fun q hq=>Sp.mem (cY hu lr hw) (by rw [List.mem_singleton.1 hq]; simp)) (Sp.mem (cY hu lr hw) (by simp)) hv c
   ·exact Sp.mem (cY hu lr hw) (by simp)) (fun y hy=>by
   simp only [List.mem_cons,List.not_mem_nil,or_false] at hy
   rcases hy with rfl | rfl | rfl
   ·exact Sp.mem (cY hu hv hw) (by simp)
   ·exact sp_cos_r (cY hu hv hw) (iV hu) (fun q hq=>Sp.mem (cY hu hv hw) (by rw [List.mem_singleton.1 hq]; simp)) (Sp.mem (cY hu hv hw) (by simp)) hv c
   ·exact Sp.mem (cY hu hv hw) (by simp)) z
 have spb:∀z,Sp n [r,u,w] z↔Sp n [u,r,w] z:=fun z=>iW (cY hu lr hw) (cY lr hu hw) (fun y hy=>Sp.mem (cY lr hu hw) (by
   simp only [List.mem_cons,List.not_mem_nil,or_false] at hy ⊢
   rcases hy with q | q | q <;> simp [q])) (fun y hy=>Sp.mem (cY hu lr hw) (by
   simp only [List.mem_cons,List.not_mem_nil,or_false] at hy ⊢
   rcases hy with q | q | q <;> simp [q])) z
 constructor
 ·intro hlt
  refine⟨⟨cY lr hu hw,S.len,fun z=>(spb z).trans ((spa z).trans (S.sp z)),gi lr hu p1 (by rw [gF,e2]; exact h2) (by rw [d3_swap12,e3]; exact h3),fun i hi=>?_,fun y hy=>?_,Nat.le_refl _,fun q h1 h2=>by omega⟩,?_⟩
  ·match i,hi with
   | 0,_=>show Tg.sizeOf []<=Mx; rw [d9]; omega
   | 1,_=>show Tg.sizeOf [r]<=Mx; rw [au]; omega
   | 2,_=>show Tg.sizeOf [r,u]<=Mx; rw [b7,gF,e2]; exact m2
   | 3,_=>show Tg.sizeOf [r,u,w]<=Mx; rw [dL,d3_swap12,e3]; exact m3
  ·simp only [List.mem_cons,List.not_mem_nil,or_false] at hy
   rcases hy with rfl | rfl | rfl
   ·exact hrr
   ·exact LBu
   ·exact LBw
  ·show 4*(Tg.sizeOf [r]*Tg.sizeOf [r,u]).toNat+_<4*(Tg.sizeOf [u]*Tg.sizeOf [u,v]).toNat+_
   rw [au,au,b7,b7,gF (u:=r),e2]
   have:d1 r*d2 u v<d1 u*d2 u v:=Int.mul_lt_mul_of_pos_right (by omega) h2
   have:0<d1 r*d2 u v:=Int.mul_pos p1 h2
   simp
   omega
 ·intro hge
  refine⟨⟨cY hu lr hw,S.len,fun z=>(spa z).trans (S.sp z),gi hu lr h1 (by rw [e2]; exact h2) (by rw [e3]; exact h3),fun i hi=>?_,fun y hy=>?_,by decide,fun q h1 h2 _=>?_⟩,?_⟩
  ·match i,hi with
   | 0,_=>show Tg.sizeOf []<=Mx; rw [d9]; omega
   | 1,_=>show Tg.sizeOf [u]<=Mx; rw [au]; omega
   | 2,_=>show Tg.sizeOf [u,r]<=Mx; rw [b7,e2]; exact m2
   | 3,_=>show Tg.sizeOf [u,r,w]<=Mx; rw [dL,e3]; exact m3
  ·simp only [List.mem_cons,List.not_mem_nil,or_false] at hy
   rcases hy with rfl | rfl | rfl
   ·exact LBu
   ·exact hrr
   ·exact LBw
  ·have:q=1:=by omega
   subst this
   show(-(Tg.sizeOf [u])<=2*bil [] u r/\2*bil [] u r<=Tg.sizeOf [u])/\3*Tg.sizeOf [u]<=4*bil [] r r
   rw [au,cM,cM]
   exact⟨rd0,by have:¬ 4*dot r r<3*d1 u:=hge; omega⟩
  ·show 4*(Tg.sizeOf [u]*Tg.sizeOf [u,r]).toNat+_<4*(Tg.sizeOf [u]*Tg.sizeOf [u,v]).toNat+_
   rw [b7,b7,e2]
   simp
theorem turn32{g:List Vec}{Mx LB:Int}(S:LState n g [u,v,w] Mx LB 2)(hLB:2*Mx+Mx*Mx<=LB)(er:r=aX [u,v] 2 w) :
  (4*d2 u r<3*d2 u v->LState n g [u,r,v] Mx LB 1/\lmu [u,r,v] 1<lmu [u,v,w] 2)/\(¬ 4*d2 u r<3*d2 u v->LState n g [u,v,r] Mx LB 3/\lmu [u,v,r] 3<lmu [u,v,w] 2):=by
 have hu:u.length=n:=S.L u (by simp)
 have hv:v.length=n:=S.L v (by simp)
 have hw:w.length=n:=S.L w (by simp)
 have h1:0<d1 u:=by have:=S.ch.pos 1 (by simp); rw [show [u,v,w].take 1=[u] from rfl,au] at this; exact this
 have h2:0<d2 u v:=by have:=S.ch.pos 2 (by simp); rw [show [u,v,w].take 2=[u,v] from rfl,b7] at this; exact this
 have h3:0<d3 u v w:=by have:=S.ch.pos 3 (by simp); rw [show [u,v,w].take 3=[u,v,w] from rfl,dL] at this; exact this
 have m1:d1 u<=Mx:=by have:=S.ds 1 (by simp); rw [show [u,v,w].take 1=[u] from rfl,au] at this; exact this
 have m2:d2 u v<=Mx:=by have:=S.ds 2 (by simp); rw [show [u,v,w].take 2=[u,v] from rfl,b7] at this; exact this
 have m3:d3 u v w<=Mx:=by have:=S.ds 3 (by simp); rw [show [u,v,w].take 3=[u,v,w] from rfl,dL] at this; exact this
 have c:Cos n [u,v] w r:=by rw [er]; exact dU (g:=[u,v]) (eH hu hv) 2 w (by simp) hw
 have rd:Red [u,v] 2 r:=by rw [er]; exact e6 (iR hu hv h1 h2) (eH hu hv) 2 w (by simp) hw
 have lr:=c.1
 have e3:=d3_cos hu hv hw h1 h2 c
 have rd0:-(d1 u)<=2*dot u r/\2*dot u r<=d1 u:=by
  have:=rd 0 (by decide)
  rw [show [u,v].take (0+1)=[u] from rfl,au] at this
  rw [show [u,v].take 0=[] from rfl,cM] at this
  exact this
 have rd1:-(d2 u v)<=2*bil [u] v r/\2*bil [u] v r<=d2 u v:=by
  have:=rd 1 (by decide)
  rw [show [u,v].take (1+1)=[u,v] from rfl,b7] at this
  exact this
 have p2:=d2_pos hu hv lr h1 h2 (by rw [e3]; exact h3)
 have hl1:=eL hu lr h1 rd0
 have hl2:=rnd_len2 hu lr h1 h2 rd1
 rw [e3] at hl2
 have h13:0<d1 u*d3 u v w:=Int.mul_pos h1 h3
 have b13:d1 u*d3 u v w<=Mx*Mx:=Int.mul_le_mul m1 m3 (by omega) (by omega)
 have hrr:dot r r<=LB:=by
  have q1:=ig h1 hl1 (by omega)
  have q2:=ig h2 hl2 (by omega)
  omega
 have LBu:=S.lb u (by simp)
 have LBv:=S.lb v (by simp)
 have G2:=eH hu hv
 have spa:∀z,Sp n [u,v,r] z↔Sp n [u,v,w] z:=fun z=>iW (cY hu hv hw) (cY hu hv lr) (fun y hy=>by
   simp only [List.mem_cons,List.not_mem_nil,or_false] at hy
   rcases hy with rfl | rfl | rfl
   ·exact Sp.mem (cY hu hv lr) (by simp)
   ·exact Sp.mem (cY hu hv lr) (by simp)
   ·exact sp_cos_x (cY hu hv lr) G2 (fun q hq=>Sp.mem (cY hu hv lr) (by
     simp only [List.mem_cons,List.not_mem_nil,or_false] at hq ⊢
     rcases hq with e | e <;> simp [e])) (Sp.mem (cY hu hv lr) (by simp)) hw c) (fun y hy=>by
   simp only [List.mem_cons,List.not_mem_nil,or_false] at hy
   rcases hy with rfl | rfl | rfl
   ·exact Sp.mem (cY hu hv hw) (by simp)
   ·exact Sp.mem (cY hu hv hw) (by simp)
   ·exact sp_cos_r (cY hu hv hw) G2 (fun q hq=>Sp.mem (cY hu hv hw) (by
     simp only [List.mem_cons,List.not_mem_nil,or_false] at hq ⊢
     rcases hq with e | e <;> simp [e])) (Sp.mem (cY hu hv hw) (by simp)) hw c) z
 have spb:∀z,Sp n [u,r,v] z↔Sp n [u,v,r] z:=fun z=>iW (cY hu hv lr) (cY hu lr hv) (fun y hy=>Sp.mem (cY hu lr hv) (by
   simp only [List.mem_cons,List.not_mem_nil,or_false] at hy ⊢
   rcases hy with q | q | q <;> simp [q])) (fun y hy=>Sp.mem (cY hu hv lr) (by
   simp only [List.mem_cons,List.not_mem_nil,or_false] at hy ⊢
   rcases hy with q | q | q <;> simp [q])) z
 constructor
 ·intro hlt
  refine⟨⟨cY hu lr hv,S.len,fun z=>(spb z).trans ((spa z).trans (S.sp z)),gi hu lr h1 p2 (by rw [d3_swap23,e3]; exact h3),fun i hi=>?_,fun y hy=>?_,Nat.le_refl _,fun q h1 h2=>by omega⟩,?_⟩
  ·match i,hi with
   | 0,_=>show Tg.sizeOf []<=Mx; rw [d9]; omega
   | 1,_=>show Tg.sizeOf [u]<=Mx; rw [au]; omega
   | 2,_=>show Tg.sizeOf [u,r]<=Mx; rw [b7]; omega
   | 3,_=>show Tg.sizeOf [u,r,v]<=Mx; rw [dL,d3_swap23,e3]; exact m3
  ·simp only [List.mem_cons,List.not_mem_nil,or_false] at hy
   rcases hy with rfl | rfl | rfl
   ·exact LBu
   ·exact hrr
   ·exact LBv
  ·show 4*(Tg.sizeOf [u]*Tg.sizeOf [u,r]).toNat+_<4*(Tg.sizeOf [u]*Tg.sizeOf [u,v]).toNat+_
   rw [au,b7,b7]
   have:d1 u*d2 u r<d1 u*d2 u v:=Int.mul_lt_mul_of_pos_left (by omega) h1
   have:0<d1 u*d2 u r:=Int.mul_pos h1 p2
   simp
   omega
 ·intro hge
  refine⟨⟨cY hu hv lr,S.len,fun z=>(spa z).trans (S.sp z),gi hu hv h1 h2 (by rw [e3]; exact h3),fun i hi=>?_,fun y hy=>?_,by decide,fun q g1 g2 g3=>?_⟩,?_⟩
  ·match i,hi with
   | 0,_=>show Tg.sizeOf []<=Mx; rw [d9]; omega
   | 1,_=>show Tg.sizeOf [u]<=Mx; rw [au]; omega
   | 2,_=>show Tg.sizeOf [u,v]<=Mx; rw [b7]; omega
   | 3,_=>show Tg.sizeOf [u,v,r]<=Mx; rw [dL,e3]; exact m3
  ·simp only [List.mem_cons,List.not_mem_nil,or_false] at hy
   rcases hy with rfl | rfl | rfl
   ·exact LBu
   ·exact LBv
   ·exact hrr
  ·rcases Nat.lt_or_ge q 2 with e | e
   ·have eq:q=1:=by omega
    subst eq
    exact S.sh 1 (Nat.le_refl _) (by decide) (by simp)
   ·have eq:q=2:=by omega
    subst eq
    show(-(Tg.sizeOf [u,v])<=2*bil [u] v r/\2*bil [u] v r<=Tg.sizeOf [u,v])/\3*Tg.sizeOf [u,v]<=4*bil [u] r r
    rw [b7]
    exact⟨rd1,by have:¬ 4*bil [u] r r<3*d2 u v:=hge; omega⟩
  ·show 4*(Tg.sizeOf [u]*Tg.sizeOf [u,v]).toNat+_<4*(Tg.sizeOf [u]*Tg.sizeOf [u,v]).toNat+_
   simp
end
section
variable{n:Nat}{u v w:Vec}
theorem i7{m:List Vec}(h:Adj (u::v::m) 1)(h1:0<d1 u):d1 u*d1 u<=2*d2 u v:=by
 have h':(-(Tg.sizeOf [u])<=2*bil [] u v/\2*bil [] u v<=Tg.sizeOf [u])/\3*Tg.sizeOf [u]<=4*bil [] v v:=h
 rw [au,cM,cM] at h'
 exact short12 h'.1 h1 h'.2
theorem adj23(h:Adj [u,v,w] 2)(h2:0<d2 u v):d2 u v*d2 u v<=2*(d1 u*d3 u v w):=by
 have h':(-(Tg.sizeOf [u,v])<=2*bil [u] v w/\2*bil [u] v w<=Tg.sizeOf [u,v])/\3*Tg.sizeOf [u,v]<=4*bil [u] w w:=h
 rw [b7] at h'
 exact short23 h'.1 h2 h'.2
theorem d12_le{a b c:Int}(ha:0<a)(hb:0<b)(h1:a*a<=2*b)(h2:b*b<=2*(a*c)):a*b<=4*c:=by
 have h3:a*a*b<=2*b*b:=Int.mul_le_mul_of_nonneg_right h1 (by omega)
 have h4:2*b*b=2*(b*b):=by grind
 have h5:a*(a*b)=a*a*b:=by grind
 have h6:a*(4*c)=4*(a*c):=by grind
 exact Int.le_of_mul_le_mul_left (a:=a) (by omega) ha
def dQ(i:Nat):Nat:=if i=2 then 2 else 1
theorem seek_least{m:List Vec}{b:Int}(n1:1<=n)(n3:n<=3)(L:Len n m)(C:Chain n m)(k0:0<m.length)(k3:m.length<=3)(sh:∀q,1<=q->q<m.length->Adj m q)(hb:b=d1 (nth m 0))(hbd:b.natAbs<2^10000000):SeekOk n m b dQ where
 n1:=n1
 n3:=n3
 len:=L
 k3:=k3
 ch:=C
 bd:=hbd
 big:=by
  match m,k3 with
  | [],_=>show Cnt dQ 0<=_; decide
  | [_],_=>show Cnt dQ 1<=_; decide
  | [_,_],_=>show Cnt dQ 2<=_; decide
  | [_,_,_],_=>show Cnt dQ 3<=_; decide
  | _::_::_::_::_,k3=>simp at k3
 cnt:=by
  match m,C,k0,k3,sh,hb with
  | [],_,k0,_,_,_=>simp at k0
  | [u],C,_,_,_,hb=>
    intro i hi
    have h1:0<d1 u:=by have:=C.pos 1 (by simp); rw [show [u].take 1=[u] from rfl,au] at this; exact this
    have e:i=0:=by simp at hi; exact hi
    subst e
    have hb':b=d1 u:=hb
    show b*Tg.sizeOf []<((dQ 0:Int)+1)*(dQ 0+1)*Tg.sizeOf [u]
    rw [d9,au,hb',show(dQ 0:Int)=1 from rfl]
    omega
  | [u,v],C,_,_,sh,hb=>
    intro i hi
    have h1:0<d1 u:=by have:=C.pos 1 (by simp); rw [show [u,v].take 1=[u] from rfl,au] at this; exact this
    have h2:0<d2 u v:=by have:=C.pos 2 (by simp); rw [show [u,v].take 2=[u,v] from rfl,b7] at this; exact this
    have a:=i7 (sh 1 (by decide) (by simp)) h1
    have hb':b=d1 u:=hb
    match i,hi with
    | 0,_=>
      show b*Tg.sizeOf []<((dQ 0:Int)+1)*(dQ 0+1)*Tg.sizeOf [u]
      rw [d9,au,hb',show(dQ 0:Int)=1 from rfl]; omega
    | 1,_=>
      show b*Tg.sizeOf [u]<((dQ 1:Int)+1)*(dQ 1+1)*Tg.sizeOf [u,v]
      rw [au,b7,hb',show(dQ 1:Int)=1 from rfl]; omega
  | [u,v,w],C,_,_,sh,hb=>
    intro i hi
    have h1:0<d1 u:=by have:=C.pos 1 (by simp); rw [show [u,v,w].take 1=[u] from rfl,au] at this; exact this
    have h2:0<d2 u v:=by have:=C.pos 2 (by simp); rw [show [u,v,w].take 2=[u,v] from rfl,b7] at this; exact this
    have h3:0<d3 u v w:=by have:=C.pos 3 (by simp); rw [show [u,v,w].take 3=[u,v,w] from rfl,dL] at this; exact this
    have a:=i7 (sh 1 (by decide) (by simp)) h1
    have a2:=adj23 (sh 2 (by decide) (by simp)) h2
    have a3:=d12_le h1 h2 a a2
    have hb':b=d1 u:=hb
    match i,hi with
    | 0,_=>
      show b*Tg.sizeOf []<((dQ 0:Int)+1)*(dQ 0+1)*Tg.sizeOf [u]
      rw [d9,au,hb',show(dQ 0:Int)=1 from rfl]; omega
    | 1,_=>
      show b*Tg.sizeOf [u]<((dQ 1:Int)+1)*(dQ 1+1)*Tg.sizeOf [u,v]
      rw [au,b7,hb',show(dQ 1:Int)=1 from rfl]; omega
    | 2,_=>
      show b*Tg.sizeOf [u,v]<((dQ 2:Int)+1)*(dQ 2+1)*Tg.sizeOf [u,v,w]
      rw [b7,dL,hb',show(dQ 2:Int)=2 from rfl]; omega
  | _::_::_::_::_,_,_,k3,_,_=>simp at k3
end
section
variable{n:Nat}{g m l:List Vec}
theorem gZ(M:Len n m){v:Vec}:Cos n m (Tg.zero n) v↔Sp n m v:=by
 have key:∀w:Vec,w.length=n->minus (Tg.zero n) w=times (-1) w:=fun w hw=>bn (by rw [aY _ _ (by simp [Tg.zero,hw]),aI,hw]; simp [Tg.zero]) fun j=>by
  rw [aw _ _ (by simp [Tg.zero,hw]),aM,a6]; omega
 constructor
 ·rintro⟨lv,h⟩
  rw [key v lv] at h
  have h2:=Sp.times (-1) M h
  have e:times (-1) (times (-1) v)=v:=bn (by rw [aI,aI]) fun j=>by rw [aM,aM]; omega
  rw [e] at h2; exact h2
 ·intro h
  refine⟨h.len,?_⟩
  rw [key v h.len]; exact Sp.times (-1) M h
theorem isZero_dot{v:Vec}:isZero v=false↔0<dot v v:=by
 constructor
 ·intro h
  rcases Int.lt_or_le 0 (dot v v) with q | q
  ·exact q
  ·exfalso
   have z:dot v v=0:=by have:=a9 v; omega
   have:isZero v=true:=by
    unfold isZero
    rw [List.all_eq_true]
    intro x hx
    obtain⟨j,hj,rfl⟩:=List.mem_iff_getElem.1 hx
    have:num v j=0:=by
     clear h q hx
     induction v generalizing j with
     | nil=>simp at hj
     | cons a v ih=>
       rw [b9] at z
       have h1:=a9 v
       have h2:=cN a
       match j with
       | 0=>
         have ha:a*a=0:=by omega
         show a=0
         rcases Int.mul_eq_zero.1 ha with q | q <;> exact q
       | j+1=>exact ih (by omega) j (by simpa using hj)
    have e:num v j=v[j]:=by simp [num,hj]
    rw [<- e,this]; rfl
   rw [this] at h; cases h
 ·intro h
  cases e:isZero v with
  | false=>rfl
  | true=>
    exfalso
    have:∀x∈v,x=0:=fun x hx=>by
     have:=List.all_eq_true.1 e x hx
     simpa using this
    have z:dot v v=0:=by
     clear e h
     induction v with
     | nil=>rfl
     | cons a v ih=>
       rw [b9,ih fun x hx=>this x (List.mem_cons_of_mem _ hx),this a List.mem_cons_self]; rfl
    omega
theorem least_found{r:Vec}{b x:Int}{N:Nat}(H:Ech n (r::g))(M:Len n m)(sp:∀v,Sp n m v↔Sp n (r::g) v)(R:Reach n m (Tg.zero n) b N l){u:Vec}(hu:Sp n m u)(hub:dot u u=b)(hu0:0<dot u u)
  (hx:x∈(l.map fun v=>dot v v).filter (fun y=>decide (0<y))) (hle:∀y∈(l.map fun v=>dot v v).filter (fun y=>decide (0<y)),x<=y):least n (r::g)=some x:=by
 refine least_eq H ⟨?_,fun v hv=>?_⟩
 ·obtain⟨h1,h2⟩:=List.mem_filter.1 hx
  obtain⟨v,hv,rfl⟩:=List.mem_map.1 h1
  have h2':0<dot v v:=by simpa using h2
  exact⟨v,⟨(sp v).1 ((gZ M).1 ((R.mem v).1 hv).1),isZero_dot.2 h2'⟩,rfl⟩
 ·have v0:=isZero_dot.1 hv.2
  show x<=dot v v
  have inl:∀w,Sp n m w->0<dot w w->dot w w<=b->x<=dot w w:=fun w h1 h2 h3=>hle _ (List.mem_filter.2 ⟨List.mem_map.2 ⟨w,(R.mem w).2 ⟨(gZ M).2 h1,h3⟩,rfl⟩,by simpa using h2⟩)
  rcases Int.le_total (dot v v) b with q | q
  ·exact inl v ((sp v).2 hv.1) v0 q
  ·have:=inl u hu hu0 (by omega)
   omega
end
theorem dot_zero_num:∀{z:Vec},dot z z=0->∀j,num z j=0
 | [],_,j=>by simp [num]
 | a::z,h,j=>by
   rw [b9] at h
   have h1:=a9 z
   have h2:=cN a
   have ha:a*a=0:=by omega
   have hz:dot z z=0:=by omega
   match j with
   | 0=>show a=0; rcases Int.mul_eq_zero.1 ha with q | q <;> exact q
   | j+1=>exact dot_zero_num hz j
section
variable{n:Nat}{u v w x:Vec}
theorem jK{i:Nat}(h:num u i≠0):0<d1 u:=by
 rcases Int.lt_or_le 0 (dot u u) with q | q
 ·exact q
 ·exact absurd (dot_zero_num (by have:=a9 u; omega) i) h
theorem off_u(hu:u.length=n)(hx:x.length=n)(h1:0<d1 u)(h:bil [u] x x=0)(j:Nat):d1 u*num x j=dot u x*num u j:=by
 have e:=(BF.zero n).step (x:=times (d1 u) x) (b:=u) (dot u x) (by rw [aI]; exact hx) hu
 rw [cM,cM,cM,cM,cA,cA,ai (times (d1 u) x) x,cA] at e
 rw [syl2] at h
 have e0:dot (minus (times (d1 u) x) (times (dot u x) u)) (minus (times (d1 u) x) (times (dot u x) u))=0:=by
  rw [e]
  have hd:dot u u=d1 u:=rfl
  rw [hd]
  have:d1 u*(d1 u*dot x x) - 2*dot u x*(d1 u*dot u x)+dot u x*dot u x*d1 u=d1 u*(d1 u*dot x x - dot u x*dot u x):=by grind
  rw [this,h]; simp
 have z:=dot_zero_num e0 j
 rw [aw _ _ (by rw [aI,aI,hu,hx]),aM,aM] at z
 omega
theorem d2_of{i j:Nat}(hu:u.length=n)(hv:v.length=n)(hi:num u i≠0)(hvi:num v i=0)(hj:num v j≠0):0<d2 u v:=by
 have h1:=jK hi
 have nn:=(BF.one hu h1).nn v hv
 rcases Int.lt_or_le 0 (d2 u v) with q | q
 ·exact q
 ·exfalso
  have h0:bil [u] v v=0:=by have:bil [u] v v<=0:=q; omega
  have a:=off_u hu hv h1 h0 i
  rw [hvi,Int.mul_zero] at a
  have b:dot u v=0:=by
   rcases Int.mul_eq_zero.1 a.symm with z | z
   ·exact z
   ·exact absurd z hi
  have c:=off_u hu hv h1 h0 j
  rw [b,Int.zero_mul] at c
  rcases Int.mul_eq_zero.1 c with z | z
  ·omega
  ·exact hj z
theorem d3_of{i j k:Nat}(hu:u.length=n)(hv:v.length=n)(hw:w.length=n)(hi:num u i≠0)(hvi:num v i=0)(hwi:num w i=0)(hj:num v j≠0)(hwj:num w j=0)(hk:num w k≠0):0<d3 u v w:=by
 have h1:=jK hi
 have h2:=d2_of hu hv hi hvi hj
 have F:=BF.one hu h1
 have nn:=(BF.two hu hv h1 h2).nn w hw
 rcases Int.lt_or_le 0 (d3 u v w) with q | q
 ·exact q
 ·exfalso
  have h0:bil [u,v] w w=0:=by have:bil [u,v] w w<=0:=q; omega
  have s:=jX (u:=u) (v:=v) w w
  rw [h0,Int.mul_zero] at s
  have lt:(times (d2 u v) w).length=n:=by rw [aI]; exact hw
  have lm:(minus (times (d2 u v) w) (times (bil [u] v w) v)).length=n:=bY _ lt hv
  have st:=F.step (x:=times (d2 u v) w) (b:=v) (bil [u] v w) lt hv
  have t1:∀y,y.length=n->bil [u] y (times (d2 u v) w)=d2 u v*bil [u] y w:=fun y hy=>by
   rw [syl2,syl2,cA,cA]; grind
  have x0:bil [u] (minus (times (d2 u v) w) (times (bil [u] v w) v)) (minus (times (d2 u v) w) (times (bil [u] v w) v))=0:=by
   rw [st,t1 _ lt,F.sym _ w lt hw,t1 w hw,t1 v hv]
   have hd:bil [u] v v=d2 u v:=rfl
   rw [hd]
   have e:d2 u v*(d2 u v*bil [u] w w) - 2*bil [u] v w*(d2 u v*bil [u] v w)+bil [u] v w*bil [u] v w*d2 u v=d2 u v*(d2 u v*bil [u] w w - bil [u] v w*bil [u] v w):=by grind
   rw [e,<- s]; simp
  have off:=off_u hu lm h1 x0
  have nx:∀j,num (minus (times (d2 u v) w) (times (bil [u] v w) v)) j=d2 u v*num w j - bil [u] v w*num v j:=fun j=>by
   rw [aw _ _ (by rw [aI,aI,hw,hv]),aM,aM]
  have a:=off i
  rw [nx,hwi,hvi] at a
  have b:dot u (minus (times (d2 u v) w) (times (bil [u] v w) v))=0:=by
   have a':dot u (minus (times (d2 u v) w) (times (bil [u] v w) v))*num u i=0:=by rw [<- a]; simp
   rcases Int.mul_eq_zero.1 a' with z | z
   ·exact z
   ·exact absurd z hi
  have c:=off j
  rw [nx,hwj,b] at c
  have d:bil [u] v w=0:=by
   have c':d1 u*(bil [u] v w*num v j)=0:=by grind
   rcases Int.mul_eq_zero.1 c' with z | z
   ·omega
   ·rcases Int.mul_eq_zero.1 z with z | z
    ·exact z
    ·exact absurd z hj
  have e:=off k
  rw [nx,b,d] at e
  have e':d1 u*(d2 u v*num w k)=0:=by grind
  rcases Int.mul_eq_zero.1 e' with z | z
  ·omega
  ·rcases Int.mul_eq_zero.1 z with z | z
   ·omega
   ·exact hk z
theorem Ech.chain{h:List Vec}(H:Ech n h)(k:h.length<=3):Chain n h:=by
 match h,H,k with
 | [],_,_=>exact chain0
 | [u],H,_=>exact iu (H.len u (by simp)) (jK (i:=lead u) (by have:=H.pos u (by simp); omega))
 | [u,v],H,_=>
   have hu:=H.len u (by simp)
   have hv:=H.len v (by simp)
   have pu:=H.pos u (by simp)
   have pv:=H.pos v (by simp)
   have a1:lead u<lead v:=H.above v (by simp)
   exact iR hu hv (jK (i:=lead u) (by omega)) (d2_of (i:=lead u) (j:=lead v) hu hv (by omega) (a5 a1) (by omega))
 | [u,v,w],H,_=>
   have hu:=H.len u (by simp)
   have hv:=H.len v (by simp)
   have hw:=H.len w (by simp)
   have pu:=H.pos u (by simp)
   have pv:=H.pos v (by simp)
   have pw:=H.pos w (by simp)
   have a1:lead u<lead v:=H.above v (by simp)
   have a2:lead u<lead w:=H.above w (by simp)
   have a3:lead v<lead w:=H.tail.above w (by simp)
   exact gi hu hv (jK (i:=lead u) (by omega)) (d2_of (i:=lead u) (j:=lead v) hu hv (by omega) (a5 a1) (by omega))
    (d3_of (i:=lead u) (j:=lead v) (k:=lead w) hu hv hw (by omega) (a5 a1) (a5 a2) (by omega) (a5 a3) (by omega))
 | u::v::w::x::h,_,k=>simp at k
end
theorem nodup_lt:∀(N:Nat)(l:List Nat),l.Nodup->(∀x∈l,x<N)->l.length<=N
 | 0,l,_,h=>by
   cases l with
   | nil=>simp
   | cons a l=>exact absurd (h a List.mem_cons_self) (by omega)
 | N+1,l,nd,h=>by
   have h1:=nodup_lt N (l.erase N) (nd.erase N) (fun x hx=>by
    have q:=(nd.mem_erase_iff).1 hx
    have:=h x q.2
    omega)
   have h2:=List.length_erase (l:=l) (a:=N)
   split at h2 <;> omega
theorem num_sq_dot:∀(v:Vec)(j:Nat),num v j*num v j<=dot v v
 | [],j=>by simp [num,dH]
 | a::v,0=>by
   rw [b9]
   have:=a9 v
   show a*a<=_
   omega
 | a::v,j+1=>by
   rw [b9]
   have:=num_sq_dot v j
   have:=cN a
   show num v j*num v j<=_
   omega
theorem num_small{v:Vec}(h:dot v v<=60)(j:Nat):-7<=num v j/\num v j<=7:=by
 have:=num_sq_dot v j
 have hs:num v j*num v j<=60:=by omega
 generalize num v j=x at hs ⊢
 constructor
 ·rcases Int.lt_or_le x (-7) with q | q
  ·exfalso
   have:=Int.mul_le_mul (show(8:Int)<=-x by omega) (show(8:Int)<=-x by omega) (by decide) (by omega)
   have e:-x* -x=x*x:=by grind
   omega
  ·exact q
 ·rcases Int.lt_or_le 7 x with q | q
  ·exfalso
   have:=Int.mul_le_mul (show(8:Int)<=x by omega) (show(8:Int)<=x by omega) (by decide) (by omega)
   omega
  ·exact q
def boxNo(v:Vec):Nat:=(((num v 0+7)*15+(num v 1+7))*15+(num v 2+7)).toNat
theorem box{n:Nat}(n3:n<=3){l:List Vec}{b:Int}(hb:b<=60)(nd:l.Nodup)(h:∀v∈l,v.length=n/\dot v v<=b):l.length<=3375:=by
 have hs:∀v∈l,∀j,-7<=num v j/\num v j<=7:=fun v hv=>num_small (by have:=(h v hv).2; omega)
 have:=nodup_lt 3375 (l.map boxNo) (by
  refine(List.pairwise_map).2 (nd.imp_of_mem fun{a c} ha hc hne e=>hne ?_)
  have a0:=hs a ha 0
  have a1:=hs a ha 1
  have a2:=hs a ha 2
  have c0:=hs c hc 0
  have c1:=hs c hc 1
  have c2:=hs c hc 2
  unfold boxNo at e
  have e0:num a 0=num c 0:=by omega
  have e1:num a 1=num c 1:=by omega
  have e2:num a 2=num c 2:=by omega
  refine bn (by rw [(h a ha).1,(h c hc).1]) fun j=>?_
  match j with
  | 0=>exact e0
  | 1=>exact e1
  | 2=>exact e2
  | j+3=>
    have la:=(h a ha).1
    have lc:=(h c hc).1
    have z:∀v:Vec,v.length=n->num v (j+3)=0:=fun v hv=>by
     unfold num
     rw [List.getD_eq_getElem?_getD,List.getElem?_eq_none (by omega)]; rfl
    rw [z a la,z c lc]) (fun x hx=>by
  obtain⟨v,hv,rfl⟩:=List.mem_map.1 hx
  have a0:=hs v hv 0
  have a1:=hs v hv 1
  have a2:=hs v hv 2
  unfold boxNo
  omega)
 rwa [List.length_map] at this
def sSht(i:Nat):Nat:=if i=0 then 7 else if i=1 then 10 else 15
theorem seek_short{n:Nat}{m:List Vec}{b:Int}(n1:1<=n)(n3:n<=3)(L:Len n m)(C:Chain n m)(k3:m.length<=3)(sh:∀q,1<=q->q<m.length->Adj m q)(h0:0<=b)(hb:b<=60):SeekOk n m b sSht where
 n1:=n1
 n3:=n3
 len:=L
 k3:=k3
 ch:=C
 bd:=by
  have:b.natAbs<2^6:=by omega
  exact Nat.lt_of_lt_of_le this (Nat.pow_le_pow_right (by decide) (by decide))
 big:=by
  match m,k3 with
  | [],_=>show Cnt sSht 0<=_; decide
  | [_],_=>show Cnt sSht 1<=_; decide
  | [_,_],_=>show Cnt sSht 2<=_; decide
  | [_,_,_],_=>show Cnt sSht 3<=_; decide
  | _::_::_::_::_,k3=>simp at k3
 cnt:=by
  have le60:∀d:Int,0<d->b*d<=60*d:=fun d hd=>Int.mul_le_mul_of_nonneg_right hb (by omega)
  have A0:∀u:Vec,0<d1 u->b*Tg.sizeOf []<((sSht 0:Int)+1)*(sSht 0+1)*Tg.sizeOf [u]:=fun u h1=>by
   rw [d9,au,show(sSht 0:Int)=7 from rfl]; omega
  have A1:∀u v:Vec,0<d1 u->0<d2 u v->d1 u*d1 u<=2*d2 u v->b*Tg.sizeOf [u]<((sSht 1:Int)+1)*(sSht 1+1)*Tg.sizeOf [u,v]:=fun u v h1 h2 a=>by
   rw [au,b7,show(sSht 1:Int)=10 from rfl]
   have q1:=le60 _ h1
   have q2:1*d1 u<=d1 u*d1 u:=Int.mul_le_mul_of_nonneg_right (by omega) (by omega)
   omega
  match m,C,k3,sh with
  | [],_,_,_=>intro i hi; simp at hi
  | [u],C,_,_=>
    intro i hi
    have h1:0<d1 u:=by have:=C.pos 1 (by simp); rw [show [u].take 1=[u] from rfl,au] at this; exact this
    have e:i=0:=by simp at hi; exact hi
    subst e
    exact A0 u h1
  | [u,v],C,_,sh=>
    intro i hi
    have h1:0<d1 u:=by have:=C.pos 1 (by simp); rw [show [u,v].take 1=[u] from rfl,au] at this; exact this
    have h2:0<d2 u v:=by have:=C.pos 2 (by simp); rw [show [u,v].take 2=[u,v] from rfl,b7] at this; exact this
    have a:=i7 (sh 1 (by decide) (by simp)) h1
    match i,hi with
    | 0,_=>exact A0 u h1
    | 1,_=>exact A1 u v h1 h2 a
  | [u,v,w],C,_,sh=>
    intro i hi
    have h1:0<d1 u:=by have:=C.pos 1 (by simp); rw [show [u,v,w].take 1=[u] from rfl,au] at this; exact this
    have h2:0<d2 u v:=by have:=C.pos 2 (by simp); rw [show [u,v,w].take 2=[u,v] from rfl,b7] at this; exact this
    have h3:0<d3 u v w:=by have:=C.pos 3 (by simp); rw [show [u,v,w].take 3=[u,v,w] from rfl,dL] at this; exact this
    have a:=i7 (sh 1 (by decide) (by simp)) h1
    have a2:=adj23 (sh 2 (by decide) (by simp)) h2
    have a3:=d12_le h1 h2 a a2
    match i,hi with
    | 0,_=>exact A0 u h1
    | 1,_=>exact A1 u v h1 h2 a
    | 2,_=>
      show b*Tg.sizeOf [u,v]<((sSht 2:Int)+1)*(sSht 2+1)*Tg.sizeOf [u,v,w]
      rw [b7,dL,show(sSht 2:Int)=15 from rfl]
      have q1:=le60 _ h2
      have q2:1*d2 u v<=d1 u*d2 u v:=Int.mul_le_mul_of_nonneg_right (by omega) (by omega)
      omega
  | _::_::_::_::_,_,k3,_=>simp at k3
theorem dot3(a b c x y z:Int):dot [a,b,c] [x,y,z]=a*x+b*y+c*z:=by simp [dot]
def vol(u v w:Vec):Int:=num u 0*(num v 1*num w 2 - num v 2*num w 1) - num u 1*(num v 0*num w 2 - num v 2*num w 0)+num u 2*(num v 0*num w 1 - num v 1*num w 0)
theorem bil_vol(a b c d e f x y z p q r:Int):bil [[a,b,c],[d,e,f]] [x,y,z] [p,q,r]=vol [a,b,c] [d,e,f] [x,y,z]*vol [a,b,c] [d,e,f] [p,q,r]:=by
 rw [jN]
 simp only [dot3,vol,num,List.getD_cons_zero,List.getD_cons_succ]
 grind
section
variable{n:Nat}{u v w r p:Vec}
theorem vec3{x:Vec}(h:x.length=3):∃a b c,x=[a,b,c]:=by
 match x,h with
 | [a,b,c],_=>exact⟨a,b,c,rfl⟩
theorem off3(hu:u.length=3)(hv:v.length=3)(hw:w.length=3)(hr:r.length=3):d3 u v w*d3 u v r=bil [u,v] w r*bil [u,v] w r:=by
 obtain⟨a,b,c,rfl⟩:=vec3 hu
 obtain⟨d,e,f,rfl⟩:=vec3 hv
 obtain⟨x,y,z,rfl⟩:=vec3 hw
 obtain⟨s,t,q,rfl⟩:=vec3 hr
 unfold d3
 rw [bil_vol,bil_vol,bil_vol]
 grind
theorem sq_le_of{a b:Int}(h:-b<=2*a/\2*a<=b):4*(a*a)<=b*b:=by
 have h2:(2*a)*(2*a)=4*(a*a):=by grind
 rcases Int.le_total 0 a with q | q
 ·have:=Int.mul_le_mul h.2 h.2 (by omega) (by omega)
  omega
 ·have:=Int.mul_le_mul (show -(2*a)<=b by omega) (show -(2*a)<=b by omega) (by omega) (by omega)
  have e:-(2*a)* -(2*a)=2*a*(2*a):=by grind
  omega
theorem last3(hu:u.length=3)(hv:v.length=3)(hw:w.length=3)(hr:r.length=3)(h3:0<d3 u v w)(h:-(d3 u v w)<=2*bil [u,v] w r/\2*bil [u,v] w r<=d3 u v w):4*d3 u v r<=d3 u v w:=by
 have e:=off3 hu hv hw hr
 have s:=sq_le_of h
 rw [<- e] at s
 have e2:4*(d3 u v w*d3 u v r)=d3 u v w*(4*d3 u v r):=by grind
 rw [e2] at s
 exact Int.le_of_mul_le_mul_left s h3
theorem far3{a b c R B E:Int}(ha:0<a)(hb:0<b)(h1:a*a<=2*b)(h2:b*b<=2*(a*c))(l1:4*(a*R)<=a*a+4*B)(l2:4*(b*B)<=b*b+4*(a*E))(l3:4*E<=c):4*(b*R)<=7*c:=by
 have q1:b*(4*(a*R))<=b*(a*a+4*B):=Int.mul_le_mul_of_nonneg_left l1 (by omega)
 have q2:b*(a*a)<=b*(2*b):=Int.mul_le_mul_of_nonneg_left h1 (by omega)
 have q3:a*(4*E)<=a*c:=Int.mul_le_mul_of_nonneg_left l3 (by omega)
 have e1:b*(4*(a*R))=a*(4*(b*R)):=by grind
 have e2:b*(a*a+4*B)=b*(a*a)+4*(b*B):=by grind
 have e3:b*(2*b)=2*(b*b):=by grind
 have e4:a*(4*E)=4*(a*E):=by grind
 have e5:a*(7*c)=7*(a*c):=by grind
 exact Int.le_of_mul_le_mul_left (a:=a) (by omega) ha
theorem taken{β e d P:Int}(he:0<e)(hd:0<d)(ht:(2*β+e).fdiv (2*e)≠0)(hcs:β*β<=e*(d*P)):e<=4*(d*P):=by
 have hb:e<=2*β\/2*β<=-e:=by
  rcases Int.lt_or_le (2*β) e with q | q
  ·rcases Int.lt_or_le (-e) (2*β) with q' | q'
   ·exfalso
    apply ht
    rw [Int.fdiv_eq_ediv_of_nonneg _ (by omega)]
    exact Int.ediv_eq_zero_of_lt (by omega) (by omega)
   ·exact .inr q'
  ·exact .inl q
 have sq:e*e<=4*(β*β):=by
  have e2:(2*β)*(2*β)=4*(β*β):=by grind
  rcases hb with q | q
  ·have:=Int.mul_le_mul q q (by omega) (by omega)
   omega
  ·have:=Int.mul_le_mul (show e<=-(2*β) by omega) (show e<=-(2*β) by omega) (by omega) (by omega)
   have e3:-(2*β)* -(2*β)=2*β*(2*β):=by grind
   omega
 have e4:e*(4*(d*P))=4*(e*(d*P)):=by grind
 exact Int.le_of_mul_le_mul_left (a:=e) (by omega) he
theorem rnd_far1(hu:u.length=n)(hp:p.length=n)(h1:0<d1 u):dot (aX [u] 1 p) (aX [u] 1 p)<=2*dot p p:=by
 have pp:=a9 p
 have c:Cos n [u] p (aX [u] 1 p):=dU (g:=[u]) (iV hu) 1 p (by simp) hp
 have rd:Red [u] 1 (aX [u] 1 p):=e6 (iu hu h1) (iV hu) 1 p (by simp) hp
 have rd0:=rd 0 (by decide)
 rw [show [u].take (0+1)=[u] from rfl,au,show [u].take 0=[] from rfl,cM] at rd0
 by_cases ht:rt [u] 0 p=0
 ·have e:aX [u] 1 p=p:=by
   show lss p u (rt [u] 0 p)=p
   rw [ht]; exact gT hp hu
  rw [e]; omega
 ·have tk:d1 u<=4*(1*dot p p):=by
   refine taken (β:=dot u p) h1 (by decide) (fun q=>ht ?_) ?_
   ·show(2*bil [] u p+Tg.sizeOf [u]).fdiv (2*Tg.sizeOf [u])=0
    rw [cM,au]; exact q
   ·have:=(BF.zero n).cs (x:=p) (b:=u) hp hu (by rw [cM]; exact h1)
    rw [cM,cM,cM] at this
    have e:d1 u*(1*dot p p)=dot u u*dot p p:=by unfold d1; grind
    rw [e]; exact this
  have l1:=eL hu c.1 h1 rd0
  rw [iq hu hp h1 c] at l1
  have le:d2 u p<=d1 u*dot p p:=(BF.one hu h1).le p hp
  have e1:d1 u*(8*dot p p)=4*(d1 u*dot p p)+d1 u*(4*dot p p):=by grind
  have q:d1 u*d1 u<=d1 u*(4*dot p p):=Int.mul_le_mul_of_nonneg_left (by omega) (by omega)
  have e2:d1 u*(4*dot (aX [u] 1 p) (aX [u] 1 p))=4*(d1 u*dot (aX [u] 1 p) (aX [u] 1 p)):=by grind
  have:=Int.le_of_mul_le_mul_left (a:=d1 u) (b:=4*dot (aX [u] 1 p) (aX [u] 1 p)) (c:=8*dot p p) (by omega) h1
  omega
theorem rnd_far2(hu:u.length=n)(hv:v.length=n)(hp:p.length=n)(h1:0<d1 u)(h2:0<d2 u v)(a:d1 u*d1 u<=2*d2 u v):dot (aX [u,v] 2 p) (aX [u,v] 2 p)<=4*dot p p:=by
 have pp:=a9 p
 have c:Cos n [u,v] p (aX [u,v] 2 p):=dU (g:=[u,v]) (eH hu hv) 2 p (by simp) hp
 have rd:Red [u,v] 2 (aX [u,v] 2 p):=e6 (iR hu hv h1 h2) (eH hu hv) 2 p (by simp) hp
 have rd0:=rd 0 (by decide)
 rw [show [u,v].take (0+1)=[u] from rfl,au,show [u,v].take 0=[] from rfl,cM] at rd0
 have rd1:=rd 1 (by decide)
 rw [show [u,v].take (1+1)=[u,v] from rfl,b7] at rd1
 by_cases ht:rt [u,v] 1 p=0
 ·have e:aX [u,v] 2 p=aX [u] 1 p:=by
   show aX [u,v] 1 (lss p v (rt [u,v] 1 p))=_
   rw [ht,gT hp hv]; rfl
  rw [e]
  have:=rnd_far1 hu hp h1
  omega
 ·have F:=BF.one hu h1
  have tk:d2 u v<=4*(d1 u*dot p p):=by
   refine taken (β:=bil [u] v p) h2 h1 (fun q=>ht ?_) ?_
   ·show(2*bil [u] v p+Tg.sizeOf [u,v]).fdiv (2*Tg.sizeOf [u,v])=0
    rw [b7]; exact q
   ·have c1:=F.cs (x:=p) (b:=v) hp hv h2
    have c2:bil [u] v v*bil [u] p p<=d2 u v*(d1 u*dot p p):=Int.mul_le_mul_of_nonneg_left (F.le p hp) (by have:0<bil [u] v v:=h2; omega)
    omega
  have l1:=eL hu c.1 h1 rd0
  have l2:=rnd_len2 hu c.1 h1 h2 rd1
  rw [d3_cos hu hv hp h1 h2 c] at l2
  have le:d3 u v p<=d2 u v*dot p p:=(BF.two hu hv h1 h2).le p hp
  have q1:d1 u*d3 u v p<=d1 u*(d2 u v*dot p p):=Int.mul_le_mul_of_nonneg_left le (by omega)
  have B4:4*d2 u (aX [u,v] 2 p)<=d2 u v+4*(d1 u*dot p p):=by
   refine Int.le_of_mul_le_mul_left (a:=d2 u v) ?_ h2
   have e1:d2 u v*(4*d2 u (aX [u,v] 2 p))=4*(d2 u v*d2 u (aX [u,v] 2 p)):=by grind
   have e2:d2 u v*(d2 u v+4*(d1 u*dot p p))=d2 u v*d2 u v+4*(d1 u*(d2 u v*dot p p)):=by grind
   omega
  have:=Int.le_of_mul_le_mul_left (a:=d1 u) (b:=4*dot (aX [u,v] 2 p) (aX [u,v] 2 p)) (c:=16*dot p p) (by
   have e1:d1 u*(4*dot (aX [u,v] 2 p) (aX [u,v] 2 p))=4*(d1 u*dot (aX [u,v] 2 p) (aX [u,v] 2 p)):=by grind
   have e2:d1 u*(16*dot p p)=16*(d1 u*dot p p):=by grind
   omega) h1
  omega
theorem rnd_far3(hu:u.length=3)(hv:v.length=3)(hw:w.length=3)(hp:p.length=3)(h1:0<d1 u)(h2:0<d2 u v)(h3:0<d3 u v w)(a:d1 u*d1 u<=2*d2 u v)(a2:d2 u v*d2 u v<=2*(d1 u*d3 u v w)) :
  dot (aX [u,v,w] 3 p) (aX [u,v,w] 3 p)<=7*dot p p/\4*(d2 u v*dot (aX [u,v,w] 3 p) (aX [u,v,w] 3 p))<=7*d3 u v w:=by
 have pp:=a9 p
 have L3:=cY hu hv hw
 have c:Cos 3 [u,v,w] p (aX [u,v,w] 3 p):=dU (g:=[u,v,w]) L3 3 p (by simp) hp
 have rd:Red [u,v,w] 3 (aX [u,v,w] 3 p):=e6 (gi hu hv h1 h2 h3) L3 3 p (by simp) hp
 have rd0:=rd 0 (by decide)
 rw [show [u,v,w].take (0+1)=[u] from rfl,au,show [u,v,w].take 0=[] from rfl,cM] at rd0
 have rd1:=rd 1 (by decide)
 rw [show [u,v,w].take (1+1)=[u,v] from rfl,b7] at rd1
 have rd2:=rd 2 (by decide)
 rw [show [u,v,w].take (2+1)=[u,v,w] from rfl,dL] at rd2
 have l1:=eL hu c.1 h1 rd0
 have l2:=rnd_len2 hu c.1 h1 h2 rd1
 have l3:=last3 hu hv hw c.1 h3 rd2
 have B:=far3 h1 h2 a a2 l1 l2 l3
 refine⟨?_,B⟩
 by_cases ht:rt [u,v,w] 2 p=0
 ·have e:aX [u,v,w] 3 p=aX [u,v] 2 p:=by
   show aX [u,v,w] 2 (lss p w (rt [u,v,w] 2 p))=_
   rw [ht,gT hp hw]; rfl
  rw [e]
  have:=rnd_far2 hu hv hp h1 h2 a
  omega
 ·have F:=BF.two hu hv h1 h2
  have tk:d3 u v w<=4*(d2 u v*dot p p):=by
   refine taken (β:=bil [u,v] w p) h3 h2 (fun q=>ht ?_) ?_
   ·show(2*bil [u,v] w p+Tg.sizeOf [u,v,w]).fdiv (2*Tg.sizeOf [u,v,w])=0
    rw [dL]; exact q
   ·have c1:=F.cs (x:=p) (b:=w) hp hw h3
    have c2:bil [u,v] w w*bil [u,v] p p<=d3 u v w*(d2 u v*dot p p):=Int.mul_le_mul_of_nonneg_left (F.le p hp) (by have:0<bil [u,v] w w:=h3; omega)
    omega
  have:=Int.le_of_mul_le_mul_left (a:=d2 u v) (b:=4*dot (aX [u,v,w] 3 p) (aX [u,v,w] 3 p)) (c:=28*dot p p) (by
   have e1:d2 u v*(4*dot (aX [u,v,w] 3 p) (aX [u,v,w] 3 p))=4*(d2 u v*dot (aX [u,v,w] 3 p) (aX [u,v,w] 3 p)):=by grind
   have e2:d2 u v*(28*dot p p)=28*(d2 u v*dot p p):=by grind
   omega) h2
  omega
end
def sNr(i:Nat):Nat:=if i=0 then 183 else if i=1 then 259 else 1
theorem seek_near{n:Nat}{m:List Vec}{p:Vec}(n1:1<=n)(n3:n<=3)(L:Len n m)(C:Chain n m)(k3:m.length<=n)(sh:∀q,1<=q->q<m.length->Adj m q)(hp:p.length=n)(hpp:dot p p<=4800) :
  SeekOk n m (dot (aX m m.length p) (aX m m.length p)) sNr/\dot (aX m m.length p) (aX m m.length p)<=33600:=by
 have mk:∀b:Int,0<=b->b<=33600->(∀i,i<m.length->b*Tg.sizeOf (m.take i)<((sNr i:Int)+1)*(sNr i+1)*Tg.sizeOf (m.take (i+1)))->SeekOk n m b sNr:=fun b h0 h1 h2=>
  ⟨n1,n3,L,by omega,C,Nat.lt_of_lt_of_le (show b.natAbs<2^16 by omega) (Nat.pow_le_pow_right (by decide) (by decide)),h2,by
   match m,k3 with
   | [],_=>show Cnt sNr 0<=_; decide
   | [_],_=>show Cnt sNr 1<=_; decide
   | [_,_],_=>show Cnt sNr 2<=_; decide
   | [_,_,_],_=>show Cnt sNr 3<=_; decide
   | _::_::_::_::_,k3=>simp at k3; omega⟩
 have A0:∀(b:Int)(u:Vec),b<=33600->0<d1 u->b*Tg.sizeOf []<((sNr 0:Int)+1)*(sNr 0+1)*Tg.sizeOf [u]:=fun b u hb h1=>by
  rw [d9,au,show(sNr 0:Int)=183 from rfl]; omega
 have A1:∀(b:Int)(u v:Vec),b<=33600->0<d1 u->0<d2 u v->d1 u*d1 u<=2*d2 u v->b*Tg.sizeOf [u]<((sNr 1:Int)+1)*(sNr 1+1)*Tg.sizeOf [u,v]:=fun b u v hb h1 h2 a=>by
  rw [au,b7,show(sNr 1:Int)=259 from rfl]
  have q1:b*d1 u<=33600*d1 u:=Int.mul_le_mul_of_nonneg_right hb (by omega)
  have q2:1*d1 u<=d1 u*d1 u:=Int.mul_le_mul_of_nonneg_right (by omega) (by omega)
  omega
 match m,L,C,k3,sh with
 | [],_,_,_,_=>
   have e:dot (aX ([]:List Vec) ([]:List Vec).length p) (aX ([]:List Vec) ([]:List Vec).length p)=dot p p:=rfl
   rw [e]
   exact⟨mk _ (a9 p) (by omega) (fun i hi=>by simp at hi),by omega⟩
 | [u],L,C,_,_=>
   have hu:u.length=n:=L u (by simp)
   have h1:0<d1 u:=by have:=C.pos 1 (by simp); rw [show [u].take 1=[u] from rfl,au] at this; exact this
   have f:=rnd_far1 hu hp h1
   have b:dot (aX [u] [u].length p) (aX [u] [u].length p)<=33600:=by show dot (aX [u] 1 p) (aX [u] 1 p)<=_; omega
   refine⟨mk _ (a9 _) b fun i hi=>?_,b⟩
   have e:i=0:=by simp at hi; exact hi
   subst e
   exact A0 _ u b h1
 | [u,v],L,C,_,sh=>
   have hu:u.length=n:=L u (by simp)
   have hv:v.length=n:=L v (by simp)
   have h1:0<d1 u:=by have:=C.pos 1 (by simp); rw [show [u,v].take 1=[u] from rfl,au] at this; exact this
   have h2:0<d2 u v:=by have:=C.pos 2 (by simp); rw [show [u,v].take 2=[u,v] from rfl,b7] at this; exact this
   have a:=i7 (sh 1 (by decide) (by simp)) h1
   have f:=rnd_far2 hu hv hp h1 h2 a
   have b:dot (aX [u,v] [u,v].length p) (aX [u,v] [u,v].length p)<=33600:=by show dot (aX [u,v] 2 p) (aX [u,v] 2 p)<=_; omega
   refine⟨mk _ (a9 _) b fun i hi=>?_,b⟩
   match i,hi with
   | 0,_=>exact A0 _ u b h1
   | 1,_=>exact A1 _ u v b h1 h2 a
 | [u,v,w],L,C,k3,sh=>
   have en:n=3:=by simp at k3; omega
   subst en
   have hu:u.length=3:=L u (by simp)
   have hv:v.length=3:=L v (by simp)
   have hw:w.length=3:=L w (by simp)
   have h1:0<d1 u:=by have:=C.pos 1 (by simp); rw [show [u,v,w].take 1=[u] from rfl,au] at this; exact this
   have h2:0<d2 u v:=by have:=C.pos 2 (by simp); rw [show [u,v,w].take 2=[u,v] from rfl,b7] at this; exact this
   have h3:0<d3 u v w:=by have:=C.pos 3 (by simp); rw [show [u,v,w].take 3=[u,v,w] from rfl,dL] at this; exact this
   have a:=i7 (sh 1 (by decide) (by simp)) h1
   have a2:=adj23 (sh 2 (by decide) (by simp)) h2
   have f:=rnd_far3 hu hv hw hp h1 h2 h3 a a2
   have b:dot (aX [u,v,w] [u,v,w].length p) (aX [u,v,w] [u,v,w].length p)<=33600:=by show dot (aX [u,v,w] 3 p) (aX [u,v,w] 3 p)<=_; omega
   refine⟨mk _ (a9 _) b fun i hi=>?_,b⟩
   match i,hi with
   | 0,_=>exact A0 _ u b h1
   | 1,_=>exact A1 _ u v b h1 h2 a
   | 2,_=>
     show dot (aX [u,v,w] 3 p) (aX [u,v,w] 3 p)*Tg.sizeOf [u,v]<((sNr 2:Int)+1)*(sNr 2+1)*Tg.sizeOf [u,v,w]
     rw [b7,dL,show(sNr 2:Int)=1 from rfl,Int.mul_comm (dot _ _)]
     have:=f.2
     omega
 | _::_::_::_::_,_,_,k3,_=>simp at k3; omega
theorem told_before:∀(v:Vec),isTold v=before (zero v.length) v
 | []=>rfl
 | a::v=>by
   have ih:=told_before v
   have e:before (zero (a::v).length) (a::v)=(decide (0<a) || ((0:Int) == a && before (zero v.length) v)):=rfl
   rw [e,<- ih]
   unfold isTold lead
   by_cases h:a=0
   ·subst h
    rw [List.findIdx_cons]
    simp [num]
   ·have h1:(a != 0)=true:=by simpa using h
    have h2:((0:Int) == a)=false:=by simpa using fun q=>h q.symm
    rw [List.findIdx_cons,h1,h2]
    simp [num]
section
variable{n N:Nat}{g m l us:List Vec}{b x:Int}{p:Vec}
theorem short_found(H:Ech n g)(M:Len n m)(sp:∀v,Sp n m v↔Sp n g v)(R:Reach n m (Tg.zero n) b N l)
  (hp:us.Perm (l.filter fun v=>before (Tg.zero n) v)) (hs:us.Pairwise fun x y=>before (dot y y::y) (dot x x::x)=false):Tg.short n g b=us:=by
 have mem:∀w,w∈us↔Sp n g w/\isTold w=true/\lengthOf w<=b:=fun w=>by
  rw [hp.mem_iff,List.mem_filter,R.mem,gZ M,sp]
  constructor
  ·rintro⟨⟨h1,h2⟩,h3⟩
   refine⟨h1,?_,h2⟩
   rw [told_before,h1.len]; exact h3
  ·rintro⟨h1,h2,h3⟩
   refine⟨⟨h1,h3⟩,?_⟩
   rw [told_before,h1.len] at h2; exact h2
 refine short_eq H ?_ mem
 have nd:us.Nodup:=hp.nodup_iff.2 (R.nd.filter _)
 refine(hs.and nd).imp_of_mem ?_
 rintro a c ha hc ⟨h1,h2⟩
 exact(order_sooner n).total ((mem c).1 hc).1.len ((mem a).1 ha).1.len (Ne.symm h2) h1
theorem c8{v:Vec}(lp:p.length=n)(lv:v.length=n):minus p (minus p v)=v:=by
 apply cB (aG lp (aG lp lv)) lv
 intro j; rw [aa lp (aG lp lv),aa lp lv]; omega
theorem eP{v:Vec}(lv:v.length=n):minus p (times 1 v)=minus p v:=by rw [fu lv]
theorem near_found(H:Ech n g)(M:Len n m)(sp:∀v,Sp n m v↔Sp n g v)(lp:p.length=n)(R:Reach n m p b N l)(hx:x∈l.map fun v=>dot v v)(hle:∀y∈l.map (fun v=>dot v v),x<=y)
  (hp:us.Perm ((l.filter fun v=>decide (dot v v=x)).map fun v=>minus p (times 1 v))) (hs:us.Pairwise fun u w=>before w u=false):IsNear n g p x us:=by
 obtain⟨v0,hv0,ex⟩:=List.mem_map.1 hx
 have xb:x<=b:=by rw [<- ex]; exact((R.mem v0).1 hv0).2
 have mem:∀u,u∈us↔Sp n g u/\lengthOf (minus p u)=x:=fun u=>by
  rw [hp.mem_iff,List.mem_map]
  constructor
  ·rintro⟨v,hv,rfl⟩
   obtain⟨h1,h2⟩:=List.mem_filter.1 hv
   have h2:dot v v=x:=of_decide_eq_true h2
   have hc:=((R.mem v).1 h1).1
   rw [eP hc.1]
   exact⟨(sp _).1 hc.2,by rw [c8 lp hc.1]; exact h2⟩
  ·rintro⟨h1,h2⟩
   have lu:=h1.len
   have lv:(minus p u).length=n:=aG lp lu
   refine⟨minus p u,List.mem_filter.2 ⟨(R.mem _).2 ⟨⟨lv,?_⟩,?_⟩,decide_eq_true h2⟩,?_⟩
   ·rw [c8 lp lu]; exact(sp _).2 h1
   ·have h2:dot (minus p u) (minus p u)=x:=h2
    rw [h2]; exact xb
   ·rw [eP lv,c8 lp lu]
 have nd:us.Nodup:=by
  refine hp.nodup_iff.2 ?_
  refine(List.pairwise_map).2 ((R.nd.filter _).imp_of_mem fun{a c} ha hc hne e=>hne ?_)
  have la:=((R.mem a).1 (List.mem_filter.1 ha).1).1.1
  have lc:=((R.mem c).1 (List.mem_filter.1 hc).1).1.1
  rw [eP la,eP lc] at e
  rw [<- c8 lp la,<- c8 lp lc,e]
 refine⟨?_,fun u hu=>?_,mem,?_⟩
 ·have hc:=((R.mem v0).1 hv0).1
  exact⟨minus p v0,(sp _).1 hc.2,by rw [c8 lp hc.1]; exact ex⟩
 ·have lu:=hu.len
  have lv:(minus p u).length=n:=aG lp lu
  show x<=dot (minus p u) (minus p u)
  rcases Int.le_total (dot (minus p u) (minus p u)) b with q | q
  ·exact hle _ (List.mem_map.2 ⟨_,(R.mem _).2 ⟨⟨lv,by rw [c8 lp lu]; exact(sp _).2 hu⟩,q⟩,rfl⟩)
  ·omega
 ·refine(hs.and nd).imp_of_mem ?_
  rintro a c ha hc ⟨h1,h2⟩
  exact(order_before n).total ((mem c).1 hc).1.len ((mem a).1 ha).1.len (Ne.symm h2) h1
end
theorem behind_test{m:Nat}{r:Vec}(h:num r (lead r)≠0):isZero (r.take m)=decide (m<=lead r):=by
 rw [Bool.eq_iff_iff,cI,decide_eq_true_iff]
 constructor
 ·intro hz
  rcases Nat.lt_or_ge (lead r) m with q | q
  ·exact absurd (hz _ q) h
  ·exact q
 ·exact fun hm j hj=>a5 (by omega)
theorem behind_snoc(m:Nat)(l:List Vec)(r:Vec):Tg.behind m (l++[r])=Tg.behind m l++if isZero (r.take m)=true then [r.drop m] else []:=by
 unfold Tg.behind
 rw [List.filter_append,List.map_append]
 congr 1
 cases e:isZero (r.take m) <;> simp [e]
theorem bd_zero(B n:Nat):Bd B (Tg.zero n):=fun j=>by
 show(num (Tg.zero n) j).natAbs<_
 rw [a6]; exact Nat.two_pow_pos _
def cf(n:Nat)(h:List Vec):List Vec:=(List.range n).map fun(j:Nat)=>(h.map fun(r:Vec)=>num r j)++Tg.unit n j
theorem acrossRows_len(n:Nat)(h:List Vec):(cf n h).length=n:=by simp [cf]
theorem acrossRows_get{n:Nat}(h:List Vec){i:Nat}(hi:i<n):(cf n h)[i]? =some ((h.map fun(r:Vec)=>num r i)++Tg.unit n i):=by
 unfold cf
 rw [List.getElem?_map,List.getElem?_range hi]; rfl
theorem acrossRows_rows(n:Nat)(h:List Vec):Len (h.length+n) (cf n h):=by
 intro r hr
 obtain⟨j,_,rfl⟩:=List.mem_map.1 hr
 rw [List.length_append,List.length_map,b5]
theorem bd_unit{B n j:Nat}(hB:1<=B):Bd B (Tg.unit n j):=fun i=>by
 have h2:2^1<=2^B:=Nat.pow_le_pow_right (by decide) hB
 show(num (Tg.unit n j) i).natAbs<_
 rcases Nat.lt_or_ge i n with q | q
 ·rw [cF q]; split <;> omega
 ·have:num (Tg.unit n j) i=0:=by
   unfold num
   rw [List.getD_eq_getElem?_getD,List.getElem?_eq_none (by rw [b5]; exact q)]; rfl
  rw [this]; omega
theorem bd_nums{B:Nat}{h:List Vec}(Bh:Bds B h)(i:Nat):Bd B (h.map fun(r:Vec)=>num r i):=fun j=>by
 show(num (h.map fun(r:Vec)=>num r i) j).natAbs<_
 rcases Nat.lt_or_ge j h.length with q | q
 ·have:num (h.map fun(r:Vec)=>num r i) j=num h[j] i:=by simp [num,q]
  rw [this]; exact Bh _ (List.getElem_mem q) i
 ·have:num (h.map fun(r:Vec)=>num r i) j=0:=by
   unfold num
   rw [List.getD_eq_getElem?_getD,List.getElem?_eq_none (by rw [List.length_map]; exact q)]; rfl
  rw [this]; exact Nat.two_pow_pos _
theorem acrossRows_bd{B n:Nat}{h:List Vec}(hB:1<=B)(Bh:Bds B h):Bds B (cf n h):=by
 intro r hr
 obtain⟨j,_,rfl⟩:=List.mem_map.1 hr
 exact Bd.append (bd_nums Bh j) (bd_unit hB)
theorem across_bd{k:Nat}{g:TgCalls.Grid}(G:Good k g)(hk:k+2<=7):Bds 4489 (Tg.across g.n g.h):=by
 have h:=G.act .across rfl
 exact h.bd hk
noncomputable def kap (n:Nat) (r:Vec) (h:List Vec) (u:Vec):Int:=by
 classical
 exact if hu:∃k:Int,Sp n h (minus u (times k r)) then Classical.choose hu else 0
theorem kap_spec{n:Nat}{r:Vec}{h:List Vec}{u:Vec}(hu:Sp n (r::h) u):Sp n h (minus u (times (kap n r h u) r)):=by
 unfold kap
 rw [dif_pos hu.2]
 exact Classical.choose_spec hu.2
theorem incong{n:Nat}:∀{h:List Vec},Len n h->∀{l:List Vec},(∀u∈l,Sp n h u)->l.Pairwise (fun u v=>¬ ∃w,Sp n h w/\minus u v=times 2 w)->l.length<=2^h.length
 | [],_,l,hl,hp=>by
   match l,hl,hp with
   | [],_,_=>simp
   | [_],_,_=>simp
   | a::b::l,hl,hp=>
     exfalso
     have ea:a=Tg.zero n:=hl a (by simp)
     have eb:b=Tg.zero n:=hl b (by simp)
     refine(List.pairwise_cons.1 hp).1 b (by simp) ⟨Tg.zero n,rfl,?_⟩
     rw [ea,eb,eX,c7 (aH n)]
 | r::h,L,l,hl,hp=>by
   have part:∀b:Int,(l.filter fun u=>decide (kap n r h u%2=b)).length<=2^h.length:=by
    intro b
    have ih:=incong L.tail (l:=(l.filter fun u=>decide (kap n r h u%2=b)).map fun u=>minus u (times (kap n r h u) r)) (by
     intro v hv
     obtain⟨u,hu,rfl⟩:=List.mem_map.1 hv
     exact kap_spec (hl u (List.mem_filter.1 hu).1)) (by
     rw [List.pairwise_map]
     refine List.Pairwise.imp_of_mem ?_ (hp.filter _)
     rintro u v hu hv hne ⟨w,hw,e⟩
     have hu':=List.mem_filter.1 hu
     have hv':=List.mem_filter.1 hv
     have pu:kap n r h u%2=b:=by simpa using hu'.2
     have pv:kap n r h v%2=b:=by simpa using hv'.2
     have lu:=(hl u hu'.1).len
     have lv:=(hl v hv'.1).len
     have lr:=L.head
     obtain⟨c,hc⟩:∃c,kap n r h u - kap n r h v=2*c:=⟨(kap n r h u - kap n r h v)/2,by omega⟩
     refine hne ⟨plus w (times c r),Sp.plus L (Sp.cons_of L hw) (Sp.times _ L (Sp.mem L (by simp))),?_⟩
     have lw:=hw.len
     apply cB (aG lu lv) (aD _ (aW lw (aD _ lr)))
     intro j
     have ej:=congrArg (fun z=>num z j) e
     simp only [aa (aG lu (aD _ lr)) (aG lv (aD _ lr)),cG _ lu lr,cG _ lv lr,aM] at ej
     rw [aa lu lv,aM,fh _ lw lr]
     have:(kap n r h u - kap n r h v)*num r j=2*c*num r j:=by rw [hc]
     grind)
    rw [List.length_map] at ih
    exact ih
   have h0:=part 0
   have h1:=part 1
   have e:l.length=(l.filter fun u=>decide (kap n r h u%2=0)).length+(l.filter fun u=>decide (kap n r h u%2=1)).length:=by
    have:=filter_split (fun u=>decide (kap n r h u%2=0)) l
    have e2:(l.filter fun u=>!decide (kap n r h u%2=0))=l.filter fun u=>decide (kap n r h u%2=1):=by
     apply List.filter_congr
     intro u _
     rw [Bool.eq_iff_iff]
     simp
     omega
    rw [e2] at this
    omega
   rw [List.length_cons,Nat.pow_succ]
   omega
theorem lengthOf_minus_sum:∀(a b:Vec),a.length=b.length->2*lengthOf a+2*lengthOf b=lengthOf (plus a b)+lengthOf (minus a b)
 | [],[],_=>by simp [plus,minus,dX]
 | x::a,y::b,h=>by
   have ih:=lengthOf_minus_sum a b (by simpa using h)
   have e1:plus (x::a) (y::b)=(x+y)::plus a b:=by simp [plus]
   have e2:minus (x::a) (y::b)=(x - y)::minus a b:=by simp [minus]
   rw [e1,e2,bx,bx,bx,bx]
   grind
theorem near_count{n:Nat}{h:List Vec}(H:Ech n h){p:Vec}(lp:p.length=n):(near h p).2.length<=2^h.length:=by
 have N:=near_isNear H lp
 refine incong H.len (fun u hu=>((N.mem u).1 hu).1) ?_
 refine List.Pairwise.imp_of_mem ?_ N.sorted
 rintro u v hu hv hb ⟨w,hw,e⟩
 obtain⟨su,eu⟩:=(N.mem u).1 hu
 obtain⟨sv,ev⟩:=(N.mem v).1 hv
 have lu:=su.len
 have lv:=sv.len
 have lw:=hw.len
 have sm:=Sp.plus H.len sv hw
 have hm:=N.le _ sm
 have hsum:=lengthOf_minus_sum (minus p u) (minus p v) (by rw [aG lp lu,aG lp lv])
 have ep:plus (minus p u) (minus p v)=times 2 (minus p (plus v w)):=by
  apply cB (aW (aG lp lu) (aG lp lv)) (aD _ (aG lp (aW lv lw)))
  intro j
  have ej:=congrArg (fun z=>num z j) e
  simp only [aa lu lv,aM] at ej
  rw [cS (aG lp lu) (aG lp lv),aa lp lu,aa lp lv,aM,aa lp (aW lv lw),cS lv lw]
  omega
 have em:minus (minus p u) (minus p v)=minus v u:=by
  apply cB (aG (aG lp lu) (aG lp lv)) (aG lv lu)
  intro j
  rw [aa (aG lp lu) (aG lp lv),aa lp lu,aa lp lv,aa lv lu]; omega
 rw [ep,em,lengthOf_times,eu,ev] at hsum
 have hz:isZero (minus v u)=true:=isZero_of_length (by omega)
 have:=cj lv lu (eq_zero_of_isZero (aG lv lu) hz)
 subst this
 rw [dI] at hb
 exact absurd hb (by simp)
end Wl
end
section
namespace Pw
open PySem PySem.Sem
def InvS(M:Model)(Γ:Ctx)(p:Pos)(t:Sem PySem.Fin)(s:Shared)(e:End)(s':Shared):Prop:=match t with
 | .pure x=>(match x with
   | .done f=>e=.ret (.ok f)/\s'=s
   | .again c=>Runs M (Γ.goto c) p (M.den c) [] s e s')
 | .raise x=>e=.ret (.error x)/\s'=s
 | .rule _ k=>Runs M Γ p (k ()) [] s e s'
 | .at p' k=>Runs M Γ p' (k ()) [] s e s'
 | .load a _ k=>∃o,s.heap.get? a=some o/\Runs M Γ p (k o) [] s e s'
 | .update a _ f k=>Runs M Γ p (k ()) [] {s with heap:=s.heap.update a f} e s'
 | .loadIfAlive a k=>Runs M Γ p (k (s.heap.get? a)) [] s e s'
 | .point _ k=>Runs M Γ p (k ()) [] s e s'
 | .alloc o k=>Runs M Γ p (k s.heap.objs.size) [] {s with heap:=s.heap.push o} e s'
 | .fresh k=>Runs M Γ p (k s.toks) [] {s with toks:=s.toks+1} e s'
 | .ask k=>Runs M Γ p (k ⟨M.prog,M.w.params⟩) [] s e s'
 | .choose src n k=>Runs M Γ p (k (M.w.draws src (s.drawn.get src)%n)) [] {s with drawn:=s.drawn.bump src} e s'
 | .os q _ k=>Runs M Γ p (k (Os.step s.os q).2) [] {s with os:=(Os.step s.os q).1} e s'
 | .handled own k=>Runs M Γ p (k (if own then Γ.own else Γ.handled)) [] s e s'
 | .genState g k=>∃st,s.gens[g]? =some st/\Runs M Γ p (k st.seen) [] s e s'
 | .stack k=>Runs M Γ p (k ((Γ.code,p)::Γ.below)) [] s e s'
 | .thread k=>Runs M Γ p (k 0) [] s e s'
 | .newGen c k=>Runs M Γ p (k s.gens.size) [] {s with gens:=s.gens.push (.fresh c)} e s'
 | .call c h g l k=>(∃r t1,Runs M (Γ.enter c h p) p (M.den c) [] s (.ret r) t1/\Runs M Γ p (k r) [] t1 e s')\/
   (∃v g0 l0 k0 c0 p0 fs,Runs M (Γ.enter c h p) p (M.den c) [] s (.susp v g0 l0 k0 c0 p0 fs) s'/\e=.susp v g0 l0 k0 c0 p0 (fs++[.ret k h g l Γ.code p []]))
 | .yield v g l k=>e=.susp v g l k Γ.code p []/\s'=s
 | .resume g r _ k=>(∃c z t1,r=.send .none/\s.gens[g]? =some (.fresh c)/\Runs M (Γ.wake c p) p (M.den c) [] (s.setGen g .running) z t1/\Runs M Γ p (k z.result) [] (t1.setGen g z.genState) e s')\/
   (∃k0 l0 c0 p0 fs cl z t1,s.gens[g]? =some (.suspended k0 l0 c0 p0 fs cl)/\Runs M (Γ.wake c0 p) p0 (k0 r) fs (s.setGen g .running) z t1/\Runs M Γ p (k z.result) [] (t1.setGen g z.genState) e s')\/
   (∃c v,r=.send v/\v≠.none/\s.gens[g]? =some (.fresh c)/\Runs M Γ p (k .justStarted) [] s e s')\/
   (∃c x,r=.throw x/\s.gens[g]? =some (.fresh c)/\Runs M Γ p (k (.raised x)) [] (s.setGen g .finished) e s')\/
   (s.gens[g]? =some .running/\Runs M Γ p (k .running) [] s e s')\/(s.gens[g]? =some .finished/\Runs M Γ p (k .finished) [] s e s')
 | _=>False
def InvR(M:Model)(Γ:Ctx)(p:Pos)(t:Sem PySem.Fin)(fs:List Frame)(s:Shared)(e:End)(s':Shared):Prop:=match fs with
 | []=>InvS M Γ p t s e s'
 | F::fs=>(∃r t1,Runs M (Γ.over (F::fs)) p t [] s (.ret r) t1/\(match F with
   | .ret k _ _ _ c p1 _=>Runs M (Γ.goto c) p1 (k r) fs t1 e s'
   | .gen g k _ c p1=>Runs M (Γ.goto c) p1 (k (End.ret r).result) fs (t1.setGen g .finished) e s'))\/
   (∃v g0 l0 k0 c0 p0 f0 t1,Runs M (Γ.over (F::fs)) p t [] s (.susp v g0 l0 k0 c0 p0 f0) t1/\((splitAtGen (F::fs)=none/\e=.susp v g0 l0 k0 c0 p0 (f0++F::fs)/\s'=t1)\/
    ∃pre g k c p1 rest,splitAtGen (F::fs)=some (pre,(g,k,c,p1),rest)/\Runs M (Γ.goto c) p1 (k (.yielded v)) rest (t1.setGen g (End.susp v g0 l0 k0 c0 p0 (f0++pre)).genState) e s'))
theorem inv{M:Model}{Γ:Ctx}{p:Pos}{t:Sem PySem.Fin}{fs:List Frame}{s s1:Shared}{e1:End}(h:Runs M Γ p t fs s e1 s1):InvR M Γ p t fs s e1 s1:=by
 cases h with
 | done=>exact⟨rfl,rfl⟩
 | raise=>exact⟨rfl,rfl⟩
 | again _ h=>exact h
 | rule h=>exact h
 | «at» h=>exact h
 | load g h=>exact⟨_,g,h⟩
 | update _ h=>exact h
 | loadIfAlive h=>exact h
 | point h=>exact h
 | alloc h=>exact h
 | fresh h=>exact h
 | ask h=>exact h
 | choose _ h=>exact h
 | os h=>exact h
 | handled h=>exact h
 | genState g h=>exact⟨_,g,h⟩
 | stack h=>exact h
 | thread h=>exact h
 | newGen h=>exact h
 | call a b=>exact .inl ⟨_,_,a,b⟩
 | callSusp a=>exact .inr ⟨_,_,_,_,_,_,_,a,rfl⟩
 | yield=>exact⟨rfl,rfl⟩
 | resumeFresh g a _ b=>exact .inl ⟨_,_,_,rfl,g,a,b⟩
 | resumeSuspended g a _ b=>exact .inr (.inl ⟨_,_,_,_,_,_,_,_,g,a,b⟩)
 | resumeJustStarted g v b=>exact .inr (.inr (.inl ⟨_,_,rfl,v,g,b⟩))
 | resumeThrowFresh g b=>exact .inr (.inr (.inr (.inl ⟨_,_,rfl,g,b⟩)))
 | resumeRunning g b=>exact .inr (.inr (.inr (.inr (.inl ⟨g,b⟩))))
 | resumeFinished g b=>exact .inr (.inr (.inr (.inr (.inr ⟨g,b⟩))))
 | segRet a b=>exact .inl ⟨_,_,a,b⟩
 | segGen a b=>exact .inl ⟨_,_,a,b⟩
 | segSuspOut n a=>exact .inr ⟨_,_,_,_,_,_,_,_,a,.inl ⟨n,rfl,rfl⟩⟩
 | segSuspGen n a _ b=>exact .inr ⟨_,_,_,_,_,_,_,_,a,.inr ⟨_,_,_,_,_,_,n,b⟩⟩
theorem runs_det{M:Model}{Γ:Ctx}{p:Pos}{t:Sem PySem.Fin}{fs:List Frame}{s s1:Shared}{e1:End}(h1:Runs M Γ p t fs s e1 s1) :
  ∀{e2:End}{s2:Shared},Runs M Γ p t fs s e2 s2->e1=e2/\s1=s2:=by
 induction h1 with
 | done=>intro e2 s2 h; have⟨a,b⟩:=inv h; exact⟨a.symm,b.symm⟩
 | raise=>intro e2 s2 h; have⟨a,b⟩:=inv h; exact⟨a.symm,b.symm⟩
 | again _ _ ih=>intro e2 s2 h; exact ih (inv h)
 | rule _ ih=>intro e2 s2 h; exact ih (inv h)
 | «at» _ ih=>intro e2 s2 h; exact ih (inv h)
 | load ho _ ih=>intro e2 s2 h; have⟨o,g,h⟩:=inv h; cases ho.symm.trans g; exact ih h
 | update _ _ ih=>intro e2 s2 h; exact ih (inv h)
 | loadIfAlive _ ih=>intro e2 s2 h; exact ih (inv h)
 | point _ ih=>intro e2 s2 h; exact ih (inv h)
 | alloc _ ih=>intro e2 s2 h; exact ih (inv h)
 | fresh _ ih=>intro e2 s2 h; exact ih (inv h)
 | ask _ ih=>intro e2 s2 h; exact ih (inv h)
 | choose _ _ ih=>intro e2 s2 h; exact ih (inv h)
 | os _ ih=>intro e2 s2 h; exact ih (inv h)
 | handled _ ih=>intro e2 s2 h; exact ih (inv h)
 | genState hg _ ih=>intro e2 s2 h; have⟨o,g,h⟩:=inv h; cases hg.symm.trans g; exact ih h
 | stack _ ih=>intro e2 s2 h; exact ih (inv h)
 | thread _ ih=>intro e2 s2 h; exact ih (inv h)
 | newGen _ ih=>intro e2 s2 h; exact ih (inv h)
 | call _ _ ih1 ih2=>
   intro e2 s2 h
   rcases inv h with⟨r,t1,a,b⟩ | ⟨v,g0,l0,k0,c0,p0,f0,a,_⟩
   ·obtain⟨e,e'⟩:=ih1 a; cases e; cases e'; exact ih2 b
   ·cases (ih1 a).1
 | callSusp _ ih1=>
   intro e2 s2 h
   rcases inv h with⟨r,t1,a,b⟩ | ⟨v,g0,l0,k0,c0,p0,f0,a,z⟩
   ·cases (ih1 a).1
   ·obtain⟨e,e'⟩:=ih1 a; cases e; cases e'; exact⟨z.symm,rfl⟩
 | yield=>intro e2 s2 h; have⟨a,b⟩:=inv h; exact⟨a.symm,b.symm⟩
 | resumeFresh hg _ _ _ ih1 ih2=>
   intro e2 s2 h
   rcases inv h with⟨c,z,t1,_,g,a,b⟩ | ⟨_,_,_,_,_,_,z,t1,g,a,b⟩ | ⟨c,v,r,n,g,b⟩ | ⟨c,x,r,g,b⟩ | ⟨g,b⟩ | ⟨g,b⟩
   ·cases hg.symm.trans g; obtain⟨e,e'⟩:=ih1 a; cases e; cases e'; exact ih2 b
   ·cases hg.symm.trans g
   ·cases r; exact absurd rfl n
   ·cases r
   ·cases hg.symm.trans g
   ·cases hg.symm.trans g
 | resumeSuspended hg _ _ _ ih1 ih2=>
   intro e2 s2 h
   rcases inv h with⟨c,z,t1,_,g,a,b⟩ | ⟨_,_,_,_,_,_,z,t1,g,a,b⟩ | ⟨c,v,r,n,g,b⟩ | ⟨c,x,r,g,b⟩ | ⟨g,b⟩ | ⟨g,b⟩
   ·cases hg.symm.trans g
   ·cases hg.symm.trans g; obtain⟨e,e'⟩:=ih1 a; cases e; cases e'; exact ih2 b
   ·cases hg.symm.trans g
   ·cases hg.symm.trans g
   ·cases hg.symm.trans g
   ·cases hg.symm.trans g
 | resumeJustStarted hg hv _ ih=>
   intro e2 s2 h
   rcases inv h with⟨c,z,t1,r,g,a,b⟩ | ⟨_,_,_,_,_,_,z,t1,g,a,b⟩ | ⟨c,v,r,n,g,b⟩ | ⟨c,x,r,g,b⟩ | ⟨g,b⟩ | ⟨g,b⟩
   ·cases r; exact absurd rfl hv
   ·cases hg.symm.trans g
   ·exact ih b
   ·cases r
   ·cases hg.symm.trans g
   ·cases hg.symm.trans g
 | resumeThrowFresh hg _ ih=>
   intro e2 s2 h
   rcases inv h with⟨c,z,t1,r,g,a,b⟩ | ⟨_,_,_,_,_,_,z,t1,g,a,b⟩ | ⟨c,v,r,n,g,b⟩ | ⟨c,x,r,g,b⟩ | ⟨g,b⟩ | ⟨g,b⟩
   ·cases r
   ·cases hg.symm.trans g
   ·cases r
   ·cases r; exact ih b
   ·cases hg.symm.trans g
   ·cases hg.symm.trans g
 | resumeRunning hg _ ih=>
   intro e2 s2 h
   rcases inv h with⟨c,z,t1,r,g,a,b⟩ | ⟨_,_,_,_,_,_,z,t1,g,a,b⟩ | ⟨c,v,r,n,g,b⟩ | ⟨c,x,r,g,b⟩ | ⟨g,b⟩ | ⟨g,b⟩
   ·cases hg.symm.trans g
   ·cases hg.symm.trans g
   ·cases hg.symm.trans g
   ·cases hg.symm.trans g
   ·exact ih b
   ·cases hg.symm.trans g
 | resumeFinished hg _ ih=>
   intro e2 s2 h
   rcases inv h with⟨c,z,t1,r,g,a,b⟩ | ⟨_,_,_,_,_,_,z,t1,g,a,b⟩ | ⟨c,v,r,n,g,b⟩ | ⟨c,x,r,g,b⟩ | ⟨g,b⟩ | ⟨g,b⟩
   ·cases hg.symm.trans g
   ·cases hg.symm.trans g
   ·cases hg.symm.trans g
   ·cases hg.symm.trans g
   ·cases hg.symm.trans g
   ·exact ih b
 | segRet _ _ ih1 ih2=>
   intro e2 s2 h
   rcases inv h with⟨r,t1,a,b⟩ | ⟨v,g0,l0,k0,c0,p0,f0,t1,a,_⟩
   ·obtain⟨e,e'⟩:=ih1 a; cases e; cases e'; exact ih2 b
   ·cases (ih1 a).1
 | segGen _ _ ih1 ih2=>
   intro e2 s2 h
   rcases inv h with⟨r,t1,a,b⟩ | ⟨v,g0,l0,k0,c0,p0,f0,t1,a,_⟩
   ·obtain⟨e,e'⟩:=ih1 a; cases e; cases e'; exact ih2 b
   ·cases (ih1 a).1
 | segSuspOut hn _ ih1=>
   intro e2 s2 h
   rcases inv h with⟨r,t1,a,b⟩ | ⟨v,g0,l0,k0,c0,p0,f0,t1,a,⟨n,z,z'⟩ | ⟨_,_,_,_,_,_,n,b⟩⟩
   ·cases (ih1 a).1
   ·obtain⟨e,e'⟩:=ih1 a; cases e; cases e'; exact⟨z.symm,z'.symm⟩
   ·cases hn.symm.trans n
 | segSuspGen hn _ _ _ ih1 ih2=>
   intro e2 s2 h
   rcases inv h with⟨r,t1,a,b⟩ | ⟨v,g0,l0,k0,c0,p0,f0,t1,a,⟨n,z,z'⟩ | ⟨_,_,_,_,_,_,n,b⟩⟩
   ·cases (ih1 a).1
   ·cases hn.symm.trans n
   ·obtain⟨e,e'⟩:=ih1 a; cases e; cases e'; cases hn.symm.trans n; exact ih2 b
theorem wakes_det{M:Model}{Γ:Ctx}{p:Pos}{g:Nat}{r:Resume}{s s1 s2:Shared}{r1 r2:GenResult}(h1:Wakes M Γ p g r s r1 s1)(h2:Wakes M Γ p g r s r2 s2):r1=r2/\s1=s2:=by
 unfold Wakes at h1 h2
 split at h1
 ·exact h1.elim
 ·rename_i e
  rw [e] at h2
  dsimp only at h2
  split at h1
  ·obtain⟨e1,t1,a,_,rfl,rfl⟩:=h1
   obtain⟨e2,t2,b,_,rfl,rfl⟩:=h2
   obtain⟨rfl,rfl⟩:=runs_det a b
   exact⟨rfl,rfl⟩
  ·rename_i v hv
   split at h2
   ·rename_i hv'; cases hv'; exact absurd rfl hv
   ·rw [h1.1,h1.2,h2.1,h2.2]; exact⟨rfl,rfl⟩
   ·rename_i hv'; cases hv'
  ·rw [h1.1,h1.2,h2.1,h2.2]; exact⟨rfl,rfl⟩
 ·rename_i e
  rw [e] at h2
  dsimp only at h2
  obtain⟨e1,t1,a,_,rfl,rfl⟩:=h1
  obtain⟨e2,t2,b,_,rfl,rfl⟩:=h2
  obtain⟨rfl,rfl⟩:=runs_det a b
  exact⟨rfl,rfl⟩
 ·rename_i e
  rw [e] at h2
  rw [h1.1,h1.2,h2.1,h2.2]; exact⟨rfl,rfl⟩
 ·rename_i e
  rw [e] at h2
  rw [h1.1,h1.2,h2.1,h2.2]; exact⟨rfl,rfl⟩
theorem wp_one{α:Type}{M:Model}{Γ:Ctx}(t:Sem α):∀{Q Q':α->Pos->Shared->Prop}{E E':Value->Pos->Shared->Prop}{p:Pos}{s:Shared}{P:Prop},
  wp M Γ t Q E p s->wp M Γ t Q' E' p s->(∀a p' s',Q a p' s'->Q' a p' s'->P)->(∀a p' s',E a p' s'->E' a p' s'->P)->P:=by
 induction t with
 | pure a=>intro Q Q' E E' p s P h h' q e; exact q _ _ _ h h'
 | raise x=>intro Q Q' E E' p s P h h' q e; exact e _ _ _ h h'
 | unsupported x=>intro Q Q' E E' p s P h h' q e; exact h.elim
 | finish x=>intro Q Q' E E' p s P h h' q e; exact h.elim
 | rule x k ih=>intro Q Q' E E' p s P h h' q e; exact ih _ h h' q e
 | «at» x k ih=>intro Q Q' E E' p s P h h' q e; exact ih _ h h' q e
 | load a x k ih=>
   intro Q Q' E E' p s P h h' q e
   obtain⟨o,g,h⟩:=h
   obtain⟨o',g',h'⟩:=h'
   rw [g] at g'; cases g'
   exact ih _ h h' q e
 | update a x f k ih=>intro Q Q' E E' p s P h h' q e; exact ih _ h.2 h'.2 q e
 | loadIfAlive a k ih=>intro Q Q' E E' p s P h h' q e; exact ih _ h h' q e
 | point l k ih=>intro Q Q' E E' p s P h h' q e; exact ih _ h h' q e
 | register a k ih=>intro Q Q' E E' p s P h h' q e; exact h.elim
 | alloc o k ih=>intro Q Q' E E' p s P h h' q e; exact ih _ h h' q e
 | fresh k ih=>intro Q Q' E E' p s P h h' q e; exact ih _ h h' q e
 | ask k ih=>intro Q Q' E E' p s P h h' q e; exact ih _ h h' q e
 | choose a n k ih=>intro Q Q' E E' p s P h h' q e; exact ih _ h.2 h'.2 q e
 | os a l k ih=>intro Q Q' E E' p s P h h' q e; exact ih _ h h' q e
 | call c hd g l k ih=>
   intro Q Q' E E' p s P h h' q e
   obtain⟨r,s1,a,h⟩:=h
   obtain⟨r',s1',a',h'⟩:=h'
   obtain⟨er,es⟩:=runs_det a a'
   cases er; cases es
   exact ih _ h h' q e
 | handled o k ih=>intro Q Q' E E' p s P h h' q e; exact ih _ h h' q e
 | genState g k ih=>
   intro Q Q' E E' p s P h h' q e
   obtain⟨o,g,h⟩:=h
   obtain⟨o',g',h'⟩:=h'
   rw [g] at g'; cases g'
   exact ih _ h h' q e
 | newGen c k ih=>intro Q Q' E E' p s P h h' q e; exact ih _ h h' q e
 | resume g r l k ih=>
   intro Q Q' E E' p s P h h' q e
   obtain⟨r1,s1,a,h⟩:=h
   obtain⟨r2,s2,a',h'⟩:=h'
   obtain⟨rfl,rfl⟩:=wakes_det a a'
   exact ih _ h h' q e
 | yield=>intro Q Q' E E' p s P h h' q e; exact h.elim
 | stack k ih=>intro Q Q' E E' p s P h h' q e; exact ih _ h h' q e
 | fork=>intro Q Q' E E' p s P h h' q e; exact h.elim
 | thread k ih=>intro Q Q' E E' p s P h h' q e; exact ih _ h h' q e
 | await=>intro Q Q' E E' p s P h h' q e; exact h.elim
end Pw
end
section
namespace Pw
open PySem PyProof.Rows
open PySem.Sem (wp wp_bind' wp_pure' wp_mono wp_attempt)
section
variable{M:Model}{Γ:Ctx}{s:Shared}
def Imp(M:Model)(Γ:Ctx)(s:Shared){α β:Type}(t:Sem α)(u:Sem β)(R:α->β->Prop):Prop:=
 ∀(p q:Pos)(Qu:β->Shared->Prop),wp M Γ u (fun b _ s'=>Qu b s') (fun _ _ _=>False) q s->wp M Γ t (fun a _ s'=>s'=s/\∃b,R a b/\Qu b s) (fun _ _ _=>False) p s
theorem Imp.pure{α β:Type}{R:α->β->Prop}{a:α}{b:β}(h:R a b):Imp M Γ s (Pure.pure a) (Pure.pure b) R:=by
 intro p q Qu hu
 rw [wp_pure'] at hu ⊢
 exact⟨rfl,b,h,hu⟩
theorem Imp.bind{α β γ δ:Type}{R:α->β->Prop}{R':γ->δ->Prop}{t:Sem α}{u:Sem β}{k:α->Sem γ}{k':β->Sem δ}(h:Imp M Γ s t u R)(hk:∀a b,R a b->Imp M Γ s (k a) (k' b) R') :
  Imp M Γ s (t >>= k) (u >>= k') R':=by
 intro p q Qu hu
 rw [wp_bind'] at hu ⊢
 have h1:=h p q (fun b s'=>∃q',wp M Γ (k' b) (fun b _ s'=>Qu b s') (fun _ _ _=>False) q' s') (wp_mono M Γ u (fun b q' s' g=>⟨q',g⟩) (fun _ _ _ g=>g) q s hu)
 refine wp_mono M Γ t (fun a p' s' g=>?_) (fun _ _ _ g=>g) p s h1
 obtain⟨rfl,b,hr,q',g⟩:=g
 exact hk a b hr p' q' Qu g
theorem Imp.none{α β:Type}{R:α->β->Prop}{t:Sem α}{x:String}:Imp M Γ s t (Sem.unsupported x:Sem β) R:=fun p q Qu hu=>hu.elim
theorem Imp.mono{α β:Type}{R R':α->β->Prop}{t:Sem α}{u:Sem β}(h:Imp M Γ s t u R)(hr:∀a b,R a b->R' a b):Imp M Γ s t u R':=by
 intro p q Qu hu
 refine wp_mono M Γ t (fun a p' s' g=>?_) (fun _ _ _ g=>g) p s (h p q Qu hu)
 obtain⟨e,b,r,g⟩:=g
 exact⟨e,b,hr _ _ r,g⟩
theorem Imp.rule{α β:Type}{R:α->β->Prop}{x y:String}{k:Unit->Sem α}{k':Unit->Sem β}(h:Imp M Γ s (k ()) (k' ()) R):Imp M Γ s (.rule x k) (.rule y k') R:=fun p q Qu hu=>h p q Qu hu
theorem Imp.known{α β:Type}{R:α->β->Prop}{t:Sem α}{u:Sem β}{a:α}{b:β}(ht:∀p,wp M Γ t (fun x _ s'=>x=a/\s'=s) (fun _ _ _=>False) p s)
  (hu:∀p,wp M Γ u (fun x _ s'=>x=b/\s'=s) (fun _ _ _=>False) p s) (h:R a b):Imp M Γ s t u R:=by
 intro p q Qu hq
 refine wp_one u hq (hu q) (fun x p' s' g g'=>?_) (fun _ _ _ g _=>g.elim)
 obtain⟨rfl,rfl⟩:=g'
 refine wp_mono M Γ t (fun a' p' s' g'=>?_) (fun _ _ _ g=>g) p s' (ht p)
 obtain⟨rfl,rfl⟩:=g'
 exact⟨rfl,x,h,g⟩
end
abbrev SM:=StateT SortSt Sem
section
variable{ι:Type}(f f':ι->Keyed)
def RK(x y:Keyed):Prop:=∃i,x=f i/\y=f' i
def RA(a b:Array Keyed):Prop:=∃p:Array ι,a=p.map f/\b=p.map f'
def RS(st st':SortSt):Prop:=∃(p:Array ι)(pe:Array (Nat × Nat × Nat))(g:Nat),st=SortSt.mk' oneType' (p.map f) pe g none/\st'=SortSt.mk' oneType' (p.map f') pe g none
end
structure Two(M:Model)(Γ:Ctx)(s:Shared){ι:Type}(f f':ι->Keyed)(lt:ι->ι->Bool):Prop where
 l:∀x y p,wp M Γ (keyLt' oneType' (f x).1 (f y).1) (fun b _ s'=>b=lt x y/\s'=s) (fun _ _ _=>False) p s
 r:∀x y p,wp M Γ (keyLt' oneType' (f' x).1 (f' y).1) (fun b _ s'=>b=lt x y/\s'=s) (fun _ _ _=>False) p s
section
variable{M:Model}{Γ:Ctx}{s:Shared}{ι:Type}{f f':ι->Keyed}{le:ι->ι->Bool}
def SI(M:Model)(Γ:Ctx)(s:Shared){ι:Type}(f f':ι->Keyed){α β:Type}(R:α->β->Prop)(m:SM α)(m':SM β):Prop:=
 ∀st st',RS f f' st st'->Imp M Γ s (m.run st) (m'.run st') (fun x y=>R x.1 y.1/\RS f f' x.2 y.2)
theorem SI.pure{α β:Type}{R:α->β->Prop}{a:α}{b:β}(h:R a b):SI M Γ s f f' R (Pure.pure a) (Pure.pure b):=fun st st' hs=>by
 rw [StateT.run_pure,StateT.run_pure]; exact Imp.pure ⟨h,hs⟩
theorem SI.bind{α β γ δ:Type}{R:α->β->Prop}{R':γ->δ->Prop}{t:SM α}{u:SM β}{k:α->SM γ}{k':β->SM δ}(h:SI M Γ s f f' R t u)(hk:∀a b,R a b->SI M Γ s f f' R' (k a) (k' b)) :
  SI M Γ s f f' R' (t >>= k) (u >>= k'):=fun st st' hs=>by
 rw [StateT.run_bind,StateT.run_bind]
 exact Imp.bind (h st st' hs) fun a b g=>hk a.1 b.1 g.1 a.2 b.2 g.2
theorem SI.mono{α β:Type}{R R':α->β->Prop}{t:SM α}{u:SM β}(h:SI M Γ s f f' R t u)(hr:∀a b,R a b->R' a b):SI M Γ s f f' R' t u:=fun st st' hs=>(h st st' hs).mono fun a b g=>⟨hr _ _ g.1,g.2⟩
theorem SI.get:SI M Γ s f f' (RS f f') get get:=fun st st' hs=>by
 rw [StateT.run_get,StateT.run_get]; exact Imp.pure ⟨hs,hs⟩
theorem SI.set{st st':SortSt}(h:RS f f' st st'):SI M Γ s f f' (fun _ _=>True) (set st:SM PUnit) (set st':SM PUnit):=fun _ _ _=>by
 rw [StateT.run_set,StateT.run_set]; exact Imp.pure ⟨trivial,h⟩
theorem SI.modify{g g':SortSt->SortSt}(h:∀st st',RS f f' st st'->RS f f' (g st) (g' st')):SI M Γ s f f' (fun _ _=>True) (modify g:SM PUnit) (modify g':SM PUnit):=fun st st' hs=>by
 rw [StateT.run_modify,StateT.run_modify]; exact Imp.pure ⟨trivial,h _ _ hs⟩
theorem SI.lift{α β:Type}{R:α->β->Prop}{t:Sem α}{u:Sem β}(h:Imp M Γ s t u R):SI M Γ s f f' R (liftM t:SM α) (liftM u:SM β):=fun st st' hs=>by
 show Imp M Γ s ((StateT.lift t:SM α).run st) ((StateT.lift u:SM β).run st') _
 rw [StateT.run_lift,StateT.run_lift]
 exact Imp.bind h fun a b g=>Imp.pure ⟨g,hs⟩
theorem SI.rule{x:String}:SI M Γ s f f' (fun _ _=>True) (rule x:SM Unit) (rule x:SM Unit):=SI.lift (Imp.rule (Imp.pure trivial))
theorem SI.unsup{α β:Type}{R:α->β->Prop}{t:SM α}{x:String}:SI M Γ s f f' R t (unsupported x:SM β):=fun st st' hs=>by
 show Imp M Γ s (t.run st) ((StateT.lift (Sem.unsupported x):SM β).run st') _
 rw [StateT.run_lift]
 exact fun p q Qu hu=>by rw [wp_bind'] at hu; exact hu.elim
theorem SI.ite{α β:Type}{R:α->β->Prop}{c:Prop}[Decidable c]{t e:SM α}{t' e':SM β}(h1:SI M Γ s f f' R t t')(h2:SI M Γ s f f' R e e'):SI M Γ s f f' R (if c then t else e) (if c then t' else e'):=by
 split
 ·exact h1
 ·exact h2
def dO{β β':Type}(RB:β->β'->Prop):ForInStep β->ForInStep β'->Prop
 | .done a,.done b=>RB a b
 | .yield a,.yield b=>RB a b
 | _,_=>False
theorem SI.forL{β β':Type}(RB:β->β'->Prop){F:Nat->β->SM (ForInStep β)}{F':Nat->β'->SM (ForInStep β')}(h:∀i c c',RB c c'->SI M Γ s f f' (dO RB) (F i c) (F' i c')) :
  ∀(l:List Nat)(b:β)(b':β'),RB b b'->SI M Γ s f f' RB (forIn l b F) (forIn l b' F')
 | [],b,b',h0=>by rw [List.forIn_nil,List.forIn_nil]; exact SI.pure h0
 | x::l,b,b',h0=>by
   rw [List.forIn_cons,List.forIn_cons]
   refine SI.bind (h x b b' h0) fun a a' g=>?_
   cases a with
   | done a=>cases a' with
     | done a'=>exact SI.pure g
     | yield a'=>exact g.elim
   | yield a=>cases a' with
     | done a'=>exact g.elim
     | yield a'=>exact SI.forL RB h l a a' g
theorem SI.for{β β':Type}{a n:Nat}(RB:β->β'->Prop){F:Nat->β->SM (ForInStep β)}{F':Nat->β'->SM (ForInStep β')}{b:β}{b':β'}(h0:RB b b')(h:∀i c c',RB c c'->SI M Γ s f f' (dO RB) (F i c) (F' i c')) :
  SI M Γ s f f' RB (forIn [a:n] b F) (forIn [a:n] b' F'):=by
 rw [Std.Legacy.Range.forIn_eq_forIn_range',Std.Legacy.Range.forIn_eq_forIn_range']
 exact SI.forL RB h _ b b' h0
theorem SI.elem{a b:Array Keyed}{i:Nat}(h:RA f f' a b):SI M Γ s f f' (RK f f') (elem' a i) (elem' b i):=by
 obtain⟨p,rfl,rfl⟩:=h
 rw [elem'_eq,elem'_eq,Array.getElem?_map,Array.getElem?_map]
 cases p[i]? with
 | none=>exact SI.unsup
 | some x=>exact SI.pure ⟨x,rfl,rfl⟩
theorem SI.ltK(W:Two M Γ s f f' le){x y x' y':Keyed}(hx:RK f f' x x')(hy:RK f f' y y'):SI M Γ s f f' (fun a b=>a=b) (lt' x y) (lt' x' y'):=by
 obtain⟨i,rfl,rfl⟩:=hx
 obtain⟨j,rfl,rfl⟩:=hy
 rw [lt'_eq,lt'_eq]
 refine SI.bind SI.get fun st st' hs=>?_
 obtain⟨p,pe,g,rfl,rfl⟩:=hs
 refine SI.bind (R:=fun a b=>a=.ok (le i j)/\b=.ok (le i j)) (SI.lift (Imp.known (a:=.ok (le i j)) (b:=.ok (le i j)) (fun p=>?_) (fun p=>?_) ⟨rfl,rfl⟩)) fun a b g=>?_
 ·rw [wp_attempt]
  exact wp_mono M Γ _ (fun a p' s' g=>by rw [g.1]; exact⟨rfl,g.2⟩) (fun _ _ _ g=>g.elim) p s (W.l i j p)
 ·rw [wp_attempt]
  exact wp_mono M Γ _ (fun a p' s' g=>by rw [g.1]; exact⟨rfl,g.2⟩) (fun _ _ _ g=>g.elim) p s (W.r i j p)
 ·obtain⟨rfl,rfl⟩:=g
  exact SI.pure rfl
theorem RS.arr{st st':SortSt}(h:RS f f' st st'):RA f f' (arrOf st) (arrOf st'):=by
 obtain⟨p,pe,g,rfl,rfl⟩:=h; exact⟨p,rfl,rfl⟩
theorem SI.ltAt(W:Two M Γ s f f' le){i j:Nat}:SI M Γ s f f' (fun a b=>a=b) (ltAt' i j) (ltAt' i j):=by
 rw [ltAt'_eq]
 refine SI.bind SI.get fun st st' hs=>?_
 refine SI.bind (SI.elem hs.arr) fun x x' hx=>SI.bind (SI.elem hs.arr) fun y y' hy=>SI.ltK W hx hy
theorem SI.beyond(W:Two M Γ s f f' le){left:Bool}{key key':Keyed}{arr arr':Array Keyed}{base i:Nat}(hk:RK f f' key key')(ha:RA f f' arr arr'):SI M Γ s f f' (fun a b=>a=b) (beyond' left key arr base i) (beyond' left key' arr' base i):=by
 unfold beyond'
 refine SI.bind (SI.elem ha) fun x x' hx=>SI.ite (SI.ltK W hx hk) (SI.bind (SI.ltK W hk hx) fun a b g=>SI.pure (by rw [g]))
theorem SI.gallop(W:Two M Γ s f f' le){left:Bool}{key key':Keyed}{arr arr':Array Keyed}{base n hint:Nat}(hk:RK f f' key key')(ha:RA f f' arr arr'):SI M Γ s f f' (fun a b=>a=b) (gallop' left key arr base n hint) (gallop' left key' arr' base n hint):=by
 have B:∀i,SI M Γ s f f' (fun a b=>a=b) (beyond' left key arr base i) (beyond' left key' arr' base i):=fun i=>SI.beyond W hk ha
 rw [gallop'_eq,gallop'_eq]
 refine SI.bind (B _) fun r r' g=>?_
 subst g
 cases r with
 | none=>exact SI.pure rfl
 | some r=>
   dsimp only
   have S:∀(c:Option (Option Nat) × Nat × Nat),SI M Γ s f f' (fun a b=>a=b) (searchG left key arr base n c.2.1 c.2.2) (searchG left key' arr' base n c.2.1 c.2.2):=fun c=>by
    unfold searchG
    refine SI.bind (SI.for (fun a b=>a=b) rfl fun i c c' g=>?_) fun c c' g=>?_
    ·subst g
     dsimp only
     refine SI.ite (SI.pure rfl) (SI.bind (B _) fun x x' g=>?_)
     subst g
     cases x with
     | none=>exact SI.pure rfl
     | some m=>exact SI.ite (SI.pure rfl) (SI.pure rfl)
    ·subst g
     obtain⟨c1,c2⟩:=c
     cases c1 with
     | none=>exact SI.pure rfl
     | some m=>exact SI.pure rfl
   refine SI.ite (SI.bind (SI.for (fun a b=>a=b) rfl fun i c c' g=>?_) fun c c' g=>?_) (SI.bind (SI.for (fun a b=>a=b) rfl fun i c c' g=>?_) fun c c' g=>?_)
   ·subst g
    refine SI.ite (SI.pure rfl) (SI.bind (B _) fun x x' g=>?_)
    subst g
    cases x with
    | none=>exact SI.pure rfl
    | some m=>exact SI.ite (SI.pure rfl) (SI.pure rfl)
   ·subst g
    obtain⟨c1,c2⟩:=c
    cases c1 with
    | none=>exact S (none,_,_)
    | some m=>exact SI.pure rfl
   ·subst g
    refine SI.ite (SI.pure rfl) (SI.bind (B _) fun x x' g=>?_)
    subst g
    cases x with
    | none=>exact SI.pure rfl
    | some m=>exact SI.ite (SI.pure rfl) (SI.pure rfl)
   ·subst g
    obtain⟨c1,c2⟩:=c
    cases c1 with
    | none=>exact S (none,_,_)
    | some m=>exact SI.pure rfl
end
end Pw
end
section
set_option maxHeartbeats 4000000
namespace Pw
open PySem PyProof.Rows
open PySem.Sem (wp wp_bind' wp_pure' wp_mono wp_attempt)
section
variable{M:Model}{Γ:Ctx}{s:Shared}{ι:Type}{f f':ι->Keyed}{le:ι->ι->Bool}
theorem RA.size{a b:Array Keyed}(h:RA f f' a b):b.size=a.size:=by obtain⟨p,rfl,rfl⟩:=h; simp
theorem RA.push{a b:Array Keyed}{x y:Keyed}(h:RA f f' a b)(hx:RK f f' x y):RA f f' (a.push x) (b.push y):=by
 obtain⟨p,rfl,rfl⟩:=h; obtain⟨i,rfl,rfl⟩:=hx; exact⟨p.push i,by simp,by simp⟩
theorem RA.one{x y:Keyed}(hx:RK f f' x y):RA f f' #[x] #[y]:=by
 obtain⟨i,rfl,rfl⟩:=hx; exact⟨#[i],by simp,by simp⟩
theorem RA.append{a b c d:Array Keyed}(h:RA f f' a b)(h':RA f f' c d):RA f f' (a++c) (b++d):=by
 obtain⟨p,rfl,rfl⟩:=h; obtain⟨q,rfl,rfl⟩:=h'; exact⟨p++q,by simp,by simp⟩
theorem RA.extract{a b:Array Keyed}{i j:Nat}(h:RA f f' a b):RA f f' (a.extract i j) (b.extract i j):=by
 obtain⟨p,rfl,rfl⟩:=h; exact⟨p.extract i j,by simp,by simp⟩
theorem RA.reverse{a b:Array Keyed}(h:RA f f' a b):RA f f' a.reverse b.reverse:=by
 obtain⟨p,rfl,rfl⟩:=h; exact⟨p.reverse,by simp,by simp⟩
theorem SI.setMin{g:Nat}:SI M Γ s f f' (fun _ _=>True) (setMinGallop' g) (setMinGallop' g):=by
 rw [setMinGallop'_eq]
 refine SI.modify fun st st' h=>?_
 obtain⟨p,pe,g',rfl,rfl⟩:=h
 exact⟨p,pe,g,rfl,rfl⟩
def ROp(f f':ι->Keyed):Option (Array Keyed)->Option (Array Keyed)->Prop
 | some a,some b=>RA f f' a b
 | none,none=>True
 | _,_=>False
def RM(f f':ι->Keyed){τ:Type}(c c':Option (Array Keyed) × Array Keyed × τ):Prop:=ROp f f' c.1 c'.1/\RA f f' c.2.1 c'.2.1/\c.2.2=c'.2.2
theorem RM.doneS{τ:Type}{o o' x x':Array Keyed}{r:τ}(h:RA f f' o o')(h2:RA f f' x x'):dO (RM f f') (.done (some o,x,r)) (.done (some o',x',r)):=⟨h,h2,rfl⟩
theorem RM.doneN{τ:Type}{x x':Array Keyed}{r:τ}(h2:RA f f' x x'):dO (RM f f') (.done (none,x,r)) (.done (none,x',r)):=⟨trivial,h2,rfl⟩
theorem RM.yieldN{τ:Type}{x x':Array Keyed}{r:τ}(h2:RA f f' x x'):dO (RM f f') (.yield (none,x,r)) (.yield (none,x',r)):=⟨trivial,h2,rfl⟩
theorem RM.init{τ:Type}{x x':Array Keyed}{r:τ}(h2:RA f f' x x'):RM f f' (none,x,r) (none,x',r):=⟨trivial,h2,rfl⟩
theorem SI.optE{α β τ:Type}{R:α->β->Prop}{k:Option τ->SM α}{k':Option τ->SM β}(h0:SI M Γ s f f' R (k none) (k' none))(h1:∀x,SI M Γ s f f' R (k (some x)) (k' (some x))):∀a b,a=b->SI M Γ s f f' R (k a) (k' b):=by
 intro a b g
 subst g
 cases a with
 | none=>exact h0
 | some x=>exact h1 x
theorem SI.rmE{α β τ:Type}{R:α->β->Prop}{k:Option (Array Keyed) × Array Keyed × τ->SM α}{k':Option (Array Keyed) × Array Keyed × τ->SM β}
  (h0:∀x x' r,RA f f' x x'->SI M Γ s f f' R (k (none,x,r)) (k' (none,x',r))) (h1:∀o o' x x' r,RA f f' o o'->RA f f' x x'->SI M Γ s f f' R (k (some o,x,r)) (k' (some o',x',r))):∀c c',RM f f' c c'->SI M Γ s f f' R (k c) (k' c'):=by
 rintro⟨o,x,r⟩ ⟨o',x',r'⟩ ⟨g1,g2,g3⟩
 cases g3
 cases o with
 | none=>cases o' with
   | none=>exact h0 x x' r g2
   | some o'=>exact g1.elim
 | some o=>cases o' with
   | none=>exact g1.elim
   | some o'=>exact h1 o o' x x' r g1 g2
theorem SI.rmB{α β τ:Type}{R:α->β->Prop}{k:Option (Array Keyed) × Array Keyed × τ->SM α}{k':Option (Array Keyed) × Array Keyed × τ->SM β}
  (h0:∀o o' x x' r,RA f f' x x'->SI M Γ s f f' R (k (o,x,r)) (k' (o',x',r))):∀c c',RM f f' c c'->SI M Γ s f f' R (k c) (k' c'):=by
 rintro⟨o,x,r⟩ ⟨o',x',r'⟩ ⟨g1,g2,g3⟩
 cases g3
 exact h0 o o' x x' r g2
theorem SI.mergeLo(W:Two M Γ s f f' le){a b a' b':Array Keyed}(ha:RA f f' a a')(hb:RA f f' b b'):SI M Γ s f f' (RA f f') (mergeLo' a b) (mergeLo' a' b'):=by
 have sa:=ha.size
 have sb:=hb.size
 rw [mergeLo'_eq,mergeLo'_eq,sa,sb]
 refine SI.bind SI.rule fun _ _ _=>?_
 refine SI.bind (SI.elem hb) fun x x' hx=>?_
 have dn:∀{o o':Array Keyed}{i j k l:Nat},RA f f' o o'->RA f f' (o++a.extract i j++b.extract k l) (o'++a'.extract i j++b'.extract k l):=fun h=>(h.append ha.extract).append hb.extract
 have la:∀{o o':Array Keyed}{i j k l:Nat},RA f f' o o'->RA f f' (o++b.extract i j++a.extract k l) (o'++b'.extract i j++a'.extract k l):=fun h=>(h.append hb.extract).append ha.extract
 refine SI.ite (SI.pure (dn (RA.one hx))) (SI.ite (SI.pure (la (RA.one hx))) (SI.bind SI.get fun st st' hs=>?_))
 obtain⟨p,pe,g,rfl,rfl⟩:=hs
 dsimp only
 refine SI.bind (SI.for (RM f f') ⟨trivial,RA.one hx,rfl⟩ fun i=>SI.rmB fun _ _ _ _ _ _=>?_) (SI.rmE (fun _ _ _ _=>?_) (fun _ _ _ _ _ _ _=>?_))
 all_goals dsimp only
 repeat' first
  | with_reducible assumption
  | with_reducible exact SI.unsup
  | with_reducible refine SI.pure ?_
  | with_reducible refine RM.doneS ?_ ?_
  | with_reducible refine RM.doneN ?_
  | with_reducible refine RM.yieldN ?_
  | with_reducible refine RA.append ?_ ?_
  | with_reducible refine RA.push ?_ ?_
  | with_reducible refine RA.extract ?_
  | with_reducible refine RA.reverse ?_
  | with_reducible refine RA.one ?_
  | with_reducible refine SI.ite ?_ ?_
  | with_reducible refine SI.bind (SI.elem ha) fun _ _ _=>?_
  | with_reducible refine SI.bind (SI.elem hb) fun _ _ _=>?_
  | with_reducible refine SI.bind SI.rule fun _ _ _=>?_
  | with_reducible refine SI.bind SI.setMin fun _ _ _=>?_
  | with_reducible refine SI.bind (SI.ltK W ?_ ?_) (SI.optE ?_ fun _=>?_)
  | with_reducible refine SI.bind (SI.gallop W ?_ ?_) (SI.optE ?_ fun _=>?_)
  | with_reducible refine SI.bind (SI.for (RM f f') (RM.init ?_) fun i=>SI.rmB fun _ _ _ _ _ _=>?_) (SI.rmE (fun _ _ _ _=>?_) (fun _ _ _ _ _ _ _=>?_))
  | dsimp only
def RM2(f f':ι->Keyed){τ:Type}(c c':Option (Array Keyed) × Nat × Nat × Array Keyed × τ):Prop:=ROp f f' c.1 c'.1/\c.2.1=c'.2.1/\c.2.2.1=c'.2.2.1/\RA f f' c.2.2.2.1 c'.2.2.2.1/\c.2.2.2.2=c'.2.2.2.2
theorem RM2.doneS{τ:Type}{o o' x x':Array Keyed}{m n:Nat}{r:τ}(h:RA f f' o o')(h2:RA f f' x x'):dO (RM2 f f') (.done (some o,m,n,x,r)) (.done (some o',m,n,x',r)):=⟨h,rfl,rfl,h2,rfl⟩
theorem RM2.doneN{τ:Type}{x x':Array Keyed}{m n:Nat}{r:τ}(h2:RA f f' x x'):dO (RM2 f f') (.done (none,m,n,x,r)) (.done (none,m,n,x',r)):=⟨trivial,rfl,rfl,h2,rfl⟩
theorem RM2.yieldN{τ:Type}{x x':Array Keyed}{m n:Nat}{r:τ}(h2:RA f f' x x'):dO (RM2 f f') (.yield (none,m,n,x,r)) (.yield (none,m,n,x',r)):=⟨trivial,rfl,rfl,h2,rfl⟩
theorem RM2.init{τ:Type}{x x':Array Keyed}{m n:Nat}{r:τ}(h2:RA f f' x x'):RM2 f f' (none,m,n,x,r) (none,m,n,x',r):=⟨trivial,rfl,rfl,h2,rfl⟩
theorem SI.rm2E{α β τ:Type}{R:α->β->Prop}{k:Option (Array Keyed) × Nat × Nat × Array Keyed × τ->SM α}{k':Option (Array Keyed) × Nat × Nat × Array Keyed × τ->SM β}
  (h0:∀x x' m n r,RA f f' x x'->SI M Γ s f f' R (k (none,m,n,x,r)) (k' (none,m,n,x',r))) (h1:∀o o' x x' m n r,RA f f' o o'->RA f f' x x'->SI M Γ s f f' R (k (some o,m,n,x,r)) (k' (some o',m,n,x',r))):∀c c',RM2 f f' c c'->SI M Γ s f f' R (k c) (k' c'):=by
 rintro⟨o,m,n,x,r⟩ ⟨o',m',n',x',r'⟩ ⟨g1,g2,g3,g4,g5⟩
 cases g2
 cases g3
 cases g5
 cases o with
 | none=>cases o' with
   | none=>exact h0 x x' m n r g4
   | some o'=>exact g1.elim
 | some o=>cases o' with
   | none=>exact g1.elim
   | some o'=>exact h1 o o' x x' m n r g1 g4
theorem SI.rm2B{α β τ:Type}{R:α->β->Prop}{k:Option (Array Keyed) × Nat × Nat × Array Keyed × τ->SM α}{k':Option (Array Keyed) × Nat × Nat × Array Keyed × τ->SM β}
  (h0:∀o o' x x' m n r,RA f f' x x'->SI M Γ s f f' R (k (o,m,n,x,r)) (k' (o',m,n,x',r))):∀c c',RM2 f f' c c'->SI M Γ s f f' R (k c) (k' c'):=by
 rintro⟨o,m,n,x,r⟩ ⟨o',m',n',x',r'⟩ ⟨g1,g2,g3,g4,g5⟩
 cases g2
 cases g3
 cases g5
 exact h0 o o' x x' m n r g4
theorem SI.mergeHi(W:Two M Γ s f f' le){a b a' b':Array Keyed}(ha:RA f f' a a')(hb:RA f f' b b'):SI M Γ s f f' (RA f f') (mergeHi' a b) (mergeHi' a' b'):=by
 have sa:=ha.size
 have sb:=hb.size
 rw [mergeHi'_eq,mergeHi'_eq,sa,sb]
 refine SI.bind SI.rule fun _ _ _=>?_
 refine SI.bind (SI.elem ha) fun x x' hx=>?_
 have h1:=RA.one hx
 have dn:∀{o o':Array Keyed}{i j k l:Nat},RA f f' o o'->RA f f' (a.extract i j++b.extract k l++o.reverse) (a'.extract i j++b'.extract k l++o'.reverse):=fun h=>(ha.extract.append hb.extract).append h.reverse
 have fb:∀{o o':Array Keyed}{i j k l:Nat},RA f f' o o'->RA f f' (b.extract i j++a.extract k l++o.reverse) (b'.extract i j++a'.extract k l++o'.reverse):=fun h=>(hb.extract.append ha.extract).append h.reverse
 refine SI.ite (SI.pure (dn h1)) (SI.ite (SI.pure (fb h1)) (SI.bind SI.get fun st st' hs=>?_))
 obtain⟨p,pe,g,rfl,rfl⟩:=hs
 dsimp only
 refine SI.bind (SI.for (RM2 f f') ⟨trivial,rfl,rfl,RA.one hx,rfl⟩ fun i=>SI.rm2B fun _ _ _ _ _ _ _ _=>?_) (SI.rm2E (fun _ _ _ _ _ _=>?_) (fun _ _ _ _ _ _ _ _ _=>?_))
 all_goals dsimp only
 repeat' first
  | with_reducible assumption
  | with_reducible exact SI.unsup
  | with_reducible refine SI.pure ?_
  | with_reducible refine RM2.doneS ?_ ?_
  | with_reducible refine RM2.doneN ?_
  | with_reducible refine RM2.yieldN ?_
  | with_reducible refine RA.append ?_ ?_
  | with_reducible refine RA.push ?_ ?_
  | with_reducible refine RA.extract ?_
  | with_reducible refine RA.reverse ?_
  | with_reducible refine RA.one ?_
  | with_reducible refine SI.ite ?_ ?_
  | with_reducible refine SI.bind (SI.elem ha) fun _ _ _=>?_
  | with_reducible refine SI.bind (SI.elem hb) fun _ _ _=>?_
  | with_reducible refine SI.bind SI.rule fun _ _ _=>?_
  | with_reducible refine SI.bind SI.setMin fun _ _ _=>?_
  | with_reducible refine SI.bind (SI.ltK W ?_ ?_) (SI.optE ?_ fun _=>?_)
  | with_reducible refine SI.bind (SI.gallop W ?_ ?_) (SI.optE ?_ fun _=>?_)
  | with_reducible refine SI.bind (SI.for (RM2 f f') (RM2.init ?_) fun i=>SI.rm2B fun _ _ _ _ _ _ _ _=>?_) (SI.rm2E (fun _ _ _ _ _ _=>?_) (fun _ _ _ _ _ _ _ _ _=>?_))
  | dsimp only
end
end Pw
end
section
set_option maxHeartbeats 4000000
namespace Pw
open PySem PyProof.Rows
open PySem.Sem (wp wp_bind' wp_pure' wp_mono wp_attempt)
section
variable{M:Model}{Γ:Ctx}{s:Shared}{ι:Type}{f f':ι->Keyed}{le:ι->ι->Bool}
theorem SI.eqB{α β γ:Type}{R:α->β->Prop}{k:γ->SM α}{k':γ->SM β}(h:∀c,SI M Γ s f f' R (k c) (k' c)):∀a b,a=b->SI M Γ s f f' R (k a) (k' b):=by
 intro a b g; subst g; exact h a
theorem SI.eqE{α β γ τ:Type}{R:α->β->Prop}{k:Option γ × τ->SM α}{k':Option γ × τ->SM β}(h0:∀r,SI M Γ s f f' R (k (none,r)) (k' (none,r)))(h1:∀o r,SI M Γ s f f' R (k (some o,r)) (k' (some o,r))) :
  ∀a b,a=b->SI M Γ s f f' R (k a) (k' b):=by
 rintro⟨o,r⟩ b g; subst g
 cases o with
 | none=>exact h0 r
 | some o=>exact h1 o r
theorem dO.eqD{β:Type}{c:β}:dO (fun a b=>a=b) (.done c) (.done c):=rfl
theorem dO.eqY{β:Type}{c:β}:dO (fun a b=>a=b) (.yield c) (.yield c):=rfl
theorem SI.rev{i j:Nat}:SI M Γ s f f' (fun _ _=>True) (reverseSlice' i j) (reverseSlice' i j):=by
 rw [reverseSlice'_eq]
 refine SI.modify fun st st' h=>?_
 obtain⟨p,pe,g,rfl,rfl⟩:=h
 exact⟨mirror p i j ((j - i)/2),pe,g,congrArg (fun x=>SortSt.mk' oneType' x pe g none) (PySem.W.kas_swaps_map f _ _ _ p),congrArg (fun x=>SortSt.mk' oneType' x pe g none) (PySem.W.kas_swaps_map f' _ _ _ p)⟩
theorem SI.move{i j:Nat}:SI M Γ s f f' (fun _ _=>True) (moveDown' i j) (moveDown' i j):=by
 rw [moveDown'_eq]
 refine SI.modify fun st st' h=>?_
 obtain⟨p,pe,g,rfl,rfl⟩:=h
 exact⟨bubble p i (i - j),pe,g,congrArg (fun x=>SortSt.mk' oneType' x pe g none) (PySem.W.kas_swaps_map f _ _ _ p),congrArg (fun x=>SortSt.mk' oneType' x pe g none) (PySem.W.kas_swaps_map f' _ _ _ p)⟩
theorem SI.countRun(W:Two M Γ s f f' le){lo nrem:Nat}:SI M Γ s f f' (fun a b=>a=b) (countRun' lo nrem) (countRun' lo nrem):=by
 rw [countRun'_eq]
 repeat' first
  | with_reducible rfl
  | with_reducible refine SI.pure ?_
  | with_reducible exact dO.eqD
  | with_reducible exact dO.eqY
  | with_reducible refine SI.ite ?_ ?_
  | with_reducible refine SI.bind SI.rule fun _ _ _=>?_
  | with_reducible refine SI.bind SI.rev fun _ _ _=>?_
  | with_reducible refine SI.bind (SI.ltAt W) (SI.optE ?_ fun _=>?_)
  | with_reducible refine SI.bind (SI.for (fun a b=>a=b) rfl fun i=>SI.eqB fun _=>?_) (SI.eqE (fun _=>?_) (fun _ _=>?_))
  | dsimp only
theorem SI.binarySort(W:Two M Γ s f f' le){lo n ok:Nat}:SI M Γ s f f' (fun a b=>a=b) (binarySort' lo n ok) (binarySort' lo n ok):=by
 rw [binarySort'_eq]
 repeat' first
  | with_reducible rfl
  | with_reducible refine SI.pure ?_
  | with_reducible exact dO.eqD
  | with_reducible exact dO.eqY
  | with_reducible refine SI.ite ?_ ?_
  | with_reducible refine SI.bind SI.move fun _ _ _=>?_
  | with_reducible refine SI.bind (SI.ltAt W) (SI.optE ?_ fun _=>?_)
  | with_reducible refine SI.bind (SI.for (fun a b=>a=b) rfl fun i=>SI.eqB fun _=>?_) (SI.eqE (fun _=>?_) (fun _ _=>?_))
  | dsimp only
theorem RS.pend{st st':SortSt}(h:RS f f' st st'):pendingOf st'=pendingOf st:=by obtain⟨p,pe,g,rfl,rfl⟩:=h; rfl
theorem RS.setPend{st st':SortSt}(h:RS f f' st st')(q:Array (Nat × Nat × Nat)):RS f f' (setPending st q) (setPending st' q):=by obtain⟨p,pe,g,rfl,rfl⟩:=h; exact⟨p,q,g,rfl,rfl⟩
theorem write_map(g:ι->Keyed)(b:Nat):∀(q:List ι)(n:Nat)(xs:Array ι),((q.map g).zipIdx n).foldl (fun(a:Array Keyed)(x:Keyed × Nat)=>a.setIfInBounds (b+x.2) x.1) (xs.map g)=((q.zipIdx n).foldl (fun(a:Array ι)(x:ι × Nat)=>a.setIfInBounds (b+x.2) x.1) xs).map g
 | [],n,xs=>rfl
 | i::q,n,xs=>by
   rw [List.map_cons,List.zipIdx_cons,List.zipIdx_cons,List.foldl_cons,List.foldl_cons,<- write_map g b q (n+1)]
   congr 1
   simp
theorem SI.mergeAt(W:Two M Γ s f f' le){i:Nat}:SI M Γ s f f' (fun a b=>a=b) (mergeAt' i) (mergeAt' i):=by
 rw [mergeAt'_eq]
 refine SI.bind SI.get fun st st' hs=>?_
 have ha:=hs.arr
 rw [hs.pend]
 cases (pendingOf st)[i]? with
 | none=>exact SI.unsup
 | some x=>cases (pendingOf st)[i+1]? with
   | none=>exact SI.unsup
   | some y=>
     obtain⟨sa,na,pw⟩:=x
     obtain⟨sb,nb,pw'⟩:=y
     dsimp only
     refine SI.bind (SI.set (hs.setPend _)) fun _ _ _=>SI.bind (SI.elem ha) fun k k' hk=>SI.bind (SI.gallop W hk ha) (SI.optE (SI.pure rfl) fun k=>?_)
     dsimp only
     refine SI.ite (SI.pure rfl) (SI.bind (SI.elem ha) fun l l' hl=>SI.bind (SI.gallop W hl ha) (SI.optE (SI.pure rfl) fun m=>?_))
     dsimp only
     have T:∀z z',RA f f' z z'->SI M Γ s f f' (fun a b=>a=b)
       (do _root_.modify fun s=>setArr s (List.foldl (fun(a:Array Keyed)(x:Keyed × Nat)=>a.setIfInBounds (sa+k+x.snd) x.fst) (arrOf s) z.toList.zipIdx)
           let d <- MonadState.get
           Pure.pure (failedOf d).isNone)
       (do _root_.modify fun s=>setArr s (List.foldl (fun(a:Array Keyed)(x:Keyed × Nat)=>a.setIfInBounds (sa+k+x.snd) x.fst) (arrOf s) z'.toList.zipIdx)
           let d <- MonadState.get
           Pure.pure (failedOf d).isNone):=fun z z' hz=>by
      refine SI.bind (SI.modify fun t t' ht=>?_) fun _ _ _=>SI.bind SI.get fun t t' ht=>SI.pure ?_
      ·obtain⟨p,pe,g,rfl,rfl⟩:=ht
       obtain⟨q,rfl,rfl⟩:=hz
       refine⟨(q.toList.zipIdx 0).foldl (fun(a:Array ι)(x:ι × Nat)=>a.setIfInBounds (sa+k+x.2) x.1) p,pe,g,congrArg (fun x=>SortSt.mk' oneType' x pe g none) ?_,congrArg (fun x=>SortSt.mk' oneType' x pe g none) ?_⟩
       ·have:=write_map f (sa+k) q.toList 0 p
        rw [<- this,Array.toList_map]
       ·have:=write_map f' (sa+k) q.toList 0 p
        rw [<- this,Array.toList_map]
      ·obtain⟨p,pe,g,rfl,rfl⟩:=ht
       rfl
     exact SI.ite (SI.pure rfl) (SI.ite (SI.bind (SI.mergeLo W ha.extract ha.extract) T) (SI.bind (SI.mergeHi W ha.extract ha.extract) T))
theorem RS.setPend2{st st':SortSt}(h:RS f f' st st'){q q':Array (Nat × Nat × Nat)}(e:q=q'):RS f f' (setPending st q) (setPending st' q'):=by subst e; exact h.setPend q
theorem SI.runs(W:Two M Γ s f f' le):SI M Γ s f f' (fun _ _=>True) sortRuns' sortRuns':=by
 rw [sortRuns'_eq]
 refine SI.bind SI.get fun st st' hs=>?_
 have e:=hs.arr.size
 rw [e]
 refine SI.bind (SI.for (fun a b=>a=b) rfl fun i=>SI.eqB fun c=>?_) (SI.eqE (fun c=>?_) (fun _ _=>SI.pure trivial))
 ·refine SI.ite (SI.pure rfl) (SI.bind (SI.countRun W) (SI.optE (SI.pure rfl) fun n=>?_))
  dsimp only
  refine SI.ite (SI.bind SI.rule fun _ _ _=>SI.bind (SI.binarySort W) (SI.eqB fun b=>SI.ite (SI.pure rfl) ?_)) ?_
  all_goals
   refine SI.bind SI.get fun t t' ht=>?_
   rw [ht.pend]
   cases (pendingOf t).back? with
   | none=>exact SI.bind (SI.modify fun t t' ht=>ht.setPend2 (by rw [ht.pend])) fun _ _ _=>SI.pure rfl
   | some x=>
     obtain⟨s1,n1,z⟩:=x
     dsimp only
     refine SI.bind (SI.for (fun a b=>a=b) rfl fun i=>SI.eqB fun c=>?_) (SI.eqE (fun c=>?_) (fun _ _=>SI.pure rfl))
     ·refine SI.bind SI.get fun t t' ht=>?_
      rw [ht.pend]
      cases (if (pendingOf t).size > 1 then(pendingOf t)[(pendingOf t).size - 2]? else none) with
      | none=>exact SI.pure rfl
      | some y=>exact SI.ite (SI.pure rfl) (SI.bind (SI.mergeAt W) (SI.eqB fun b=>SI.ite (SI.pure rfl) (SI.pure rfl)))
     ·exact SI.bind (SI.modify fun t t' ht=>ht.setPend2 (by rw [ht.pend])) fun _ _ _=>SI.bind (SI.modify fun t t' ht=>ht.setPend2 (by rw [ht.pend])) fun _ _ _=>SI.pure rfl
 ·refine SI.bind (SI.for (fun a b=>a=b) rfl fun i=>SI.eqB fun c=>?_) (SI.eqE (fun c=>SI.pure trivial) (fun _ _=>SI.pure trivial))
  refine SI.bind SI.get fun t t' ht=>?_
  rw [ht.pend]
  exact SI.ite (SI.pure rfl) (SI.bind (SI.mergeAt W) (SI.eqB fun b=>SI.ite (SI.pure rfl) (SI.pure rfl)))
end
end Pw
end
section
namespace Pw
open PySem PyProof.Rows
open PySem.AutoSeq1 (wpAny_loadPart')
open PySem.MeetsSeq PySem.MeetsSeq3
def dJ(it:Array Value)(ns:List Int):Prop:=it.size=ns.length/\∀(i:Nat)(h:i<ns.length),∃t,it[i]? =some (.int (Tg.num ns i) t)
theorem before_drop{ns ms:List Int}{i:Nat}(h1:i<ns.length)(h2:i<ms.length) :
  Tg.before (ns.drop i) (ms.drop i)=(decide (Tg.num ns i<Tg.num ms i) || (Tg.num ns i == Tg.num ms i && Tg.before (ns.drop (i+1)) (ms.drop (i+1)))):=by
 rw [List.drop_eq_getElem_cons h1,List.drop_eq_getElem_cons h2,Tg.before]
 have e1:ns[i]=Tg.num ns i:=by simp [Tg.num,h1]
 have e2:ms[i]=Tg.num ms i:=by simp [Tg.num,h2]
 rw [e1,e2]
theorem lt_loop(l b:Addr)(it it2:Array Value)(n n2:Nat)(dd dd2:Option Addr)(sl sl2:Array (Option Value))(ns ms:List Int)(h1:dJ it ns)(h2:dJ it2 ms)(hsz:ms.length=ns.length)(k:Nat) :
  ∀i:Nat,ns.length - i=k->Meets (Builtin.«list.__eq__.loop» ⟨[.ref l,.ref b,rawInt i,rawInt 0],[]⟩)
   (fun A R s=>s.heap.get? l=some {cls:=.type "list",dict:=dd,data:=.seq it n,slots:=sl}/\s.heap.get? b=some {cls:=.type "list",dict:=dd2,data:=.seq it2 n2,slots:=sl2}/\
    R (.ok (.ret (.bool (Tg.before (ns.drop i) (ms.drop i))))) s):=by
 induction k with
 | zero=>
   intro i hk prog w A R s h
   obtain⟨hp,g,d,tk,os⟩:=s; obtain⟨hl,hb,h⟩:=h
   have z1:=h1.1
   have z2:=h2.1
   wp_walk using wpAny_loadPart' hl,wpAny_loadPart' hb
   have hi1:it[((i:Nat):Int).toNat]? =none:=by simp; omega
   have hi2:it2[((i:Nat):Int).toNat]? =none:=by simp; omega
   have hd:ns.drop i=[]:=by simp; omega
   rw [hd] at h
   rw [hi1,hi2]
   wp_walk using wpAny_loadPart' hl,wpAny_loadPart' hb
   show R (.ok (.ret (.bool (decide (it.size<it2.size))))) _
   have e:decide (it.size<it2.size)=false:=decide_eq_false (by omega)
   rw [e]
   exact h
 | succ k ih=>
   intro i hk prog w A R s h
   obtain⟨hp,g,d,tk,os⟩:=s; obtain⟨hl,hb,h⟩:=h
   have z1:=h1.1
   have z2:=h2.1
   wp_walk using wpAny_loadPart' hl,wpAny_loadPart' hb
   obtain⟨t,e1⟩:=h1.2 i (by omega)
   obtain⟨u,e2⟩:=h2.2 i (by omega)
   have hi1:it[((i:Nat):Int).toNat]? =some (.int (Tg.num ns i) t):=by simpa using e1
   have hi2:it2[((i:Nat):Int).toNat]? =some (.int (Tg.num ms i) u):=by simpa using e2
   have hc:((i:Int)+1)=((i+1:Nat):Int):=by push_cast; rfl
   rw [before_drop (by omega) (by omega)] at h
   rw [hi1,hi2]
   refine wpAny_bind (wpAny_eqBool_int ?_)
   cases hb':(Tg.num ns i == Tg.num ms i) with
   | true=>
     rw [hb'] at h
     have:decide (Tg.num ns i<Tg.num ms i)=false:=by
      have e:Tg.num ns i=Tg.num ms i:=by simpa using hb'
      rw [e]; simp
     rw [this] at h
     wp_walk
     rw [hc]
     exact⟨plainId_quiet plain_eq_loop _,codeAny_builtin entry_eq_loop (by
      rw [Around.under_plainId plain_eq_loop _]
      exact ih (i+1) (by omega) prog w A R _ ⟨hl,hb,by simpa using h⟩)⟩
   | false=>
     rw [hb'] at h
     wp_walk using wpAny_loadPart' hl,wpAny_loadPart' hb
     rw [hi1,hi2]
     refine wpAny_bind (show wpAny (model prog w) A.in1 (richCompare .Lt _ _) _ _ _ from P.lt_int ?_)
     refine wpAny_pure ?_
     simpa using h
theorem gt_loop(l b:Addr)(it it2:Array Value)(n n2:Nat)(dd dd2:Option Addr)(sl sl2:Array (Option Value))(ns ms:List Int)(h1:dJ it ns)(h2:dJ it2 ms)(hsz:ms.length=ns.length)(k:Nat) :
  ∀i:Nat,ns.length - i=k->Meets (Builtin.«list.__eq__.loop» ⟨[.ref l,.ref b,rawInt i,rawInt 4],[]⟩)
   (fun A R s=>s.heap.get? l=some {cls:=.type "list",dict:=dd,data:=.seq it n,slots:=sl}/\s.heap.get? b=some {cls:=.type "list",dict:=dd2,data:=.seq it2 n2,slots:=sl2}/\
    R (.ok (.ret (.bool (Tg.before (ms.drop i) (ns.drop i))))) s):=by
 induction k with
 | zero=>
   intro i hk prog w A R s h
   obtain⟨hp,g,d,tk,os⟩:=s; obtain⟨hl,hb,h⟩:=h
   have z1:=h1.1
   have z2:=h2.1
   wp_walk using wpAny_loadPart' hl,wpAny_loadPart' hb
   have hi1:it[((i:Nat):Int).toNat]? =none:=by simp; omega
   have hi2:it2[((i:Nat):Int).toNat]? =none:=by simp; omega
   have hd:ms.drop i=[]:=by simp; omega
   rw [hd] at h
   rw [hi1,hi2]
   wp_walk using wpAny_loadPart' hl,wpAny_loadPart' hb
   show R (.ok (.ret (.bool (decide (it.size > it2.size))))) _
   have e:decide (it.size > it2.size)=false:=decide_eq_false (by omega)
   rw [e]
   exact h
 | succ k ih=>
   intro i hk prog w A R s h
   obtain⟨hp,g,d,tk,os⟩:=s; obtain⟨hl,hb,h⟩:=h
   have z1:=h1.1
   have z2:=h2.1
   wp_walk using wpAny_loadPart' hl,wpAny_loadPart' hb
   obtain⟨t,e1⟩:=h1.2 i (by omega)
   obtain⟨u,e2⟩:=h2.2 i (by omega)
   have hi1:it[((i:Nat):Int).toNat]? =some (.int (Tg.num ns i) t):=by simpa using e1
   have hi2:it2[((i:Nat):Int).toNat]? =some (.int (Tg.num ms i) u):=by simpa using e2
   have hc:((i:Int)+1)=((i+1:Nat):Int):=by push_cast; rfl
   rw [before_drop (by omega) (by omega)] at h
   rw [hi1,hi2]
   refine wpAny_bind (wpAny_eqBool_int ?_)
   cases hb':(Tg.num ns i == Tg.num ms i) with
   | true=>
     have e:Tg.num ns i=Tg.num ms i:=by simpa using hb'
     rw [e] at h
     wp_walk
     rw [hc]
     exact⟨plainId_quiet plain_eq_loop _,codeAny_builtin entry_eq_loop (by
      rw [Around.under_plainId plain_eq_loop _]
      exact ih (i+1) (by omega) prog w A R _ ⟨hl,hb,by simpa using h⟩)⟩
   | false=>
     have e:(Tg.num ms i == Tg.num ns i)=false:=by
      have:¬ Tg.num ns i=Tg.num ms i:=by simpa using hb'
      simpa using fun x=>this x.symm
     rw [e] at h
     wp_walk using wpAny_loadPart' hl,wpAny_loadPart' hb
     rw [hi1,hi2]
     refine wpAny_bind (show wpAny (model prog w) A.in1 (richCompare .Gt _ _) _ _ _ from P.gt_int ?_)
     refine wpAny_pure ?_
     simpa using h
theorem list_lt(l b:Addr)(it it2:Array Value)(n n2:Nat)(dd dd2:Option Addr)(sl sl2:Array (Option Value))(ns ms:List Int)(h1:dJ it ns)(h2:dJ it2 ms)(hsz:ms.length=ns.length) :
  Meets (Builtin.«list.__lt__» ⟨[.ref l,.ref b],[]⟩)
   (fun A R s=>s.heap.get? l=some {cls:=.type "list",dict:=dd,data:=.seq it n,slots:=sl}/\s.heap.get? b=some {cls:=.type "list",dict:=dd2,data:=.seq it2 n2,slots:=sl2}/\
    R (.ok (.ret (.bool (Tg.before ns ms)))) s):=by
 intro prog w A R s h
 obtain⟨hp,g,d,tk,os⟩:=s; obtain⟨hl,hb,h⟩:=h
 have f3:=AutoSeq1.sub_list_list
 wp_walk using wpAny_loadPart' hl,wpAny_loadPart' hb
 exact⟨plainId_quiet plain_eq_loop _,codeAny_builtin entry_eq_loop (by
  rw [Around.under_plainId plain_eq_loop _]
  exact lt_loop l b it it2 n n2 dd dd2 sl sl2 ns ms h1 h2 hsz _ 0 rfl prog w A R _ ⟨hl,hb,by simpa using h⟩)⟩
theorem list_gt(l b:Addr)(it it2:Array Value)(n n2:Nat)(dd dd2:Option Addr)(sl sl2:Array (Option Value))(ns ms:List Int)(h1:dJ it ns)(h2:dJ it2 ms)(hsz:ms.length=ns.length) :
  Meets (Builtin.«list.__gt__» ⟨[.ref l,.ref b],[]⟩)
   (fun A R s=>s.heap.get? l=some {cls:=.type "list",dict:=dd,data:=.seq it n,slots:=sl}/\s.heap.get? b=some {cls:=.type "list",dict:=dd2,data:=.seq it2 n2,slots:=sl2}/\
    R (.ok (.ret (.bool (Tg.before ms ns)))) s):=by
 intro prog w A R s h
 obtain⟨hp,g,d,tk,os⟩:=s; obtain⟨hl,hb,h⟩:=h
 have f3:=AutoSeq1.sub_list_list
 wp_walk using wpAny_loadPart' hl,wpAny_loadPart' hb
 exact⟨plainId_quiet plain_eq_loop _,codeAny_builtin entry_eq_loop (by
  rw [Around.under_plainId plain_eq_loop _]
  exact gt_loop l b it it2 n n2 dd dd2 sl sl2 ns ms h1 h2 hsz _ 0 rfl prog w A R _ ⟨hl,hb,by simpa using h⟩)⟩
end Pw
end
section
namespace Pw
open PySem PyProof.Rows
open PySem.Sem (wp wp_bind' wp_pure' wp_mono wp_attempt)
def LstAt(h:Heap)(a:Addr)(ns:List Int):Prop:=∃dd it n sl,h.get? a=some {cls:=.type "list",dict:=dd,data:=.seq it n,slots:=sl}/\dJ it ns
section
variable{prog:Program}{w:World}{A:Around}{E:Value->Shared->Prop}{s:Shared}
theorem oneLt_lists{a b:Addr}{ns ms:List Int}{Q:Bool->Shared->Prop}(hu:A.units<cLine)(ha:LstAt s.heap a ns)(hb:LstAt s.heap b ms)(hl:ms.length=ns.length)(h:Q (Tg.before ns ms) s) :
  wpAny (model prog w) A (keyLt' oneType' (.ref a) (.ref b)) Q E s:=by
 obtain⟨dd,it,n,sl,e1,i1⟩:=ha
 obtain⟨dd2,it2,n2,sl2,e2,i2⟩:=hb
 rw [keyLt'_oneType,oneLt'_eq]
 simp only [if_true]
 refine wpAny_bind (wpAny_cRoomFor hu ?_)
 have hT:s.TypeIs (.ref a) "list":=⟨_,e1,rfl⟩
 refine wpAny_bind (wpAny_callSpecialIfBound?_slot hT F.slot_list_lt (call_meets F.slot_list_lt hT F.entry_list_lt (F.args_list_lt_2 _ _) (list_lt a b it it2 n n2 dd dd2 sl sl2 ns ms i1 i2 hl) ⟨e1,e2,?_⟩))
 exact wpAny_truthy_bool h
end
theorem before_irr:∀a:List Int,Tg.before a a=false
 | []=>rfl
 | x::a=>by rw [Tg.before,before_irr a]; simp
theorem before_trans:∀a b c:List Int,Tg.before a b=true->Tg.before b c=true->Tg.before a c=true
 | x::a,y::b,z::c,h1,h2=>by
   simp only [Tg.before,Bool.or_eq_true,decide_eq_true_eq,Bool.and_eq_true,beq_iff_eq] at h1 h2 ⊢
   rcases h1 with h1 | ⟨e1,h1⟩
   ·rcases h2 with h2 | ⟨e2,h2⟩
    ·exact .inl (by omega)
    ·exact .inl (by omega)
   ·rcases h2 with h2 | ⟨e2,h2⟩
    ·exact .inl (by omega)
    ·exact .inr ⟨by omega,before_trans a b c h1 h2⟩
 | [],_,_,h1,_=>by simp [Tg.before] at h1
 | _::_,[],_,h1,_=>by simp [Tg.before] at h1
 | _::_,_::_,[],_,h2=>by simp [Tg.before] at h2
theorem before_tot:∀a b:List Int,a.length=b.length->Tg.before a b=false->Tg.before b a=false->a=b
 | [],[],_,_,_=>rfl
 | x::a,y::b,hl,h1,h2=>by
   simp only [Tg.before,Bool.or_eq_false_iff,decide_eq_false_iff_not,Bool.and_eq_false_imp,beq_iff_eq] at h1 h2
   have e:x=y:=by omega
   rw [e,before_tot a b (by simpa using hl) (h1.2 e) (h2.2 e.symm)]
 | [],_::_,hl,_,_=>by simp at hl
 | _::_,[],hl,_,_=>by simp at hl
def gf(ks:List (List Int))(l:List Int):Nat:=(ks.filter fun k=>Tg.before k l).length
theorem filter_le{α:Type}{p q:α->Bool}:∀l:List α,(∀x∈l,p x=true->q x=true)->(l.filter p).length<=(l.filter q).length
 | [],_=>Nat.le_refl _
 | x::l,h=>by
   have ih:=filter_le l fun y hy=>h y (List.mem_cons_of_mem _ hy)
   have hx:=h x List.mem_cons_self
   rw [List.filter_cons,List.filter_cons]
   cases e:p x with
   | true=>rw [hx e]; simp only [if_true,List.length_cons]; omega
   | false=>
     cases q x with
     | true=>simp only [if_true,Bool.false_eq_true,if_false,List.length_cons]; omega
     | false=>simp only [Bool.false_eq_true,if_false]; exact ih
theorem filter_lt{α:Type}{p q:α->Bool}:∀{l:List α}{a:α},(∀x∈l,p x=true->q x=true)->a∈l->p a=false->q a=true->(l.filter p).length<(l.filter q).length
 | x::l,a,h,ha,pa,qa=>by
   have h':∀y∈l,p y=true->q y=true:=fun y hy=>h y (List.mem_cons_of_mem _ hy)
   have hx:=h x List.mem_cons_self
   rw [List.filter_cons,List.filter_cons]
   rcases List.mem_cons.1 ha with rfl | ha
   ·rw [pa,qa]
    have:=filter_le l h'
    simp only [if_true,Bool.false_eq_true,if_false,List.length_cons]; omega
   ·have ih:=filter_lt h' ha pa qa
    cases e:p x with
    | true=>rw [hx e]; simp only [if_true,List.length_cons]; omega
    | false=>
      cases q x with
      | true=>simp only [if_true,Bool.false_eq_true,if_false,List.length_cons]; omega
      | false=>simp only [Bool.false_eq_true,if_false]; exact ih
theorem rank_lt{ks:List (List Int)}{n:Nat}(hn:∀k∈ks,k.length=n){a b:List Int}(ha:a∈ks)(hb:b∈ks):decide ((gf ks a:Int)<(gf ks b:Int))=Tg.before a b:=by
 cases e:Tg.before a b with
 | true=>
   have:=filter_lt (l:=ks) (p:=fun k=>Tg.before k a) (q:=fun k=>Tg.before k b) (a:=a) (fun k _ h=>before_trans k a b h e) ha (before_irr a) e
   refine decide_eq_true ?_
   unfold gf; omega
 | false=>
   refine decide_eq_false ?_
   have:(ks.filter fun k=>Tg.before k b).length<=(ks.filter fun k=>Tg.before k a).length:=by
    cases e2:Tg.before b a with
    | true=>exact filter_le _ fun k _ h=>before_trans k b a h e2
    | false=>rw [before_tot a b (by rw [hn a ha,hn b hb]) e e2]; exact Nat.le_refl _
   unfold gf; omega
structure Elt(h:Heap)(ks:List (List Int)) where
 at_:Addr
 ns:List Int
 v:Value
 ok:LstAt h at_ ns
 mem:ns∈ks
section
variable{prog:Program}{w:World}{A:Around}{E:Value->Shared->Prop}{s:Shared}{ks:List (List Int)}{n:Nat}
def itL{h:Heap}{ks:List (List Int)}(x:Elt h ks):Keyed:=(.ref x.at_,x.v)
def dj{h:Heap}{ks:List (List Int)}(p:List (Elt h ks))(x0:Elt h ks)(i:Nat):Elt h ks:=p.getD i x0
def eltL{h:Heap}{ks:List (List Int)}(p:List (Elt h ks))(x0:Elt h ks)(i:Nat):Keyed:=itL (dj p x0 i)
def gO{h:Heap}{ks:List (List Int)}(p:List (Elt h ks))(x0:Elt h ks)(i:Nat):Keyed:=(.int (gf ks (dj p x0 i).ns) i,(dj p x0 i).v)
def idOf:Keyed->Nat
 | (.int _ t,_)=>t
 | _=>0
theorem two_lists(hu:A.units<cLine)(hn:∀k∈ks,k.length=n)(p:List (Elt s.heap ks))(x0:Elt s.heap ks){Γ:Ctx}(hG:Γ.In A) :
  Two (model prog w) Γ s (eltL p x0) (gO p x0) (fun i j=>Tg.before (dj p x0 i).ns (dj p x0 j).ns):=by
 constructor
 ·intro i j q
  exact oneLt_lists (A:=A) (Q:=fun b s'=>b=Tg.before (dj p x0 i).ns (dj p x0 j).ns/\s'=s) (E:=fun _ _=>False) hu (dj p x0 i).ok (dj p x0 j).ok (by rw [hn _ (dj p x0 i).mem,hn _ (dj p x0 j).mem]) ⟨rfl,rfl⟩ Γ q hG
 ·intro i j q
  refine oneLt_int (A:=A) (Q:=fun b s'=>b=Tg.before (dj p x0 i).ns (dj p x0 j).ns/\s'=s) (E:=fun _ _=>False) ⟨?_,rfl⟩ Γ q hG
  exact rank_lt hn (dj p x0 i).mem (dj p x0 j).mem
theorem range_nth{h:Heap}(p:List (Elt h ks))(x0:Elt h ks):(List.range p.length).map (dj p x0)=p:=by
 refine List.ext_getElem? fun i=>?_
 rw [List.getElem?_map]
 by_cases hi:i<p.length
 ·rw [List.getElem?_range hi]
  simp [dj,hi]
 ·rw [List.getElem?_eq_none (by simpa using hi),List.getElem?_eq_none (by omega)]; rfl
theorem wpS_lists(hu:A.units<cLine)(hn:∀k∈ks,k.length=n)(p:List (Elt s.heap ks))(h2:2<=p.length){Q:Unit->SortSt->Prop}
  (h:∀(q:List (Elt s.heap ks))(st:SortSt),arrOf st=(q.map itL).toArray->failedOf st=none->q.Perm p->q.Pairwise (fun x y=>Tg.before y.ns x.ns=false)->Q () st) :
  wpS (model prog w) A E s sortRuns' Q (SortSt.mk' oneType' (p.map itL).toArray #[] 7 none):=by
 obtain⟨x0,hx0⟩:∃x0,x0∈p:=List.exists_mem_of_length_pos (by omega)
 have hI:wpS (model prog w) A (fun _ _=>False) s sortRuns' (fun _ st'=>(arrOf st').Perm (((List.range p.length).map (gO p x0)).toArray)/\failedOf st'=none/\SortedToK intKind (arrOf st') p.length)
   (SortSt.mk' oneType' (((List.range p.length).map (gO p x0)).toArray) #[] 7 none):=by
  refine wpS_sortRunsSt (κ:=intKind) (a₀:=((List.range p.length).map (gO p x0)).toArray) intKind_oneLt ?_ ⟨Array.Perm.refl _,rfl,rfl⟩ rfl (Stable.refl _) (by simp; omega) fun st' a1 a2 a3 _=>⟨a1,a2,?_⟩
  ·intro y hy
   obtain⟨i,_,rfl⟩:=List.mem_map.1 (show y∈(List.range p.length).map (gO p x0) from by simpa using hy)
   exact⟨_,rfl⟩
  ·simpa using a3
 intro Γ pos hG
 have W:=two_lists (prog:=prog) (w:=w) hu hn p x0 hG
 have S:=SI.runs W (SortSt.mk' oneType' (p.map itL).toArray #[] 7 none) (SortSt.mk' oneType' (((List.range p.length).map (gO p x0)).toArray) #[] 7 none)
  ⟨(List.range p.length).toArray,#[],7,congrArg (fun x=>SortSt.mk' oneType' x #[] 7 none) (by
    rw [List.map_toArray]
    congr 1
    conv=>lhs; rw [<- range_nth p x0]
    rw [List.map_map]; rfl),congrArg (fun x=>SortSt.mk' oneType' x #[] 7 none) (by rw [List.map_toArray])⟩
 have R:=S pos pos _ (hI Γ pos hG)
 refine wp_mono _ Γ _ (fun a p' s' g=>?_) (fun _ _ _ g=>g.elim) pos s R
 obtain⟨rfl,b,⟨_,q,pe,gl,e1,e2⟩,_,hp,hf,hs⟩:=g
 refine⟨rfl,?_⟩
 obtain⟨a1,a2⟩:=a
 obtain⟨b1,b2⟩:=b
 dsimp only at e1 e2
 subst e1
 subst e2
 have hp':(q.toList.map (gO p x0)).Perm ((List.range p.length).map (gO p x0)):=by
  have:=Array.perm_iff_toList_perm.mp (show(q.map (gO p x0)).Perm _ from hp)
  simpa using this
 have hq:q.toList.Perm (List.range p.length):=by
  have h3:=hp'.map idOf
  rw [List.map_map,List.map_map] at h3
  have e:∀l:List Nat,l.map (idOf ∘ gO p x0)=l:=fun l=>by
   conv=>rhs; rw [<- List.map_id l]
   rfl
  rwa [e,e] at h3
 refine h (q.toList.map (dj p x0)) _ ?_ rfl ?_ ?_
 ·show q.map (eltL p x0)=_
  rw [List.map_map]
  apply Array.ext'
  rw [Array.toList_map]
  rfl
 ·have:=hq.map (dj p x0)
  rwa [range_nth] at this
 ·rw [List.pairwise_map,List.pairwise_iff_getElem]
  intro i j hi hj hij
  have hl:q.size=p.length:=by have:=hq.length_eq; simpa using this
  have h3:=hs i j (Nat.le_of_lt hij) (by simpa [hl] using hj)
  have ki:∀k (hk:k<q.toList.length),KK intKind (q.map (gO p x0)) k=(gf ks (dj p x0 q.toList[k]).ns:Int):=fun k hk=>by
   unfold KK
   have:(q.map (gO p x0))[k]? =some (gO p x0 q.toList[k]):=by
    rw [Array.getElem?_map]
    have hk':k<q.size:=by simpa using hk
    simp [hk']
   rw [this]
   rfl
  have h4:decide (KK intKind (q.map (gO p x0)) j<KK intKind (q.map (gO p x0)) i)=false:=h3
  rw [ki i hi,ki j hj,rank_lt hn (dj p x0 _).mem (dj p x0 _).mem] at h4
  exact h4
end
end Pw
end
section
namespace L2
open PySem PySem.Spec PyProof.Rows
abbrev Key:=Sum Int Str
def gJ:Key->Value->Bool
 | .inl k,v=>Value.isInt k v
 | .inr x,v=>Value.isStrOf x v
def keyH(w:World):Key->Int
 | .inl k=>hashInt k
 | .inr x=>hashStr w x
theorem cK:∀{k:Key}{v:Value},gJ k v=true->(∃i t,k=Sum.inl i/\v=Value.int i t)\/(∃x t,k=Sum.inr x/\v=Value.str x t)
 | .inl i,v,h=>by
   obtain⟨t,e⟩:=Value.isInt_shape (k:=i) (v:=v) h
   exact .inl ⟨i,t,rfl,e⟩
 | .inr x,v,h=>by
   obtain⟨t,e⟩:=Value.isStrOf_shape (x:=x) (v:=v) h
   exact .inr ⟨x,t,rfl,e⟩
theorem keyIs_int(i:Int)(t:Tok):gJ (.inl i) (.int i t)=true:=by simp [gJ,Value.isInt]
theorem key_ll(a b:Int):decide ((Sum.inl a:Key)=Sum.inl b)=(a == b):=by
 by_cases e:a=b
 ·subst e; simp
 ·have h:¬ (Sum.inl a:Key)=Sum.inl b:=fun q=>e (Sum.inl.inj q)
  rw [decide_eq_false h]
  exact(beq_eq_false_iff_ne.mpr e).symm
theorem key_rr(a b:Str):decide ((Sum.inr a:Key)=Sum.inr b)=decide (a=b):=by
 by_cases e:a=b
 ·subst e; simp
 ·have h:¬ (Sum.inr a:Key)=Sum.inr b:=fun q=>e (Sum.inr.inj q)
  rw [decide_eq_false h,decide_eq_false e]
theorem key_lr(a:Int)(b:Str):decide ((Sum.inl a:Key)=Sum.inr b)=false:=decide_eq_false (fun q=>nomatch q)
theorem key_rl(a:Str)(b:Int):decide ((Sum.inr a:Key)=Sum.inl b)=false:=decide_eq_false (fun q=>nomatch q)
def iB(prog:Program)(w:World):PySem.KeyKind prog w Key where
 is:=gJ
 hash:=keyH w
 inj:=fun v a b ha hb=>by
  rcases cK ha with⟨i,t,rfl,rfl⟩ | ⟨x,t,rfl,rfl⟩
  ·rcases cK hb with⟨j,u,rfl,e⟩ | ⟨y,u,rfl,e⟩
   ·injection e with e1 _; rw [e1]
   ·exact nomatch e
  ·rcases cK hb with⟨j,u,rfl,e⟩ | ⟨y,u,rfl,e⟩
   ·exact nomatch e
   ·injection e with e1 _; rw [e1]
 byValue:=fun k v h=>by
  rcases cK h with⟨i,t,rfl,rfl⟩ | ⟨x,t,rfl,rfl⟩ <;> rfl
 pyHash:=fun hv h=>by
  rcases cK hv with⟨i,t,rfl,rfl⟩ | ⟨x,t,rfl,rfl⟩
  ·exact wpAny_pyHash_int h
  ·exact wpAny_pyHash_str h
 eqBool:=fun hu hv h=>by
  rcases cK hu with⟨i,t,rfl,rfl⟩ | ⟨x,t,rfl,rfl⟩
  ·rcases cK hv with⟨j,u,rfl,rfl⟩ | ⟨y,u,rfl,rfl⟩
   ·rw [key_ll] at h; exact wpAny_eqBool_int h
   ·rw [key_lr] at h; exact SeqAt.EqAt.int_str i t y u _ _ _ _ h
  ·rcases cK hv with⟨j,u,rfl,rfl⟩ | ⟨y,u,rfl,rfl⟩
   ·rw [key_rl] at h; exact SeqAt.EqAt.str_int x t j u _ _ _ _ h
   ·rw [key_rr] at h; exact wpAny_eqBool_str h
 «strs»:=fun k x t v h=>by
  rcases cK h with⟨i,u,rfl,e⟩ | ⟨y,u,rfl,e⟩
  ·exact nomatch e
  ·injection e with e1 _
   subst e1
   cases v <;> rfl
end L2
namespace L2
open PySem PySem.Spec PyProof.Rows
inductive V where
 | non | bl (b:Bool) | int (i:Int) | str (x:Str) | byt (b:Array UInt8) | flt (b:UInt64) | ref (a:Addr) | ty (n:String)
 deriving DecidableEq
def RelV:V->Value->Prop
 | .non,u=>u=Value.none
 | .bl b,u=>u=Value.bool b
 | .int i,u=>∃t,u=Value.int i t
 | .str x,u=>∃t,u=Value.str x t
 | .byt b,u=>∃t,u=Value.bytes b t
 | .flt b,u=>∃t,u=Value.float b t
 | .ref a,u=>u=Value.ref a
 | .ty n,u=>u=Value.type n
abbrev ay:List V->List Value->Prop:=Paired RelV
theorem ay.length{xs:List V}{us:List Value}(r:ay xs us):xs.length=us.length:=Paired.length r
theorem ay.get:∀{xs:List V}{us:List Value}{i:Nat}{x:V},ay xs us->xs[i]? =some x->∃u,us[i]? =some u/\RelV x u
 | _,_,_,_,.nil,e=>by simp at e
 | _,_,0,_,.cons r _,e=>by simp at e; subst e; exact⟨_,rfl,r⟩
 | _,_,i+1,x,.cons _ t,e=>by
   obtain⟨u,h1,h2⟩:=ay.get (i:=i) (x:=x) t (by simpa using e)
   exact⟨u,by simpa using h1,h2⟩
theorem ay.append:∀{xs ys:List V}{us ws:List Value},ay xs us->ay ys ws->ay (xs++ys) (us++ws)
 | _,_,_,_,.nil,s=>s
 | _,_,_,_,.cons r t,s=>.cons r (ay.append t s)
theorem ay.take:∀{xs:List V}{us:List Value}(n:Nat),ay xs us->ay (xs.take n) (us.take n)
 | _,_,0,_=>.nil
 | _,_,_+1,.nil=>.nil
 | _,_,n+1,.cons r t=>.cons r (ay.take n t)
theorem ay.drop:∀{xs:List V}{us:List Value}(n:Nat),ay xs us->ay (xs.drop n) (us.drop n)
 | _,_,0,r=>r
 | _,_,_+1,.nil=>.nil
 | _,_,n+1,.cons _ t=>ay.drop n t
def jO:Option V->Option Value->Prop
 | some v,some u=>RelV v u
 | none,none=>True
 | _,_=>False
def KV{κ:Type}:List (κ × V)->List (κ × Value)->Prop:=Paired fun(p:κ × V)(q:κ × Value)=>p.1=q.1/\RelV p.2 q.2
def kV:Key->V
 | .inl i=>.int i
 | .inr x=>.str x
inductive HO where
 | lst (xs:List V)
 | tup (xs:List V)
 | dK (kvs:List (Key × V)) | dT (kvs:List (List Key × V))
 | set (S:Int->Bool) (n:Nat)
 | ins (C dx:Addr) (fs:List (Str × V))
 | own (x:Addr)
 | xd (fs:List (Str × V))
 | met (f x:Addr)
 | rng (lo hi:Int)
 | frz (o:Obj) (u:HO)
 | tbl (ps:Array Value)
 | ext (φ:Heap->Prop)
abbrev Hp:=Addr->Option HO
def upd(H:Hp)(a:Addr)(o:HO):Hp:=fun b=>if b=a then some o else H b
theorem aB{H:Hp}{a:Addr}{o:HO}:upd H a o a=some o:=by unfold upd; rw [if_pos rfl]
theorem aO{H:Hp}{a b:Addr}{o:HO}(h:b≠a):upd H a o b=H b:=by unfold upd; rw [if_neg h]
theorem aP{H:Hp}{a b:Addr}{o:HO}(h:H a=some o)(h':H b=none):a≠b:=by
 intro e; subst e; rw [h] at h'; cases h'
section
variable(P:Program)(w:World)
def dP(H:Hp)(h:Heap)(a:Addr):HO->Prop
 | .lst xs=>xs.length<=sizeLine/\∃(its:List Value)(n:Nat),ay xs its/\h.get? a=some {cls:=.type "list",data:=.seq its.toArray n}
 | .tup xs=>xs.length<=sizeLine/\∃its:List Value,ay xs its/\IsTup h a its.toArray
 | .dK kvs=>kvs.length<=sizeLine/\(a == sysModules)=false/\∃vs,KV kvs vs/\h.DictOf (iB P w) a vs
 | .dT kvs=>kvs.length<=sizeLine/\(a == sysModules)=false/\∃xs:List (List Key × Addr × Value),
   Paired (fun(p:List Key × V)(q:List Key × Addr × Value)=>p.1=q.1/\H q.2.1=some (.tup (p.1.map kV))/\RelV p.2 q.2.2) kvs xs/\
   ∃o es ep,h.get? a=some o/\o.ExactDict/\o.data=.dict es ep/\es.toList=xs.map (entryOfKey (tupleKind (iB P w)))/\(xs.map (·.1)).Nodup
 | .set S n=>h.SetOf (intKind P w) a S n
 | .ins C dx fs=>H dx=some (.own a)/\fs.length<=1000/\dx≠a/\h.get? a=some (PySem.W.instObj C dx)/\
   ∃mA,h.Ns1 dx mA/\(∀f,jO (fs.lookup f) (mA f))/\PySem.Within mA (fs.map (·.1))
 | .own _=>∃o,h.get? a=some o
 | .xd fs=>∃mA,h.Ns1 a mA/\∀f,jO (fs.lookup f) (mA f)
 | .rng lo hi=>∃t u v,h.get? a=some {cls:=.type "range",data:=.fields #[.int lo t,.int hi u,.int 1 v]}
 | .frz o u=>h.get? a=some o/\dP H h a u
 | .tbl ps=>h.get? a=some {cls:=.none,data:=.fields ps}
 | .met f x=>h.get? a=some (PySem.W.methodObj (.ref f) (.ref x))
 | .ext φ=>φ h/\(∃o,h.get? a=some o)/\∀h1 h2:Heap,φ h1->(∀o,h1.get? a=some o->h2.get? a=some o)->φ h2
def HOk(H:Hp)(h:Heap):Prop:=∀a o,H a=some o->dP P w H h a o
end
section
variable{P:Program}{w:World}{H H':Hp}{h h':Heap}{a:Addr}{o:HO}
theorem dP.lt(x:dP P w H h a o):a<h.objs.size:=by
 cases o with
 | lst xs=>obtain⟨_,_,_,_,e⟩:=x; exact Heap.lt_size e
 | tup xs=>obtain⟨_,_,_,p⟩:=x; exact p.lt
 | dK kvs=>obtain⟨_,_,_,_,o,_,_,e,_⟩:=x; exact Heap.lt_size e
 | dT kvs=>obtain⟨_,_,_,_,o,_,_,e,_⟩:=x; exact Heap.lt_size e
 | set S n=>obtain⟨o,_,_,_,e,_⟩:=x; exact Heap.lt_size e
 | ins C dx fs=>obtain⟨_,_,_,e,_⟩:=x; exact Heap.lt_size e
 | own y=>obtain⟨_,e⟩:=x; exact Heap.lt_size e
 | xd fs=>obtain⟨_,⟨_,_,_,e,_⟩,_⟩:=x; exact Heap.lt_size e
 | rng lo hi=>obtain⟨_,_,_,e⟩:=x; exact Heap.lt_size e
 | frz ob u=>obtain⟨e,_⟩:=x; exact Heap.lt_size e
 | tbl ps=>exact Heap.lt_size (show h.get? a=some _ from x)
 | met f y=>exact Heap.lt_size (show h.get? a=some _ from x)
 | ext φ=>obtain⟨_,⟨_,e⟩,_⟩:=x; exact Heap.lt_size e
theorem Paired.mapP{α β:Type}{F G:α->β->Prop}:∀{l₁:List α}{l₂:List β},Paired F l₁ l₂->(∀a b,F a b->G a b)->Paired G l₁ l₂
 | _,_,.nil,_=>.nil
 | _,_,.cons r t,f=>.cons (f _ _ r) (Paired.mapP t f)
theorem dP.stay(x:dP P w H h a o)(k:∀b u,(b=a\/H b=some (.own a))->h.get? b=some u->h'.get? b=some u)
  (ho:∀b,H b=some (.own a)->H' b=some (.own a)) (ht:∀b xs,H b=some (.tup xs)->H' b=some (.tup xs)):dP P w H' h' a o:=by
 induction o with
 | lst xs=>obtain⟨z,its,n,r,e⟩:=x; exact⟨z,its,n,r,k _ _ (.inl rfl) e⟩
 | tup xs=>obtain⟨z,its,r,ob,e,c⟩:=x; exact⟨z,its,r,ob,k _ _ (.inl rfl) e,c⟩
 | dK kvs=>obtain⟨z,y,vs,r,ob,es,ep,e,c⟩:=x; exact⟨z,y,vs,r,ob,es,ep,k _ _ (.inl rfl) e,c⟩
 | dT kvs=>
   obtain⟨z,y,xs,r,ob,es,ep,e,c⟩:=x
   exact⟨z,y,xs,Paired.mapP r fun p q z=>⟨z.1,ht _ _ z.2.1,z.2.2⟩,ob,es,ep,k _ _ (.inl rfl) e,c⟩
 | set S n=>obtain⟨ob,es,ep,t,e,c⟩:=x; exact⟨ob,es,ep,t,k _ _ (.inl rfl) e,c⟩
 | ins C dx fs=>
   obtain⟨d,z,ne,e,mA,⟨od,es,ep,e2,c⟩,r⟩:=x
   exact⟨ho _ d,z,ne,k _ _ (.inl rfl) e,mA,⟨od,es,ep,k _ _ (.inr d) e2,c⟩,r⟩
 | own y=>obtain⟨ob,e⟩:=x; exact⟨ob,k _ _ (.inl rfl) e⟩
 | xd fs=>obtain⟨mA,⟨od,es,ep,e,c⟩,r⟩:=x; exact⟨mA,⟨od,es,ep,k _ _ (.inl rfl) e,c⟩,r⟩
 | rng lo hi=>obtain⟨t,u,v,e⟩:=x; exact⟨t,u,v,k _ _ (.inl rfl) e⟩
 | frz ob u ih=>obtain⟨e,q⟩:=x; exact⟨k _ _ (.inl rfl) e,ih q⟩
 | tbl ps=>
   have e:h.get? a=some {cls:=.none,data:=.fields ps}:=x
   show h'.get? a=some {cls:=.none,data:=.fields ps}
   exact k a _ (.inl rfl) e
 | met f y=>
   have e:h.get? a=some (PySem.W.methodObj (.ref f) (.ref y)):=x
   show h'.get? a=some (PySem.W.methodObj (.ref f) (.ref y))
   exact k a _ (.inl rfl) e
 | ext φ=>obtain⟨p,⟨o,e⟩,st⟩:=x; exact⟨st _ _ p fun o q=>k _ _ (.inl rfl) q,⟨o,k _ _ (.inl rfl) e⟩,st⟩
theorem HOk.lt(x:HOk P w H h)(e:H a=some o):a<h.objs.size:=(x a o e).lt
theorem HOk.fresh(x:HOk P w H h)(e:h.objs.size<=a):H a=none:=by
 cases q:H a with
 | none=>rfl
 | some u=>exact absurd (Nat.lt_of_lt_of_le (x.lt q) e) (Nat.lt_irrefl _)
theorem HOk.kept(x:HOk P w H h)(k:∀b u,h.get? b=some u->h'.get? b=some u):HOk P w H h':=fun a o e=>
 (x a o e).stay (fun b u _ q=>k b u q) (fun _ q=>q) fun _ _ q=>q
theorem HOk.laid(x:HOk P w H h)(k:∀b u,h.get? b=some u->h'.get? b=some u)(hp:h.objs.size<=a)(new:dP P w (upd H a o) h' a o):HOk P w (upd H a o) h':=fun b u e=>by
 have hn:=x.fresh hp
 by_cases hb:b=a
 ·subst hb; rw [aB] at e; cases e; exact new
 ·rw [aO hb] at e
  exact(x b u e).stay (fun c v _ q=>k c v q) (fun c q=>by rw [aO (aP q hn)]; exact q) fun c xs q=>by rw [aO (aP q hn)]; exact q
end
def Rd(H:Hp)(a:Addr)(u:HO):Prop:=H a=some u\/∃o,H a=some (.frz o u)
theorem Rd.ok{P:Program}{w:World}{H:Hp}{h:Heap}{a:Addr}{u:HO}(r:Rd H a u)(x:HOk P w H h):dP P w H h a u:=by
 rcases r with r | ⟨o,r⟩
 ·exact x a u r
 ·obtain⟨_,q⟩:=x a _ r
  exact q
def Mut:Option HO->Prop
 | some (.lst _)=>True
 | some (.dK _)=>True
 | some (.dT _)=>True
 | some (.set _ _)=>True
 | some (.ins _ _ _)=>True
 | some (.ext _)=>True
 | _=>False
section
variable{P:Program}{w:World}{H:Hp}{h h':Heap}{x e:Addr}{o':HO}
theorem HOk.write(ok:HOk P w H h)(mu:Mut (H x))(he:e=x\/H e=some (.own x))(k:∀b u,b≠e->h.get? b=some u->h'.get? b=some u)(heo:∃u,h'.get? e=some u)
  (new:dP P w (upd H x o') h' x o'):HOk P w (upd H x o') h':=fun b u q=>by
 have nown:∀c y,H c=some (.own y)->c≠x:=fun c y r z=>by subst z; rw [r] at mu; exact mu
 have ntup:∀c xs,H c=some (.tup xs)->c≠x:=fun c xs r z=>by subst z; rw [r] at mu; exact mu
 by_cases hb:b=x
 ·subst hb; rw [aB] at q; cases q; exact new
 ·rw [aO hb] at q
  by_cases hbe:b=e
  ·have q':H b=some (.own x):=by
    rcases he with z | z
    ·exact absurd (hbe.trans z) hb
    ·rw [hbe]; exact z
   rw [q] at q'; cases q'
   obtain⟨v,hv⟩:=heo
   exact⟨v,by rw [hbe]; exact hv⟩
  ·refine(ok b u q).stay (fun c v hc r=>k c v ?_ r) (fun c r=>by rw [aO (nown c b r)]; exact r) fun c xs r=>by rw [aO (ntup c xs r)]; exact r
   rcases hc with rfl | hc
   ·exact hbe
   ·rintro rfl
    rcases he with z | z
    ·exact nown c b hc z
    ·rw [hc] at z; cases z; exact hb rfl
end
structure Un(fs ex:List Addr)(H H':Hp)(h h':Heap):Prop where
 keep:∀b o,h.get? b=some o->H b=none->b∉fs->b∉ex->h'.get? b=some o
 slot:∀b o,h.get? b=some o->H b=none->b∈fs->b∉ex->∃sl,h'.get? b=some {o with slots:=sl}
 free:∀b o,h.get? b=some o->H b=none->b∉ex->H' b=none
 there:∀b o,h.get? b=some o->b∉ex->∃o',h'.get? b=some o'
 tups:∀b xs,H b=some (.tup xs)->H' b=some (.tup xs)
 frzs:∀b o u,H b=some (.frz o u)->H' b=some (.frz o u)
 tbls:∀b ps,H b=some (.tbl ps)->∃more,H' b=some (.tbl (ps++more))
section
variable{fs fs' ex ex':List Addr}{H H1 H2:Hp}{h h1 h2 h':Heap}{a x e:Addr}{o:HO}
theorem Un.any(u:Un fs ex H H1 h h1){b:Addr}{ob:Obj}(q:h.get? b=some ob)(n:H b=none)(hx:b∉ex):∃sl,h1.get? b=some {ob with slots:=sl}:=by
 by_cases hb:b∈fs
 ·exact u.slot b ob q n hb hx
 ·exact⟨ob.slots,u.keep b ob q n hb hx⟩
theorem Un.kept(k:∀b u,h.get? b=some u->h'.get? b=some u):Un fs ex H H h h':=
 ⟨fun b ob q _ _ _=>k b ob q,fun b ob q _ _ _=>⟨ob.slots,k b ob q⟩,fun _ _ _ n _=>n,fun b ob q _=>⟨ob,k b ob q⟩,fun _ _ q=>q,fun _ _ _ q=>q,fun _ ps q=>⟨#[],by rw [q]; simp⟩⟩
theorem Un.refl:Un fs ex H H h h:=Un.kept fun _ _ q=>q
theorem Un.laid(k:∀b u,h.get? b=some u->h'.get? b=some u)(hp:h.objs.size<=a)(hn:H a=none):Un fs ex H (upd H a o) h h' where
 keep:=fun b u q _ _ _=>k b u q
 slot:=fun b u q _ _ _=>⟨u.slots,k b u q⟩
 free:=fun b u q n _=>by rw [aO (Nat.ne_of_lt (Nat.lt_of_lt_of_le (Heap.lt_size q) hp))]; exact n
 there:=fun b u q _=>⟨u,k b u q⟩
 tups:=fun b xs q=>by rw [aO (aP q hn)]; exact q
 frzs:=fun b u xs q=>by rw [aO (aP q hn)]; exact q
 tbls:=fun b ps q=>⟨#[],by rw [aO (aP q hn),q]; simp⟩
theorem Un.write(mu:Mut (H x))(he:e=x\/H e=some (.own x))(k:∀b u,b≠e->h.get? b=some u->h'.get? b=some u)(heo:∃u,h'.get? e=some u):Un fs ex H (upd H x o) h h':=by
 have hx:∀b,H b=none->b≠x:=fun b n z=>by subst z; rw [n] at mu; exact mu
 have hb:∀b,H b=none->b≠e:=fun b n z=>by
  subst z
  rcases he with r | r
  ·exact hx b n r
  ·rw [n] at r; cases r
 have hm:∀b u,H b=some u->¬ Mut (some u)->b≠x:=fun b u q nm z=>by subst z; rw [q] at mu; exact nm mu
 refine⟨fun b u q n _ _=>k b u (hb b n) q,fun b u q n _ _=>⟨u.slots,k b u (hb b n) q⟩,fun b u q n _=>by rw [aO (hx b n)]; exact n,fun b u q _=>?_,
  fun b xs q=>by rw [aO (hm b _ q fun z=>z)]; exact q,fun b u xs q=>by rw [aO (hm b _ q fun z=>z)]; exact q,fun b ps q=>⟨#[],by rw [aO (hm b _ q fun z=>z),q]; simp⟩⟩
 by_cases hbe:b=e
 ·subst hbe; exact heo
 ·exact⟨u,k b u hbe q⟩
end
def trk(h:Heap)(H:Hp):List Addr:=(List.range h.objs.size).filter fun a=>(H a).isSome
def ij(h:Heap)(H:Hp):Heap:=PySem.W.hideAll h (trk h H)
theorem hidT_size(h:Heap)(H:Hp):(ij h H).objs.size=h.objs.size:=PySem.W.hideAll_size _ _
theorem hidT_get{h:Heap}{H:Hp}{b:Addr}{o:Obj}(e:h.get? b=some o)(n:H b=none):(ij h H).get? b=some o:=
 PySem.W.hideAll_get _ e fun hm=>by
  have q:(H b).isSome=true:=(List.mem_filter.mp hm).2
  rw [n] at q; simp at q
theorem of_hidT{h:Heap}{H:Hp}{b:Addr}{o:Obj}(e:(ij h H).get? b=some o):h.get? b=some o/\H b=none:=by
 have e':h.get? b=some o:=PySem.W.of_hideAll (trk h H) e
 refine⟨e',?_⟩
 cases q:H b with
 | none=>rfl
 | some x=>
   have hm:b∈trk h H:=List.mem_filter.mpr ⟨List.mem_range.mpr (Heap.lt_size e'),by simp [q]⟩
   have z:(ij h H).get? b=none:=PySem.W.hideAll_none (trk h H) hm
   rw [z] at e; cases e
end L2
namespace L2
open PySem PySem.Spec PyProof.Rows
structure Mod(K:PySem.W.Frag)(mg:Str->Option Value)(base:Heap):Prop where
 kin:K.In base
 glob:base.Ns mainGlobals mg
 blt:∃mb,base.Ns builtinsNs mb/\∀x:Str,x≠"__name__"->mb x=bootBuiltins x
 nolimit:base.NoLimit
 seer:base.NoSeer
def HeadOk(l:List Env):Prop:=∃e r,l=e::r/\e.scope.isGenerator=false/\e.scope.isCoroutine=false/\e.builtins=builtinsNs/\e.globals=mainGlobals
structure Cx where
 prog:Program
 w:World
 K:PySem.W.Frag
 mg:Str->Option Value
 base:Heap
 A:Around
 N:List Str
 s_0:Shared
 H_0:Hp
 env:Env
 outer:List Env
 stack:List Env
 ex:List Addr
 fn:Str->Bool
 calm:Bool
 pn:List (Addr × Obj)
 xe:Value->Shared->Prop
def frs(l:List Env):List Addr:=l.filterMap (·.frame)
abbrev Cx.fs(X:Cx):List Addr:=frs X.outer
def Vis(sc:Scope)(x:Str):Prop:=sc.names.lookup x=some .local\/sc.names.lookup x=some .cell\/sc.names.lookup x=some .free
def Loc(sc:Scope)(x:Str):Prop:=sc.names.lookup x=some .local\/sc.names.lookup x=some .cell
def Look(env:Env)(h:Heap)(m:Str->Option Value)(x:Str)(u:Value):Prop:=
 (env.kindOf x=some .local/\m x=some u)\/((env.kindOf x=some .cell\/env.kindOf x=some .free)/\∃c,env.cells.lookup x=some c/\h.IsCell c (some u))
structure Cx.Ok(X:Cx):Prop where
 mod:Mod X.K X.mg X.base
 kind:X.env.scope.kind=.function
 glob:X.env.globals=mainGlobals
 blt:X.env.builtins=builtinsNs
 above:X.s_0.heap.objs.size<=X.env.locals
 inj:∀x y c,X.env.cells.lookup x=some c->X.env.cells.lookup y=some c->x=y
 has:∀x,(X.env.kindOf x=some .cell\/X.env.kindOf x=some .free)->∃c,X.env.cells.lookup x=some c
 cab:∀x c,X.fn x=true->X.env.cells.lookup x=some c->X.s_0.heap.objs.size<=c
 hd:X.calm=true->X.A.handled=none
 frames:X.A.frames=some X.stack
 stk:X.stack=X.outer\/(X.stack=X.env::X.outer/\X.env.frame=some X.env.locals)
 exf:∀b∈X.ex,b≠X.env.locals/\∀x c,X.env.cells.lookup x=some c->c≠b
 bs:∀b o,X.base.get? b=some o->X.s_0.heap.get? b=some o/\X.H_0 b=none
 bsz:X.base.objs.size<=X.s_0.heap.objs.size
 noex:∀b o,X.base.get? b=some o->b∉X.ex
 exfs:∀b∈X.ex,b∉X.fs
 funs:X.s_0.heap.FunFrames X.base X.outer
 frf:∀b∈X.fs,X.H_0 b=none
 hst:HeadOk X.stack
structure Inv(X:Cx)(pins:List (Addr × Obj))(σ:List (Option V))(H:Hp)(s:Shared):Prop where
 ok:X.Ok
 os:s.os=X.s_0.os
 bare:AllBare s.gens
 base:Un X.fs X.ex X.H_0 H X.s_0.heap s.heap
 loc:∃m,s.heap.Ns X.env.locals m/\∀(i:Nat)(x:Str)(v:V),X.N[i]? =some x->σ[i]? =some (some v)->Vis X.env.scope x->∃u,RelV v u/\Look X.env s.heap m x u
 cell:∀x c,X.env.cells.lookup x=some c->∃v,s.heap.IsCell c v
 free:H X.env.locals=none
 freeC:∀x c,X.env.cells.lookup x=some c->H c=none
 pin:∀p∈X.pn++pins,s.heap.get? p.1=some p.2/\H p.1=none/\p.1≠X.env.locals/\p.1∉X.fs/\∀v,p.2.data≠.cell v
 hok:HOk X.prog X.w H s.heap
 len:σ.length=X.N.length
section
variable{X:Cx}{pins:List (Addr × Obj)}{σ:List (Option V)}{H H':Hp}{s:Shared}{h':Heap}
theorem Cx.Ok.nofr(ok:X.Ok){b:Addr}{o:Obj}(e:X.base.get? b=some o):b∉X.fs:=fun hb=>by
 have:=(ok.funs.mem hb).1
 rw [e] at this; cases this
theorem Inv.bs(I:Inv X pins σ H s):∀b o,X.base.get? b=some o->s.heap.get? b=some o/\H b=none:=fun b o e=>
 ⟨I.base.keep b o (I.ok.bs b o e).1 (I.ok.bs b o e).2 (I.ok.nofr e) (I.ok.noex b o e),I.base.free b o (I.ok.bs b o e).1 (I.ok.bs b o e).2 (I.ok.noex b o e)⟩
theorem Inv.bk(I:Inv X pins σ H s):∀b o,X.base.get? b=some o->s.heap.get? b=some o:=fun b o e=>(I.bs b o e).1
theorem Inv.mod(I:Inv X pins σ H s):Mod X.K X.mg X.base:=I.ok.mod
theorem Inv.kIn(I:Inv X pins σ H s):X.K.In s.heap:=I.ok.mod.kin.keeps I.bk
theorem Inv.nolimit(I:Inv X pins σ H s):s.heap.NoLimit:=I.ok.mod.nolimit.keeps I.bk
theorem Inv.fr(I:Inv X pins σ H s):∃m,Fr X.base X.env.locals s.heap m:=
 let ⟨m,hn,_⟩:=I.loc
 ⟨m,hn,I.bk,Nat.le_trans I.ok.bsz I.ok.above⟩
theorem Inv.lt(I:Inv X pins σ H s):X.env.locals<s.heap.objs.size:=let ⟨_,hn,_⟩:=I.loc; hn.lt
theorem Inv.sz(I:Inv X pins σ H s):X.s_0.heap.objs.size<=s.heap.objs.size:=Nat.le_trans I.ok.above (Nat.le_of_lt I.lt)
theorem Inv.nofs(I:Inv X pins σ H s){a:Addr}(h:s.heap.objs.size<=a):a∉X.fs:=fun hb=>by
 obtain⟨_,o,ho,_⟩:=I.ok.funs.mem hb
 exact absurd (Nat.lt_of_lt_of_le (Heap.lt_size ho) (Nat.le_trans I.sz h)) (Nat.lt_irrefl _)
theorem Inv.cne(I:Inv X pins σ H s):∀x c,X.env.cells.lookup x=some c->c≠X.env.locals:=fun x c e z=>by
 obtain⟨v,o,ho,hd⟩:=I.cell x c e
 obtain⟨m,⟨o',es,ep,ho',hd',_⟩,_⟩:=I.loc
 rw [z,ho'] at ho; cases ho; rw [hd'] at hd; cases hd
theorem Inv.funs(I:Inv X pins σ H s):s.heap.FunFrames X.base X.outer:=by
 have all:∀(l:List Env),(∀b∈frs l,b∈X.fs)->X.s_0.heap.FunFrames X.base l->s.heap.FunFrames X.base l:=by
  intro l
  induction l with
  | nil=>intro _ _; trivial
  | cons env r ih=>
    intro hs hl
    obtain⟨hk,⟨L,o,hf,hn,ho,hd⟩,hr⟩:=hl
    have hL:L∈X.fs:=hs L (by unfold frs; rw [List.filterMap_cons,hf]; exact List.mem_cons_self)
    obtain⟨sl,e⟩:=I.base.slot L o ho (I.ok.frf L hL) hL fun z=>I.ok.exfs L z hL
    exact⟨hk,⟨L,_,hf,hn,e,hd⟩,ih (fun b hb=>hs b (by unfold frs; rw [List.filterMap_cons,hf]; exact List.mem_cons_of_mem _ hb)) hr⟩
 exact all X.outer (fun _ hb=>hb) I.ok.funs
theorem Inv.stack(I:Inv X pins σ H s):s.heap.FunFrames X.base X.stack:=by
 rcases I.ok.stk with e | ⟨e,hf⟩
 ·rw [e]; exact I.funs
 ·rw [e]
  obtain⟨m,hn,_⟩:=I.loc
  refine .cons (by rw [I.ok.kind]; decide) hf hn ?_ I.funs
  exact Heap.get?_none_of_le (Nat.le_trans I.ok.bsz I.ok.above)
theorem Inv.stkSub(I:Inv X pins σ H s):∀b∈frs X.stack,b∈X.env.locals::X.fs:=fun b hb=>by
 rcases I.ok.stk with e | ⟨e,hf⟩
 ·rw [e] at hb; exact List.mem_cons_of_mem _ hb
 ·rw [e] at hb
  unfold frs at hb
  rw [List.filterMap_cons,hf] at hb
  exact hb
theorem Inv.stkFree(I:Inv X pins σ H s):∀b∈frs X.stack,H b=none:=fun b hb=>by
 rcases List.mem_cons.mp (I.stkSub b hb) with e | hb
 ·rw [e]; exact I.free
 ·obtain⟨_,o,ho,_⟩:=I.ok.funs.mem hb
  exact I.base.free b o ho (I.ok.frf b hb) fun z=>I.ok.exfs b z hb
theorem Inv.step{g':Array GenState}{t':Nat}{d':Drawn}{ch:List Addr}(I:Inv X pins σ H s)
  (hch:∀b∈ch,(b∈X.ex\/X.s_0.heap.objs.size<=b)/\b≠X.env.locals/\(∀x c,X.env.cells.lookup x=some c->c≠b)/\∀p∈X.pn++pins,p.1≠b)
  (keep:∀b o,b≠X.env.locals->b∉X.fs->b∉ch->s.heap.get? b=some o->H b=none->h'.get? b=some o)
  (slot:∀b o,b≠X.env.locals->b∈X.fs->b∉ch->s.heap.get? b=some o->H b=none->∃sl,h'.get? b=some {o with slots:=sl}) (free:∀b o,b∉ch->s.heap.get? b=some o->H b=none->H' b=none)
  (there:∀b o,b∉ch->s.heap.get? b=some o->∃o',h'.get? b=some o')
  (tups:∀b xs,H b=some (.tup xs)->H' b=some (.tup xs)) (frzs:∀b o u,H b=some (.frz o u)->H' b=some (.frz o u)) (tbls:∀b ps,H b=some (.tbl ps)->∃more,H' b=some (.tbl (ps++more)))
  (ns:∀m,s.heap.Ns X.env.locals m->h'.Ns X.env.locals m) (hok:HOk X.prog X.w H' h') (hg:AllBare g') :
  Inv X pins σ H' {s with heap:=h',gens:=g',drawn:=d',toks:=t'}:=by
 have neL:∀b o,X.s_0.heap.get? b=some o->b≠X.env.locals:=fun b o e=>Nat.ne_of_lt (Nat.lt_of_lt_of_le (Heap.lt_size e) I.ok.above)
 have neC:∀b o,X.s_0.heap.get? b=some o->b∉X.ex->b∉ch:=fun b o e hx hb=>by
  rcases(hch b hb).1 with z | z
  ·exact hx z
  ·exact absurd (Nat.lt_of_lt_of_le (Heap.lt_size e) z) (Nat.lt_irrefl _)
 have cellK:∀x c,X.env.cells.lookup x=some c->∀v,s.heap.IsCell c v->h'.IsCell c v:=fun x c e v ⟨o,ho,hd⟩=>by
  have nch:c∉ch:=fun z=>(hch c z).2.2.1 x c e rfl
  by_cases hc:c∈X.fs
  ·obtain⟨sl,q⟩:=slot c o (I.cne x c e) hc nch ho (I.freeC x c e)
   exact⟨_,q,hd⟩
  ·exact⟨o,keep c o (I.cne x c e) hc nch ho (I.freeC x c e),hd⟩
 refine⟨I.ok,I.os,hg,⟨fun b o e n hb hx=>?_,fun b o e n hb hx=>?_,fun b o e n hx=>?_,fun b o e hx=>?_,fun b xs e=>tups b xs (I.base.tups b xs e),fun b o xs e=>frzs b o xs (I.base.frzs b o xs e),fun b ps e=>?_⟩,?_,fun x c e=>?_,?_,fun x c e=>?_,fun p hp=>?_,hok,I.len⟩
 ·exact keep b o (neL b o e) hb (neC b o e hx) (I.base.keep b o e n hb hx) (I.base.free b o e n hx)
 ·obtain⟨sl,e1⟩:=I.base.slot b o e n hb hx
  obtain⟨sl',e2⟩:=slot b _ (neL b o e) hb (neC b o e hx) e1 (I.base.free b o e n hx)
  exact⟨sl',e2⟩
 ·obtain⟨o',e1⟩:=I.base.there b o e hx
  exact free b o' (neC b o e hx) e1 (I.base.free b o e n hx)
 ·obtain⟨o',e1⟩:=I.base.there b o e hx
  exact there b o' (neC b o e hx) e1
 ·obtain⟨m1,e1⟩:=I.base.tbls b ps e
  obtain⟨m2,e2⟩:=tbls b _ e1
  exact⟨m1++m2,by rw [e2,Array.append_assoc]⟩
 ·obtain⟨m,hn,hl⟩:=I.loc
  refine⟨m,ns m hn,fun i x v e1 e2 e3=>?_⟩
  obtain⟨u,r,l⟩:=hl i x v e1 e2 e3
  refine⟨u,r,?_⟩
  rcases l with l | ⟨k,c,e,z⟩
  ·exact .inl l
  ·exact .inr ⟨k,c,e,cellK x c e _ z⟩
 ·obtain⟨v,z⟩:=I.cell x c e
  exact⟨v,cellK x c e v z⟩
 ·obtain⟨m,⟨o,_,_,ho,_⟩,_⟩:=I.loc
  exact free _ o (fun z=>(hch _ z).2.1 rfl) ho I.free
 ·obtain⟨v,o,ho,hd⟩:=I.cell x c e
  exact free c o (fun z=>(hch c z).2.2.1 x c e rfl) ho (I.freeC x c e)
 ·obtain⟨e,n,ne,nf,d⟩:=I.pin p hp
  have nch:p.1∉ch:=fun z=>(hch p.1 z).2.2.2 p hp rfl
  exact⟨keep p.1 p.2 ne nf nch e n,free p.1 p.2 nch e n,ne,nf,d⟩
theorem Inv.un{t':Nat}(I:Inv X pins σ H s)(u:Un X.fs [] H H' s.heap h')(hok:HOk X.prog X.w H' h'):Inv X pins σ H' {s with heap:=h',toks:=t'}:=by
 obtain⟨m,⟨o,es,ep,ho,r⟩,_⟩:=id I.loc
 obtain⟨sl,hL⟩:=u.any ho I.free (by simp)
 exact I.step (g':=s.gens) (d':=s.drawn) (ch:=[]) (fun _ z=>nomatch z) (fun b o _ hb _ e n=>u.keep b o e n hb (by simp)) (fun b o _ hb _ e n=>u.slot b o e n hb (by simp)) (fun b o _ e n=>u.free b o e n (by simp)) (fun b o _ e=>u.there b o e (by simp)) u.tups u.frzs u.tbls (fun m' hm=>by
  obtain⟨o',es',ep',ho',r'⟩:=hm
  rw [ho] at ho'; cases ho'
  exact⟨_,es',ep',hL,r'⟩) hok I.bare
theorem Inv.call{g':Array GenState}{t':Nat}{d':Drawn}{ch:List Addr}(I:Inv X pins σ H s)(u:Un (frs X.stack) ch H H' s.heap h')(hok:HOk X.prog X.w H' h')(hg:AllBare g')
  (hch:∀b∈ch,(b∈X.ex\/X.s_0.heap.objs.size<=b)/\b≠X.env.locals/\(∀x c,X.env.cells.lookup x=some c->c≠b)/\∀p∈X.pn++pins,p.1≠b) :
  Inv X pins σ H' {s with heap:=h',gens:=g',drawn:=d',toks:=t'}:=by
 obtain⟨m,⟨o,es,ep,ho,r⟩,_⟩:=id I.loc
 obtain⟨sl,hL⟩:=u.any ho I.free fun z=>(hch _ z).2.1 rfl
 exact I.step (ch:=ch) hch (fun b o hL hb hc e n=>u.keep b o e n (fun z=>(List.mem_cons.mp (I.stkSub b z)).elim hL hb) hc) (fun b o _ _ hc e n=>u.any e n hc) (fun b o hc e n=>u.free b o e n hc) (fun b o hc e=>u.there b o e hc) u.tups u.frzs u.tbls (fun m' hm=>by
  obtain⟨o',es',ep',ho',r'⟩:=hm
  rw [ho] at ho'; cases ho'
  exact⟨_,es',ep',hL,r'⟩) hok hg
theorem Inv.turned{t':Nat}{it:Addr}(I:Inv X pins σ H s)(k:∀b o,b≠it->s.heap.get? b=some o->h'.get? b=some o)(hn:H it=none)(hL:it≠X.env.locals)
  (h1:it∈X.ex\/X.s_0.heap.objs.size<=it) (h2:∀x c,X.env.cells.lookup x=some c->c≠it) (h3:∀p∈X.pn++pins,p.1≠it):Inv X pins σ H {s with heap:=h',toks:=t'}:=by
 have nit:∀b u,H b=some u->b≠it:=fun b u e z=>by rw [z,hn] at e; cases e
 refine I.step (g':=s.gens) (d':=s.drawn) (ch:=[it]) (fun b hb=>?_) (fun b o _ _ hc e _=>k b o (fun z=>hc (by simp [z])) e) (fun b o _ _ hc e _=>⟨o.slots,k b o (fun z=>hc (by simp [z])) e⟩) (fun _ _ _ _ n=>n)
  (fun b o hc e=>⟨o,k b o (fun z=>hc (by simp [z])) e⟩) (fun _ _ e=>e) (fun _ _ _ e=>e) (fun b ps e=>⟨#[],by rw [e]; simp⟩) (fun m hm=>?_) (fun b u e=>?_) I.bare
 ·have e:b=it:=by simpa using hb
  subst e
  exact⟨h1,hL,h2,h3⟩
 ·obtain⟨o,es,ep,ho,r⟩:=hm
  exact⟨o,es,ep,k _ o (Ne.symm hL) ho,r⟩
 ·refine(I.hok b u e).stay (fun c v hc q=>k c v ?_ q) (fun _ q=>q) fun _ _ q=>q
  rcases hc with z | z
  ·rw [z]; exact nit b u e
  ·exact nit c _ z
theorem Inv.tok(I:Inv X pins σ H s)(t:Nat):Inv X pins σ H {s with toks:=t}:=I.un (h':=s.heap) (t':=t) Un.refl I.hok
theorem Inv.kept{t':Nat}(I:Inv X pins σ H s)(k:∀b u,s.heap.get? b=some u->h'.get? b=some u):Inv X pins σ H {s with heap:=h',toks:=t'}:=I.un (Un.kept k) (I.hok.kept k)
theorem Inv.laid{a:Addr}{o:HO}{t':Nat}(I:Inv X pins σ H s)(k:∀b u,s.heap.get? b=some u->h'.get? b=some u)(hp:s.heap.objs.size<=a)(new:dP X.prog X.w (upd H a o) h' a o) :
  Inv X pins σ (upd H a o) {s with heap:=h',toks:=t'}:=I.un (Un.laid k hp (I.hok.fresh hp)) (I.hok.laid k hp new)
theorem Inv.write{x e:Addr}{o:HO}{t':Nat}(I:Inv X pins σ H s)(mu:Mut (H x))(he:e=x\/H e=some (.own x))(k:∀b u,b≠e->s.heap.get? b=some u->h'.get? b=some u)(heo:∃u,h'.get? e=some u)
  (new:dP X.prog X.w (upd H x o) h' x o):Inv X pins σ (upd H x o) {s with heap:=h',toks:=t'}:=I.un (Un.write mu he k heo) (I.hok.write mu he k heo new)
theorem Inv.weak{σ':List (Option V)}(I:Inv X pins σ H s)(hl:σ'.length=σ.length)(w:∀(i:Nat) v,σ'[i]? =some (some v)->σ[i]? =some (some v)):Inv X pins σ' H s:=
 ⟨I.ok,I.os,I.bare,I.base,let ⟨m,hn,hl'⟩:=I.loc; ⟨m,hn,fun i x v e1 e2 e3=>hl' i x v e1 (w i v e2) e3⟩,I.cell,I.free,I.freeC,I.pin,I.hok,hl.trans I.len⟩
theorem Inv.pins_of{pins':List (Addr × Obj)}(I:Inv X pins σ H s)(h:∀p∈pins',s.heap.get? p.1=some p.2/\H p.1=none/\p.1≠X.env.locals/\p.1∉X.fs/\∀v,p.2.data≠.cell v):Inv X pins' σ H s:=
 ⟨I.ok,I.os,I.bare,I.base,I.loc,I.cell,I.free,I.freeC,fun p hp=>(List.mem_append.mp hp).elim (fun z=>I.pin p (List.mem_append_left _ z)) (h p),I.hok,I.len⟩
theorem nodup_ix{N:List Str}(hN:N.Nodup){i j:Nat}{x:Str}(a:N[i]? =some x)(b:N[j]? =some x):i=j:=by
 obtain⟨h1,e1⟩:=List.getElem?_eq_some_iff.mp a
 obtain⟨h2,e2⟩:=List.getElem?_eq_some_iff.mp b
 exact(List.getElem_inj hN).mp (e1.trans e2.symm)
theorem store_ok2{M:Model}{A:Around}{E:Value->Shared->Prop}{i:Nat}{x:Str}{v:V}{u:Value}{Q:Unit->Shared->Prop}(I:Inv X pins σ H s)(hN:X.N.Nodup)(hi:X.N[i]? =some x)(hx:Loc X.env.scope x)(r:RelV v u)
  (h:∀s',Inv X pins (σ.set i (some v)) H s'->(∃a,Heap.SameBut a s.heap s'.heap/\(a=X.env.locals\/X.env.cells.lookup x=some a))->Q () s') (hf:X.fn x=true\/X.env.scope.names.lookup x=some .local:=by first | exact .inl rfl | exact .inr rfl | assumption):wpAny M A (storeName X.env x u) Q E s:=by
 obtain⟨m,hn,hl⟩:=id I.loc
 have hcls:(X.env.scope.kind == .class || (X.env.scope.kind == .module && X.env.locals != X.env.globals))=false:=by rw [I.ok.kind]; rfl
 have hiσ:i<σ.length:=by rw [I.len]; exact(List.getElem?_eq_some_iff.mp hi).1
 have cne:=I.cne
 have tracked:∀{a:Addr}{h':Heap},(∃o,s.heap.get? a=some o/\H a=none)->Heap.SameBut a s.heap h'->HOk X.prog X.w H h':=fun{a h'} ha hs b ob e=>by
  obtain⟨_,_,hfree⟩:=ha
  refine(I.hok b ob e).stay (fun c w' hc q=>(hs.2 c ?_).trans q) (fun _ q=>q) fun _ _ q=>q
  rintro rfl
  rcases hc with rfl | hc
  ·rw [hfree] at e; cases e
  ·rw [hfree] at hc; cases hc
 rcases hx with hk | hk
 ·refine wpAny_storeName_local hk hn (fun h' hn' hs=>?_) hcls
  obtain⟨oL,_,_,hoL,_⟩:=id hn
  refine h _ ⟨I.ok,I.os,I.bare,⟨fun b o e n hb hx=>?_,fun b o e n hb hx=>?_,I.base.free,fun b o e hx=>?_,I.base.tups,I.base.frzs,I.base.tbls⟩,⟨_,hn',fun j y v' e1 e2 e3=>?_⟩,fun y c e=>?_,I.free,I.freeC,fun p hp=>?_,tracked ⟨oL,hoL,I.free⟩ hs,by simpa using I.len⟩ ⟨_,hs,.inl rfl⟩
  ·exact(hs.2 b (Nat.ne_of_lt (Nat.lt_of_lt_of_le (Heap.lt_size e) I.ok.above))).trans (I.base.keep b o e n hb hx)
  ·obtain⟨sl,e1⟩:=I.base.slot b o e n hb hx
   exact⟨sl,(hs.2 b (Nat.ne_of_lt (Nat.lt_of_lt_of_le (Heap.lt_size e) I.ok.above))).trans e1⟩
  ·obtain⟨o',e1⟩:=I.base.there b o e hx
   exact⟨o',(hs.2 b (Nat.ne_of_lt (Nat.lt_of_lt_of_le (Heap.lt_size e) I.ok.above))).trans e1⟩
  ·by_cases hj:j=i
   ·subst hj
    rw [hi] at e1; cases e1
    rw [List.getElem?_set_self hiσ] at e2
    cases e2
    exact⟨u,r,.inl ⟨hk,by simp⟩⟩
   ·rw [List.getElem?_set_ne (Ne.symm hj)] at e2
    obtain⟨u',r',q⟩:=hl j y v' e1 e2 e3
    refine⟨u',r',?_⟩
    rcases q with⟨k,e⟩ | ⟨k,c,e,z⟩
    ·refine .inl ⟨k,?_⟩
     have:y≠x:=fun e=>hj (nodup_ix hN e1 (e ▸hi))
     simp [this,e]
    ·exact .inr ⟨k,c,e,z.sameBut hs (cne y c e)⟩
  ·obtain⟨w',z⟩:=I.cell y c e
   exact⟨w',z.sameBut hs (cne y c e)⟩
  ·obtain⟨e,n,ne,nf,d⟩:=I.pin p hp
   exact⟨(hs.2 p.1 ne).trans e,n,ne,nf,d⟩
 ·have hfn:X.fn x=true:=by
   rcases hf with z | z
   ·exact z
   ·rw [z] at hk; cases hk
  obtain⟨c,hc⟩:=I.ok.has x (.inl hk)
  obtain⟨w',z⟩:=I.cell x c hc
  refine wpAny_storeName_cell I.ok.kind hk hc z (fun h' hc' hs=>?_)
  obtain⟨oc,hoc,hocd⟩:=id z
  refine h {s with heap:=h'} ⟨I.ok,I.os,I.bare,⟨fun b o e n hb hx=>?_,fun b o e n hb hx=>?_,I.base.free,fun b o e hx=>?_,I.base.tups,I.base.frzs,I.base.tbls⟩,⟨m,hn.sameBut hs (Ne.symm (cne x c hc)),fun j y v' e1 e2 e3=>?_⟩,fun y c' e=>?_,I.free,I.freeC,fun p hp=>?_,tracked ⟨oc,hoc,I.freeC x c hc⟩ hs,by simpa using I.len⟩ ⟨c,hs,.inr hc⟩
  ·exact(hs.2 b (Nat.ne_of_lt (Nat.lt_of_lt_of_le (Heap.lt_size e) (I.ok.cab x c hfn hc)))).trans (I.base.keep b o e n hb hx)
  ·obtain⟨sl,e1⟩:=I.base.slot b o e n hb hx
   exact⟨sl,(hs.2 b (Nat.ne_of_lt (Nat.lt_of_lt_of_le (Heap.lt_size e) (I.ok.cab x c hfn hc)))).trans e1⟩
  ·obtain⟨o',e1⟩:=I.base.there b o e hx
   exact⟨o',(hs.2 b (Nat.ne_of_lt (Nat.lt_of_lt_of_le (Heap.lt_size e) (I.ok.cab x c hfn hc)))).trans e1⟩
  ·by_cases hj:j=i
   ·subst hj
    rw [hi] at e1; cases e1
    rw [List.getElem?_set_self hiσ] at e2
    cases e2
    exact⟨u,r,.inr ⟨.inl hk,c,hc,hc'⟩⟩
   ·rw [List.getElem?_set_ne (Ne.symm hj)] at e2
    obtain⟨u',r',q⟩:=hl j y v' e1 e2 e3
    refine⟨u',r',?_⟩
    rcases q with q | ⟨k,c',e,z'⟩
    ·exact .inl q
    ·refine .inr ⟨k,c',e,z'.sameBut hs ?_⟩
     rintro rfl
     exact hj (nodup_ix hN e1 (I.ok.inj _ _ _ e hc ▸hi))
  ·by_cases hcc:c'=c
   ·subst hcc; exact⟨_,hc'⟩
   ·obtain⟨w2,z2⟩:=I.cell y c' e
    exact⟨w2,z2.sameBut hs hcc⟩
  ·obtain⟨e,n,ne,nf,d⟩:=I.pin p hp
   refine⟨(hs.2 p.1 ?_).trans e,n,ne,nf,d⟩
   intro q
   rw [q,hoc] at e
   have q':oc=p.2:=Option.some.inj e
   exact d w' (by rw [<- q']; exact hocd)
theorem store_ok{M:Model}{A:Around}{E:Value->Shared->Prop}{i:Nat}{x:Str}{v:V}{u:Value}{Q:Unit->Shared->Prop}(I:Inv X pins σ H s)(hN:X.N.Nodup)(hi:X.N[i]? =some x)(hx:Loc X.env.scope x)(r:RelV v u)
  (h:∀s',Inv X pins (σ.set i (some v)) H s'->Q () s') (hf:X.fn x=true\/X.env.scope.names.lookup x=some .local:=by first | exact .inl rfl | exact .inr rfl | assumption):wpAny M A (storeName X.env x u) Q E s:=
 store_ok2 I hN hi hx r (fun s' I' _=>h s' I') hf
theorem Inv.call'{s':Shared}{ch:List Addr}(I:Inv X pins σ H s)(ho:s'.os=s.os)(u:Un (frs X.stack) ch H H' s.heap s'.heap)(hok:HOk X.prog X.w H' s'.heap)(hg:AllBare s'.gens)
  (hch:∀b∈ch,(b∈X.ex\/X.s_0.heap.objs.size<=b)/\b≠X.env.locals/\(∀x c,X.env.cells.lookup x=some c->c≠b)/\∀p∈X.pn++pins,p.1≠b):Inv X pins σ H' s':=by
 obtain⟨h',g',d',t',o'⟩:=s'
 have e:o'=s.os:=ho
 subst e
 exact I.call (g':=g') (t':=t') (d':=d') u hok hg hch
end
abbrev XK:=Value->Option Addr->Hp->Prop
abbrev St:=List (Option V)
abbrev VK:=V->Hp->Prop
abbrev TE:=St->Hp->VK->Prop
abbrev TT:=St->Hp->(Bool->Hp->Prop)->Prop
abbrev TA:=St->Hp->(List V->Hp->Prop)->Prop
structure Ends where
 nx:St->Hp->Prop
 rt:VK
 bk:St->Hp->Prop:=fun _ _=>False
 ct:St->Hp->Prop:=fun _ _=>False
abbrev TS:=Ends->St->Hp->Prop
def EP(X:Cx)(pins:List (Addr × Obj))(σ:St)(Q:VK)(u:Value)(s':Shared):Prop:=∃v H',Inv X pins σ H' s'/\RelV v u/\Q v H'
def TP(X:Cx)(pins:List (Addr × Obj))(σ:St)(Q:Bool->Hp->Prop)(b:Bool)(s':Shared):Prop:=∃H',Inv X pins σ H' s'/\Q b H'
def AP(X:Cx)(pins:List (Addr × Obj))(σ:St)(Q:List V->Hp->Prop)(us:List Value)(s':Shared):Prop:=∃vs H',Inv X pins σ H' s'/\ay vs us/\Q vs H'
def SP(X:Cx)(pins:List (Addr × Obj))(D:Ends)(f:Flow)(s':Shared):Prop:=
 match f with
 | .next=>∃σ' H',Inv X pins σ' H' s'/\D.nx σ' H'
 | .brk=>∃σ' H',Inv X pins σ' H' s'/\D.bk σ' H'
 | .cont=>∃σ' H',Inv X pins σ' H' s'/\D.ct σ' H'
 | .ret u=>∃v σ' H',Inv X pins σ' H' s'/\RelV v u/\D.rt v H'
def PE(X:Cx)(e:Expr)(t:TE):Prop:=
 ∀(pins:List (Addr × Obj))(s:Shared)(σ:St)(H:Hp)(Q:VK),Inv X pins σ H s->t σ H Q->wpAny (model X.prog X.w) X.A (eval e X.env) (EP X pins σ Q) X.xe s
def PT(X:Cx)(e:Expr)(t:TT):Prop:=
 ∀(pins:List (Addr × Obj))(s:Shared)(σ:St)(H:Hp)(Q:Bool->Hp->Prop),Inv X pins σ H s->t σ H Q->wpAny (model X.prog X.w) X.A (isTrue e X.env (eval e X.env)) (TP X pins σ Q) X.xe s
def PW(X:Cx)(e:Expr)(t:TT):Prop:=
 ∀(whole:Sem Value)(pins:List (Addr × Obj))(s:Shared)(σ:St)(H:Hp)(Q:Bool->Hp->Prop),Inv X pins σ H s->t σ H Q->wpAny (model X.prog X.w) X.A (isTrue e X.env whole) (TP X pins σ Q) X.xe s
theorem PW.pt{X:Cx}{e:Expr}{t:TT}(h:PW X e t):PT X e t:=h _
def PA(X:Cx)(es:List Expr)(t:TA):Prop:=
 ∀(pos:Pos)(pins:List (Addr × Obj))(s:Shared)(σ:St)(H:Hp)(Q:List V->Hp->Prop),Inv X pins σ H s->t σ H Q->wpAny (model X.prog X.w) X.A (spliced (backTo pos (starEach es X.env))) (AP X pins σ Q) X.xe s
def PS(X:Cx)(st:Stmt)(t:TS):Prop:=
 ∀(pins:List (Addr × Obj))(s:Shared)(σ:St)(H:Hp)(D:Ends),Inv X pins σ H s->t D σ H->wpAny (model X.prog X.w) X.A (exec st X.env) (SP X pins D) X.xe s
def PSs(X:Cx)(st:List Stmt)(t:TS):Prop:=
 ∀(pins:List (Addr × Obj))(s:Shared)(σ:St)(H:Hp)(D:Ends),Inv X pins σ H s->t D σ H->wpAny (model X.prog X.w) X.A (execs st X.env) (SP X pins D) X.xe s
theorem thn{α:Type}{t:Sem α}{Q Q':α->Shared->Prop}{M:Model}{A:Around}{E:Value->Shared->Prop}{s:Shared}(h:wpAny M A t Q E s)(hQ:∀a s,Q a s->Q' a s):wpAny M A t Q' E s:=wpAny_mono h hQ fun _ _ x=>x
end L2
namespace L2
open PySem PySem.Spec PyProof.Rows
section
variable{X:Cx}
theorem bin{a b:Expr}{ta tb:TE}(ha:PE X a ta)(hb:PE X b tb){pins:List (Addr × Obj)}{s:Shared}{σ:St}{H:Hp}{R:V->V->Hp->Prop}(I:Inv X pins σ H s)(h:ta σ H fun x H1=>tb σ H1 fun y H2=>R x y H2)
  {α:Type} {Q:α->Shared->Prop} {f:Value->Value->Sem α}
  (hf:∀v u s2 x y H2,Inv X pins σ H2 s2->RelV x v->RelV y u->R x y H2->wpAny (model X.prog X.w) X.A (f v u) Q X.xe s2) :
  wpAny (model X.prog X.w) X.A (eval a X.env) (fun v s₁=>wpAny (model X.prog X.w) X.A (eval b X.env) (fun u s₂=>wpAny (model X.prog X.w) X.A (f v u) Q X.xe s₂) X.xe s₁) X.xe s:=by
 refine thn (ha pins s σ H _ I h) fun v s1 ⟨x,H1,I1,r1,q1⟩=>?_
 refine thn (hb pins s1 σ H1 _ I1 q1) fun u s2 ⟨y,H2,I2,r2,q2⟩=>?_
 exact hf v u s2 x y H2 I2 r1 r2 q2
def gv(i:Nat):TE:=fun σ H Q=>∃v,σ[i]? =some (some v)/\Q v H
def tC(v:V):TE:=fun _ H Q=>Q v H
theorem pe_var{i:Nat}{x:Str}{pos:Pos}(hN:X.N[i]? =some x)(hv:Vis X.env.scope x)(hd:(x == ("__debug__":Str))=false:=by decide)(hcd:(x == ("__classdict__":Str))=false:=by decide):PE X (.Name x pos) (gv i):=by
 intro pins s σ H Q I h
 obtain⟨v,e,h⟩:=h
 obtain⟨m,hn,hl⟩:=I.loc
 obtain⟨u,r,l⟩:=hl i x v hN e hv
 have fin:EP X pins σ Q u s:=⟨v,H,I,r,h⟩
 rcases l with⟨hk,hm⟩ | ⟨hk,c,hc,hcell⟩
 ·exact wpAny_Name (wpAny_loadName_local I.ok.kind hk hn hm fin) hd
 ·rcases hk with hk | hk
  ·exact wpAny_Name (wpAny_loadName_cell I.ok.kind hk hc hcell fin) hd
  ·exact wpAny_Name (wpAny_loadName_free I.ok.kind hk hc hcell fin hcd) hd
theorem aQ{i j pos}:PE X (.Constant (.int i) j pos) (tC (.int i)):=fun _ _ _ H _ I h=>wpAny_Constant_int ⟨.int i,H,I.tok _,⟨_,rfl⟩,h⟩
theorem pe_bl{b j pos}:PE X (.Constant (.bool b) j pos) (tC (.bl b)):=fun _ _ _ H _ I h=>Constant_bool ⟨.bl b,H,I,rfl,h⟩
theorem pe_non{j pos}:PE X (.Constant .none j pos) (tC .non):=fun _ _ _ H _ I h=>Constant_none ⟨.non,H,I,rfl,h⟩
theorem cy{x j pos}:PE X (.Constant (.str x) j pos) (tC (.str x)):=fun _ _ _ H _ I h=>Calls.Constant_str ⟨.str x,H,I.tok _,⟨_,rfl⟩,h⟩
def Gl(X:Cx)(x:Str):Prop:=X.env.kindOf x=some .globalImplicit
theorem iC{E:Value->Shared->Prop}{pins:List (Addr × Obj)}{s:Shared}{σ:St}{H:Hp}{x:Str}{u:Value}{pos:Pos}{Q:Value->Shared->Prop}(I:Inv X pins σ H s)(hg:Gl X x)(hm:X.mg x=some u)(h:Q u s)
  (hd:(x == ("__debug__":Str))=false:=by decide):wpAny (model X.prog X.w) X.A (eval (.Name x pos) X.env) Q E s:=
 Calls.Name_function_global I.ok.kind hg (Calls.loadGlobal_global (by rw [I.ok.glob]; exact I.mod.glob.keeps I.bk) hm h) hd
theorem ii{E:Value->Shared->Prop}{pins:List (Addr × Obj)}{s:Shared}{σ:St}{H:Hp}{x:Str}{u:Value}{pos:Pos}{Q:Value->Shared->Prop}(I:Inv X pins σ H s)(hg:Gl X x)(hm:X.mg x=none)(hv:bootBuiltins x=some u)(h:Q u s)
  (hn:x≠"__name__":=by decide) (hd:(x == ("__debug__":Str))=false:=by decide):wpAny (model X.prog X.w) X.A (eval (.Name x pos) X.env) Q E s:=by
 obtain⟨mb,h1,h2⟩:=I.mod.blt
 exact Calls.Name_function_global I.ok.kind hg (Calls.loadGlobal_builtin (by rw [I.ok.glob]; exact I.mod.glob.keeps I.bk) hm (by rw [I.ok.blt]; exact h1.keeps I.bk) ((h2 x hn).trans hv) h) hd
theorem cw{x:Str}{v:V}{u:Value}{pos:Pos}(hg:Gl X x)(hm:X.mg x=some u)(r:RelV v u)(hd:(x == ("__debug__":Str))=false:=by decide):PE X (.Name x pos) (tC v):=
 fun _ _ _ H _ I h=>iC I hg hm ⟨v,H,I,r,h⟩ hd
variable{a b:Expr}{ta tb:TE}{pos:Pos}
def PC(X:Cx)(op:CmpOp)(a b:Expr)(t:TE):Prop:=
 ∀(pins:List (Addr × Obj))(s:Shared)(σ:St)(H:Hp)(Q:VK),Inv X pins σ H s->t σ H Q->
  wpAny (model X.prog X.w) X.A (eval a X.env) (fun v s₁=>wpAny (model X.prog X.w) X.A (eval b X.env) (fun u s₂=>wpAny (model X.prog X.w) X.A (compareOp op v u) (EP X pins σ Q) X.xe s₂) X.xe s₁) X.xe s
theorem nobehind(b:Expr){op:CmpOp}(h:op≠.In)(h2:op≠.NotIn):behindInMarks op b=false:=by
 have e1:(op == CmpOp.In)=false:=by cases op <;> first | rfl | exact absurd rfl h
 have e2:(op == CmpOp.NotIn)=false:=by cases op <;> first | rfl | exact absurd rfl h2
 cases b <;> simp [behindInMarks,e1,e2]
def tNotN(ta:TE):TE:=fun σ H Q=>ta σ H fun x H1=>Q (.bl (!decide (x=.non))) H1
theorem RelV.none_iff{x:V}{v:Value}(r:RelV x v):(v == Value.none)=decide (x=.non):=by
 cases x with
 | non=>cases r; rfl
 | bl _=>cases r; rfl
 | int _=>obtain⟨t,rfl⟩:=r; rfl
 | str _=>obtain⟨t,rfl⟩:=r; rfl
 | byt _=>obtain⟨t,rfl⟩:=r; rfl
 | flt _=>obtain⟨t,rfl⟩:=r; rfl
 | ref _=>cases r; rfl
 | ty _=>cases r; rfl
theorem pc_notN{j pos'}(ha:PE X a ta):PC X .IsNot a (.Constant .none j pos') (tNotN ta):=by
 intro pins s σ H Q I h
 refine thn (ha pins s σ H _ I h) fun v s1 ⟨x,H1,I1,r1,q1⟩=>?_
 exact Constant_none (isnot_none_gen ⟨.bl _,H1,I1,by rw [r1.none_iff]; rfl,q1⟩)
def tB(t:TE):TT:=fun σ H Q=>t σ H fun x H1=>∃c,x=.bl c/\Q c H1
theorem pt_cmp{op:CmpOp}{t:TE}(h:PC X op a b t)(h1:behindInMarks op b=false:=by first | exact nobehind _ (by decide) (by decide) | rfl):PT X (.Compare a [op] [b] pos) (tB t):=by
 intro pins s σ H Q I hw
 refine wpAny_isTrue_Compare1 (thn (h pins s σ H _ I hw) fun v s1 h1=>thn h1 fun u s2 h2=>thn h2 fun c s3 ⟨x,H1,I1,r1,q1⟩=>?_) h1
 obtain⟨d,rfl,q⟩:=q1
 cases r1
 exact wpAny_truthy_bool ⟨H1,I1,q⟩
theorem gg{e:Expr}{t:TE}(h:PE X e t)(he:∀whole,isTrue e X.env whole=(do let v <- whole; standAt e.pos; holding [v] (truthy v)):=by intro _; rfl):PT X e (tB t):=by
 intro pins s σ H Q I hw
 refine isTrue_plain (thn (h pins s σ H _ I hw) fun v s1 ⟨x,H1,I1,r1,q1⟩=>?_) (he _)
 obtain⟨d,rfl,q⟩:=q1
 cases r1
 exact wpAny_truthy_bool ⟨H1,I1,q⟩
variable{tA tB':TT}{rest:List Expr}
def tAnd(t u:TT):TT:=fun σ H Q=>t σ H fun c H1=>if c=true then u σ H1 Q else Q false H1
def tOr(t u:TT):TT:=fun σ H Q=>t σ H fun c H1=>if c=true then Q true H1 else u σ H1 Q
def tNot(t:TT):TT:=fun σ H Q=>t σ H fun c H1=>Q (!c) H1
theorem pw_and1(ha:PT X a tA):PW X (.BoolOp .And [a] pos) tA:=by
 intro wh pins s σ H Q I h
 refine isTrue_and (thn (ha pins s σ H Q I h) fun c s1 e=>?_)
 cases c with
 | true=>exact isTrue_and_nil e
 | false=>exact e
theorem pw_or1(ha:PT X a tA):PW X (.BoolOp .Or [a] pos) tA:=by
 intro wh pins s σ H Q I h
 refine isTrue_or (thn (ha pins s σ H Q I h) fun c s1 e=>?_)
 cases c with
 | false=>exact isTrue_or_nil e
 | true=>exact e
theorem pw_and(ha:PT X a tA)(hb:PW X (.BoolOp .And (b::rest) pos) tB'):PW X (.BoolOp .And (a::b::rest) pos) (tAnd tA tB'):=by
 intro wh pins s σ H Q I h
 refine isTrue_and (thn (ha pins s σ H _ I h) fun c s1 ⟨H1,I1,q1⟩=>?_)
 cases c with
 | true=>exact hb wh pins s1 σ H1 Q I1 q1
 | false=>exact⟨H1,I1,q1⟩
theorem pw_or(ha:PT X a tA)(hb:PW X (.BoolOp .Or (b::rest) pos) tB'):PW X (.BoolOp .Or (a::b::rest) pos) (tOr tA tB'):=by
 intro wh pins s σ H Q I h
 refine isTrue_or (thn (ha pins s σ H _ I h) fun c s1 ⟨H1,I1,q1⟩=>?_)
 cases c with
 | true=>exact⟨H1,I1,q1⟩
 | false=>exact hb wh pins s1 σ H1 Q I1 q1
theorem pt_not(ha:PT X a tA):PT X (.UnaryOp .Not a pos) (tNot tA):=by
 intro pins s σ H Q I h
 exact isTrue_not (ha pins s σ H (fun c H1=>Q (!c) H1) I h)
def tAndV(ta tb:TE):TE:=fun σ H Q=>ta σ H fun x H1=>∃c,x=.bl c/\if c=true then tb σ H1 Q else Q (.bl false) H1
theorem pe_one{op}{t:TE}(h:PE X a t):PE X (.BoolOp op [a] pos) t:=fun pins s σ H Q I hw=>BoolOp_one (h pins s σ H Q I hw)
theorem pe_and(ha:PE X a ta)(hb:PE X (.BoolOp .And (b::rest) pos) tb):PE X (.BoolOp .And (a::b::rest) pos) (tAndV ta tb):=by
 intro pins s σ H Q I h
 refine BoolOp_and (thn (ha pins s σ H _ I h) fun v s1 ⟨x,H1,I1,r1,q1⟩=>?_)
 obtain⟨c,rfl,q1⟩:=q1
 cases r1
 refine wpAny_truthy_bool ?_
 cases c with
 | true=>exact hb pins s1 σ H1 Q I1 q1
 | false=>exact⟨.bl false,H1,I1,rfl,q1⟩
def tIf(t:TT)(ta tb:TE):TE:=fun σ H Q=>t σ H fun c H1=>if c=true then ta σ H1 Q else tb σ H1 Q
theorem pe_ifExp{c:Expr}(hc:PT X c tA)(ha:PE X a ta)(hb:PE X b tb):PE X (.IfExp c a b pos) (tIf tA ta tb):=by
 intro pins s σ H Q I h
 refine wpAny_IfExp (thn (hc pins s σ H _ I h) fun d s1 ⟨H1,I1,q1⟩=>?_)
 cases d with
 | true=>exact ha pins s1 σ H1 Q I1 q1
 | false=>exact hb pins s1 σ H1 Q I1 q1
end
end L2
namespace L2
open PySem PySem.Spec PyProof.Rows
def SqL(K:PySem.W.Frag)(H:Hp)(a:Addr)(xs:List V):Prop:=
 Rd H a (.lst xs)\/
  ∃(o:Obj)(its:Array Value)(n:Nat),K.lookup a=some o/\o.cls=.type "list"/\o.dict=none/\o.data=.seq its n/\its.size<=sizeLine/\ay xs its.toList
def SqT(K:PySem.W.Frag)(H:Hp)(a:Addr)(xs:List V):Prop:=
 Rd H a (.tup xs)\/
  ∃(o:Obj)(its:Array Value)(n:Nat),K.lookup a=some o/\o.cls=.type "tuple"/\o.data=.seq its n/\its.size<=sizeLine/\ay xs its.toList
def absV:Value->Option V
 | .none=>some .non
 | .bool b=>some (.bl b)
 | .int i _=>some (.int i)
 | .str x _=>some (.str x)
 | .bytes b _=>some (.byt b)
 | .float b _=>some (.flt b)
 | .ref a=>some (.ref a)
 | .type n=>some (.ty n)
 | _=>none
theorem RelV.abs{x:V}{u:Value}(r:RelV x u):absV u=some x:=by
 cases x with
 | non=>cases r; rfl
 | bl _=>cases r; rfl
 | int _=>obtain⟨t,rfl⟩:=r; rfl
 | str _=>obtain⟨t,rfl⟩:=r; rfl
 | byt _=>obtain⟨t,rfl⟩:=r; rfl
 | flt _=>obtain⟨t,rfl⟩:=r; rfl
 | ref _=>cases r; rfl
 | ty _=>cases r; rfl
theorem RelV.inj{x y:V}{u:Value}(r:RelV x u)(q:RelV y u):x=y:=Option.some.inj (r.abs.symm.trans q.abs)
theorem ay.inj:∀{xs ys:List V}{us:List Value},ay xs us->ay ys us->xs=ys
 | _,_,_,.nil,.nil=>rfl
 | _,_,_,.cons r t,.cons r' t'=>by rw [r.inj r',ay.inj t t']
section
variable{X:Cx}{pins:List (Addr × Obj)}{σ:St}{H:Hp}{s:Shared}{a:Addr}{xs ys:List V}
theorem SqL.of{K:PySem.W.Frag}(h:H a=some (.lst xs)):SqL K H a xs:=.inl (.inl h)
theorem SqT.of{K:PySem.W.Frag}(h:H a=some (.tup xs)):SqT K H a xs:=.inl (.inl h)
theorem Inv.list(I:Inv X pins σ H s)(h:SqL X.K H a xs):∃its:List Value,ay xs its/\PlainL s.heap a its.toArray/\xs.length<=sizeLine:=by
 rcases h with h | ⟨o,its,n,hk,hc,hd,hs,hz,r⟩
 ·obtain⟨z,its,n,r,e⟩:=h.ok I.hok
  exact⟨its,r,⟨_,n,e,rfl,rfl,rfl⟩,z⟩
 ·refine⟨its.toList,r,⟨o,n,I.kIn a o hk,hc,hd,by simpa using hs⟩,?_⟩
  have e:=r.length
  simp only [Array.length_toList] at e
  omega
theorem Inv.tuple(I:Inv X pins σ H s)(h:SqT X.K H a xs):∃its:List Value,ay xs its/\IsTup s.heap a its.toArray/\xs.length<=sizeLine:=by
 rcases h with h | ⟨o,its,n,hk,hc,hs,hz,r⟩
 ·obtain⟨z,its,r,p⟩:=h.ok I.hok
  exact⟨its,r,p,z⟩
 ·refine⟨its.toList,r,⟨o,I.kIn a o hk,hc,n,by simpa using hs⟩,?_⟩
  have e:=r.length
  simp only [Array.length_toList] at e
  omega
theorem Inv.list_inj(I:Inv X pins σ H s)(h:SqL X.K H a xs)(h':SqL X.K H a ys):xs=ys:=by
 obtain⟨its,r,⟨o,n,e,_,_,d⟩,_⟩:=I.list h
 obtain⟨its',r',⟨o',n',e',_,_,d'⟩,_⟩:=I.list h'
 rw [e] at e'; cases e'
 rw [d] at d'
 injection d' with d1 _
 have:its=its':=by simpa using congrArg Array.toList d1
 subst this
 exact r.inj r'
end
abbrev Cx.wish(X:Cx)(E:Value->Shared->Prop):Cx:={X with xe:=E}
abbrev Cx.nox(X:Cx):Cx:=X.wish fun _ _=>False
theorem Cx.Ok.wish{X:Cx}(ok:X.Ok)(E:Value->Shared->Prop):(X.wish E).Ok:=
 ⟨ok.mod,ok.kind,ok.glob,ok.blt,ok.above,ok.inj,ok.has,ok.cab,ok.hd,ok.frames,ok.stk,ok.exf,ok.bs,ok.bsz,ok.noex,ok.exfs,ok.funs,ok.frf,ok.hst⟩
theorem Cx.Ok.unwish{X:Cx}{E:Value->Shared->Prop}(ok:(X.wish E).Ok):X.Ok:=
 ⟨ok.mod,ok.kind,ok.glob,ok.blt,ok.above,ok.inj,ok.has,ok.cab,ok.hd,ok.frames,ok.stk,ok.exf,ok.bs,ok.bsz,ok.noex,ok.exfs,ok.funs,ok.frf,ok.hst⟩
section
variable{X:Cx}{pins:List (Addr × Obj)}{σ:St}{H:Hp}{s:Shared}{E:Value->Shared->Prop}
theorem Inv.wish(I:Inv X pins σ H s)(E:Value->Shared->Prop):Inv (X.wish E) pins σ H s:=⟨I.ok.wish E,I.os,I.bare,I.base,I.loc,I.cell,I.free,I.freeC,I.pin,I.hok,I.len⟩
theorem Inv.unwish(I:Inv (X.wish E) pins σ H s):Inv X pins σ H s:=⟨I.ok.unwish,I.os,I.bare,I.base,I.loc,I.cell,I.free,I.freeC,I.pin,I.hok,I.len⟩
theorem SP.unwish{D:Ends}{f:Flow}{s':Shared}(h:SP (X.wish E) pins D f s'):SP X pins D f s':=by
 cases f with
 | next=>obtain⟨σ',H',I,q⟩:=h; exact⟨σ',H',I.unwish,q⟩
 | brk=>obtain⟨σ',H',I,q⟩:=h; exact⟨σ',H',I.unwish,q⟩
 | cont=>obtain⟨σ',H',I,q⟩:=h; exact⟨σ',H',I.unwish,q⟩
 | ret u=>obtain⟨v,σ',H',I,r,q⟩:=h; exact⟨v,σ',H',I.unwish,r,q⟩
theorem PSs.nox{st:List Stmt}{t:TS}(h:PSs X.nox st t):PSs X st t:=fun pins s σ H D I hw=>
 wpAny_mono (h pins s σ H D (I.wish _) hw) (fun _ _ q=>q.unwish) fun _ _ z=>False.elim z
end
section
variable{X:Cx}{st:Stmt}{rest:List Stmt}{t u:TS}{e:Expr}{te:TE}{pos:Pos}
def tNext:TS:=fun D σ H=>D.nx σ H
def tSeq(t u:TS):TS:=fun D σ H=>t {D with nx:=u D} σ H
theorem bE:PSs X [] tNext:=fun _ _ σ H _ I h=>wpAny_execs_nil ⟨σ,H,I,h⟩
theorem aF(h1:PS X st t)(h2:PSs X rest u):PSs X (st::rest) (tSeq t u):=by
 intro pins s σ H D I h
 refine wpAny_execs_cons (thn (h1 pins s σ H {D with nx:=u D} I h) fun f s1 q=>?_)
 cases f with
 | next=>
   obtain⟨σ',H',I',q⟩:=q
   exact h2 pins s1 σ' H' D I' q
 | ret v=>exact q
 | brk=>exact q
 | cont=>exact q
theorem aK(h1:PS X st t):PSs X [st] t:=by
 intro pins s σ H D I h
 refine wpAny_execs_cons (thn (h1 pins s σ H D I h) fun f s1 q=>?_)
 cases f with
 | next=>exact wpAny_execs_nil q
 | ret v=>exact q
 | brk=>exact q
 | cont=>exact q
theorem Inv.quiet{pins:List (Addr × Obj)}{σ:St}{H:Hp}{s:Shared}(I:Inv X pins σ H s):interactive X.env=false:=by simp [interactive,I.ok.kind]
def tDrop(te:TE):TS:=fun D σ H=>te σ H fun _ H1=>D.nx σ H1
theorem e7(he:PE X e te)(hs:swapsWith e none pos.line X.env=pure false:=by rfl):PS X (.Expr e pos) (tDrop te):=by
 intro pins s σ H D I h
 exact wpAny_Expr_any (thn (he pins s σ H _ I h) fun v s1 ⟨x,H1,I1,r1,q1⟩=>⟨σ,H1,I1,q1⟩) I.quiet hs
def tRet(te:TE):TS:=fun D σ H=>te σ H D.rt
theorem aV(he:PE X e te):PS X (.Return (some e) pos) (tRet te):=by
 intro pins s σ H D I h
 exact wpAny_Return_some (thn (he pins s σ H _ I h) fun v s1 ⟨x,H1,I1,r1,q1⟩=>⟨x,σ,H1,I1,r1,q1⟩)
def tIfS(c:TT)(t u:TS):TS:=fun D σ H=>c σ H fun b H1=>if b=true then t D σ H1 else u D σ H1
theorem cC{c:Expr}{a b:List Stmt}{tc:TT}(hc:PT X c tc)(ha:PSs X a t)(hb:PSs X b u):PS X (.If c a b pos) (tIfS tc t u):=by
 intro pins s σ H D I h
 refine wpAny_If (thn (hc pins s σ H _ I h) fun d s1 ⟨H1,I1,q1⟩=>?_)
 cases d with
 | true=>exact ha pins s1 σ H1 D I1 q1
 | false=>exact hb pins s1 σ H1 D I1 q1
def tNever:TS:=fun _ _ _=>False
theorem pss_never{sts:List Stmt}:PSs X sts tNever:=fun _ _ _ _ _ _ h=>h.elim
end
abbrev TG:=V->St->Hp->(St->Hp->Prop)->Prop
def PG(X:Cx)(target:Expr)(t:TG):Prop:=
 ∀(pins:List (Addr × Obj))(s:Shared)(σ:St)(H:Hp)(v:V)(u:Value)(Q:St->Hp->Prop),Inv X pins σ H s->RelV v u->t v σ H Q->
  wpAny (model X.prog X.w) X.A (assign target X.env u) (fun _ s'=>∃σ' H',Inv X pins σ' H' s'/\Q σ' H') X.xe s
section
variable{X:Cx}{pos:Pos}
def jH(i:Nat):TG:=fun v σ H Q=>Q (σ.set i (some v)) H
theorem b8{i:Nat}{x:Str}(hN:X.N.Nodup)(hi:X.N[i]? =some x)(hx:Loc X.env.scope x)(hf:X.fn x=true\/X.env.scope.names.lookup x=some .local:=by first | exact .inl rfl | exact .inr rfl | assumption):PG X (.Name x pos) (jH i):=by
 intro pins s σ H v u Q I r h
 exact wpAny_assign_Name (store_ok I hN hi hx r (fun s' I'=>⟨_,H,I',h⟩) hf)
def tAsg(te:TE)(g:TG):TS:=fun D σ H=>te σ H fun x H1=>g x σ H1 D.nx
theorem aZ{i:Nat}{x:Str}{e:Expr}{te:TE}{pos':Pos}(hN:X.N.Nodup)(hi:X.N[i]? =some x)(hx:Loc X.env.scope x)(he:PE X e te)(hs:swapsWith e (some (.Name x pos')) pos.line X.env=pure false:=by rfl)(hf:X.fn x=true\/X.env.scope.names.lookup x=some .local:=by first | exact .inl rfl | exact .inr rfl | assumption) :
  PS X (.Assign [.Name x pos'] e pos) (tAsg te (jH i)):=by
 intro pins s σ H D I h
 refine wpAny_Assign_Name (thn (he pins s σ H _ I h) fun v s1 ⟨y,H1,I1,r1,q1⟩=>?_) hs
 exact store_ok I1 hN hi hx r1 (fun s2 I2=>⟨_,H1,I2,q1⟩) hf
end
section
variable{X:Cx}{pos:Pos}
def tWhile(c:TT)(tb:TS):TS:=fun D σ H=>∃W:Nat->St->Hp->Prop,(∃m,W m σ H)/\∀m σ H,W m σ H->
 c σ H fun b H1=>if b=true then ∃N:St->Hp->Prop,(∀σ' H',N σ' H'->∃m',m'<m/\W m' σ' H')/\tb {D with nx:=N,ct:=N,bk:=D.nx} σ H1 else D.nx σ H1
theorem fc{c:Expr}{body:List Stmt}{tc:TT}{tb:TS}(hp:PassesOwn (model X.prog X.w) X.A X.env X.xe)(hc:PT X c tc)(hb:PSs X body tb):PS X (.While c body [] pos) (tWhile tc tb):=by
 intro pins s σ H D I h
 obtain⟨W,⟨m0,w0⟩,turn⟩:=h
 refine wpAny_While (codeAny_whileLoop (fun n s'=>∃σ' H',Inv X pins σ' H' s'/\W n σ' H') ?_ m0 ⟨σ,H,I,w0⟩)
 rintro n s1 ⟨σ1,H1,I1,w1⟩
 refine wpAny_passesOwn hp (thn (hc pins s1 σ1 H1 _ I1 (turn n σ1 H1 w1)) fun b s2 ⟨H2,I2,q2⟩=>?_)
 cases b with
 | true=>
   obtain⟨N,hN,q2⟩:=q2
   rw [if_pos rfl]
   refine wpAny_passesOwn hp (thn (hb pins s2 σ1 H2 _ I2 q2) fun f s3 q3=>?_)
   cases f with
   | next=>
     obtain⟨σ3,H3,I3,n3⟩:=q3
     obtain⟨m',hm,w3⟩:=hN σ3 H3 n3
     exact⟨m',hm,σ3,H3,I3,w3⟩
   | cont=>
     obtain⟨σ3,H3,I3,n3⟩:=q3
     obtain⟨m',hm,w3⟩:=hN σ3 H3 n3
     exact⟨m',hm,σ3,H3,I3,w3⟩
   | brk=>exact q3
   | ret v=>exact q3
 | false=>
   rw [if_neg Bool.false_ne_true]
   exact wpAny_execs_nil ⟨σ1,H2,I2,q2⟩
end
structure It where
 go:Nat->Hp->Prop
 yld:Nat->Hp->V->Hp->Prop
 stop:Nat->Hp->Prop
def ga(X:Cx)(pins:List (Addr × Obj))(H:Hp)(b:Addr):Prop:=
 H b=none/\b≠X.env.locals/\b∉X.fs/\(b∈X.ex\/X.s_0.heap.objs.size<=b)/\(∀x c,X.env.cells.lookup x=some c->c≠b)/\∀p∈X.pn++pins,p.1≠b
theorem Inv.fpOk{X:Cx}{pins:List (Addr × Obj)}{σ:St}{H H':Hp}{s:Shared}{b:Addr}(I:Inv X pins σ H s)(hb:s.heap.objs.size<=b)(hn:H' b=none):ga X pins H' b:=by
 refine⟨hn,Nat.ne_of_gt (Nat.lt_of_lt_of_le I.lt hb),I.nofs hb,.inr (Nat.le_trans I.sz hb),fun x c e z=>?_,fun p hp z=>?_⟩
 ·obtain⟨v,q⟩:=I.cell x c e
  exact absurd (Nat.lt_of_lt_of_le q.lt (by rw [z]; exact hb)) (Nat.lt_irrefl _)
 ·exact absurd (Nat.lt_of_lt_of_le (Heap.lt_size (I.pin p hp).1) (by rw [z]; exact hb)) (Nat.lt_irrefl _)
structure Turn(P:Program)(w:World)(K:PySem.W.Frag)(tg:Expr)(J:It)(fp:List Addr)(it:Addr)(tn:Nat->Heap->Prop):Prop where
 mem:it∈fp
 obj:∀i h,tn i h->∀b∈fp,∃o,h.get? b=some o/\∀v,o.data≠.cell v
 keep:∀i h h',tn i h->(∀b∈fp,∀o,h.get? b=some o->h'.get? b=some o)->tn i h'
 item:∀(X:Cx),X.prog=P->X.w=w->X.K=K->X.calm=true->∀(i:Nat)(pins:List (Addr × Obj))(s:Shared)(σ:St)(H:Hp)(E:Value->Shared->Prop),Inv X pins σ H s->(∀b∈fp,ga X pins H b)->tn i s.heap->J.go i H->
  wpAny (model P w) X.A (pyNext (.ref it)) (fun r s1=>∃u,r=some u/\
   wpAny (model P w) X.A (letOwnedTupleGo tg (.ref it) u) (fun _ s2=>∃x H',Inv X pins σ H' s2/\RelV x u/\J.yld i H x H'/\tn (i+1) s2.heap/\∀b∈fp,H' b=none) E s1) E s
 done:∀(X:Cx),X.prog=P->X.w=w->X.K=K->X.calm=true->∀(i:Nat)(pins:List (Addr × Obj))(s:Shared)(σ:St)(H:Hp)(E:Value->Shared->Prop),Inv X pins σ H s->(∀b∈fp,ga X pins H b)->tn i s.heap->J.stop i H->
  wpAny (model P w) X.A (pyNext (.ref it)) (fun r s1=>r=none/\Inv X pins σ H s1) E s
 self:∀(A:Around)(i:Nat)(s:Shared)(Q:Value->Shared->Prop)(E:Value->Shared->Prop),tn i s.heap->Q (.ref it) s->wpAny (model P w) A (pyIter (.ref it)) Q E s
abbrev TI:=St->Hp->(It->Hp->Prop)->Prop
def PIE(X:Cx)(pins:List (Addr × Obj))(σ:St)(tg:Expr)(R:It->Hp->Prop)(itv:Value)(s2:Shared):Prop:=
 ∃(it:Addr)(fp:List Addr)(tn:Nat->Heap->Prop)(J:It)(H':Hp),itv=.ref it/\Inv X pins σ H' s2/\Turn X.prog X.w X.K tg J fp it tn/\tn 0 s2.heap/\(∀b∈fp,ga X pins H' b)/\R J H'
def PI(X:Cx)(tg iter:Expr)(wi:TI):Prop:=
 ∀(pins:List (Addr × Obj))(s:Shared)(σ:St)(H:Hp)(R:It->Hp->Prop),Inv X pins σ H s->wi σ H R->
  wpAny (model X.prog X.w) X.A (eval iter X.env) (fun v s1=>wpAny (model X.prog X.w) X.A (pyIter v) (PIE X pins σ tg R) X.xe s1) X.xe s
theorem go_of{M:Model}{A:Around}{E:Value->Shared->Prop}{s:Shared}{tg:Expr}{it:Addr}{u:Value}{o:Obj}{n:String}{vs:Array Value}{Q:Unit->Shared->Prop}(ho:s.heap.get? it=some o)(hc:o.cls=.type n)(hd:o.data=.fields vs)
  (hn:["enumerate","zip","dict_itemiterator","dict_reverseitemiterator","odict_iterator","itertools.zip_longest","itertools.pairwise"].contains n=false) (hQ:Q () s):wpAny M A (letOwnedTupleGo tg (.ref it) u) Q E s:=by
 unfold letOwnedTupleGo
 cases tg <;> first
  | exact wpAny_pure hQ
  | (cases u <;> first
    | exact wpAny_pure hQ
    | (refine wpAny_bind (wpAny_load ho ?_)
       rw [hc,hd]
       show wpAny M A (if (["enumerate","zip","dict_itemiterator","dict_reverseitemiterator","odict_iterator","itertools.zip_longest","itertools.pairwise"].contains n && vs[0]? == some (rawInt _))=true then _ else _) Q E s
       rw [if_neg (by intro h; rw [hn,Bool.false_and] at h; cases h)]
       exact wpAny_pure hQ))
def Itl(K:PySem.W.Frag)(a:Addr):It:=
 ⟨fun i H=>∃xs x,SqL K H a xs/\xs[i]? =some x,fun i H x H'=>H'=H/\∀xs,SqL K H a xs->xs[i]? =some x,fun i H=>∃xs,SqL K H a xs/\xs.length<=i⟩
def Itr(lo:Int)(n:Nat):It:=⟨fun i _=>i<n,fun i H x H'=>H'=H/\x=.int (lo+i),fun i _=>n<=i⟩
theorem turn_list{P:Program}{w:World}{K:PySem.W.Frag}{tg:Expr}(a it:Addr):Turn P w K tg (Itl K a) [it] it (fun i h=>h.IsListIter it a i) where
 mem:=by simp
 obj:=fun i h st b hb=>by
  have e:b=it:=by simpa using hb
  subst e
  obtain⟨o,e,c,d⟩:=st
  exact⟨o,e,fun v z=>by rw [d] at z; cases z⟩
 keep:=fun i h h' st k=>st.at fun o e=>k it (by simp) o e
 item:=by
  intro X hP hw hK hc i pins s σ H E I hf st hg
  subst hP hw hK
  obtain⟨xs,x,hq,hx⟩:=hg
  obtain⟨its,rv,p,hz⟩:=I.list hq
  obtain⟨u,hu,ru⟩:=rv.get hx
  obtain⟨f0,f1,f2,f3,f4,f5⟩:=hf it (by simp)
  refine wpAny_pyNext_list_item st p.isList (x:=u) (by simpa using hu) fun h' st' sb=>?_
  have I1:Inv X pins σ H {s with heap:=h'}:=I.turned (t':=s.toks) (fun b o hb e=>(sb.2 b hb).trans e) f0 f1 f3 f4 f5
  obtain⟨o,e,c,d⟩:=id st'
  exact⟨u,rfl,go_of (s:={s with heap:=h'}) e c d (by decide) ⟨x,H,I1,ru,⟨rfl,fun ys hy=>by rw [I.list_inj hy hq]; exact hx⟩,st',fun b hb=>(hf b hb).1⟩⟩
 done:=by
  intro X hP hw hK hc i pins s σ H E I hf st hg
  subst hP hw hK
  obtain⟨xs,hq,hx⟩:=hg
  obtain⟨its,rv,p,hz⟩:=I.list hq
  obtain⟨f0,f1,f2,f3,f4,f5⟩:=hf it (by simp)
  have hl:=rv.length
  exact wpAny_pyNext_list_end (I.ok.hd hc) st p.isList (by simp; omega) fun h' eb=>⟨rfl,I.turned (t':=s.toks) (fun b o hb e=>eb b o hb e) f0 f1 f3 f4 f5⟩
 self:=fun _ _ _ _ _ st h=>wpAny_pyIter_listiter st h
theorem turn_range{P:Program}{w:World}{K:PySem.W.Frag}{tg:Expr}(it:Addr)(lo:Int)(n:Nat):Turn P w K tg (Itr lo n) [it] it (fun i h=>IsRangeIter h it (lo+(i:Nat)*1) ((n:Int) - (i:Nat)) 1) where
 mem:=by simp
 obj:=fun i h st b hb=>by
  have e:b=it:=by simpa using hb
  subst e
  exact⟨_,st,fun v z=>by
   have z':Data.fields _=Data.cell v:=z
   cases z'⟩
 keep:=fun i h h' st k=>k it (by simp) _ st
 item:=by
  intro X hP hw hK hc i pins s σ H E I hf st hg
  subst hP hw hK
  obtain⟨f0,f1,f2,f3,f4,f5⟩:=hf it (by simp)
  have W:=Walks.range (prog:=X.prog) (w:=X.w) (I.ok.hd hc) it lo 1 n
  refine W.item i s _ _ hg st fun v h' tk hv st' kk=>?_
  obtain⟨t,rfl⟩:=hv
  have I1:Inv X pins σ H {s with heap:=h',toks:=tk}:=I.turned (fun b o hb e=>kk b o (by simpa using hb) e) f0 f1 f3 f4 f5
  refine⟨_,rfl,go_of (s:={s with heap:=h',toks:=tk}) (n:="range_iterator") st' rfl rfl (by decide) ⟨.int (lo+i),H,I1,⟨t,?_⟩,⟨rfl,rfl⟩,st',fun b hb=>(hf b hb).1⟩⟩
  rw [Int.mul_one]
 done:=by
  intro X hP hw hK hc i pins s σ H E I hf st hg
  subst hP hw hK
  obtain⟨f0,f1,f2,f3,f4,f5⟩:=hf it (by simp)
  exact wpAny_pyNext_range_end (I.ok.hd hc) st (by have:n<=i:=hg; omega) fun h' eb=>⟨rfl,I.turned (t':=s.toks) (fun b o hb e=>eb b o hb e) f0 f1 f3 f4 f5⟩
 self:=fun _ _ _ _ _ st h=>wpAny_pyIter_rangeiter st h
end L2
namespace L2
open PySem PySem.Spec PyProof.Rows
section
variable{X:Cx}{tg:Expr}
def iList(K:PySem.W.Frag)(tl:TE):TI:=fun σ H R=>tl σ H fun x H1=>∃a,x=.ref a/\(∃xs,SqL K H1 a xs)/\R (Itl K a) H1
theorem cD{l:Expr}{tl:TE}(hl:PE X l tl):PI X tg l (iList X.K tl):=by
 intro pins s σ H R I h
 refine thn (hl pins s σ H _ I h) fun v s1 ⟨x,H1,I1,r1,q1⟩=>?_
 obtain⟨a,e,⟨xs,hq⟩,q⟩:=q1
 subst e
 cases r1
 obtain⟨its,rv,p,hz⟩:=I1.list hq
 refine wpAny_pyIter_list p.isList ?_
 refine⟨s1.heap.objs.size,[s1.heap.objs.size],_,_,H1,rfl,I1.kept (t':=s1.toks) fun b o e=>Heap.get?_push_of_some _ e,turn_list a _,⟨_,Heap.get?_push_size _ rfl,rfl,rfl⟩,fun b hb=>?_,q⟩
 have e:b=s1.heap.objs.size:=by simpa using hb
 subst e
 exact I1.fpOk (Nat.le_refl _) (I1.hok.fresh (Nat.le_refl _))
theorem range_it{pins:List (Addr × Obj)}{σ:St}{H:Hp}{s:Shared}{R:It->Hp->Prop}{E:Value->Shared->Prop}{lo hi:Int}{t u v:Tok}{tk:Nat}(I:Inv X pins σ H s)(h1:-(2^62)<=lo)(h2:lo<2^62)(h3:-(2^62)<=hi)(h4:hi<2^62)
  (q:R (Itr lo (hi - lo).toNat) H):wpAny (model X.prog X.w) X.A (pyIter (.ref s.heap.objs.size)) (PIE X pins σ tg R) E {s with heap:=s.heap.push {cls:=.type "range",data:=.fields #[.int lo t,.int hi u,.int 1 v]},toks:=tk}:=by
 refine wpAny_pyIter_range (IsRange.new ..) (small_one h1 h2 h3 h4) ?_
 have I1:Inv X pins σ H {s with heap:=s.heap.push {cls:=.type "range",data:=.fields #[.int lo t,.int hi u,.int 1 v]},toks:=tk}:=I.kept fun b o e=>Heap.get?_push_of_some _ e
 refine⟨(s.heap.push {cls:=.type "range",data:=.fields #[.int lo t,.int hi u,.int 1 v]}).objs.size,[(s.heap.push {cls:=.type "range",data:=.fields #[.int lo t,.int hi u,.int 1 v]}).objs.size],_,_,H,rfl,
  I1.kept (t':=tk) fun b o e=>Heap.get?_push_of_some _ e,turn_range _ lo (hi - lo).toNat,?_,fun b hb=>?_,q⟩
 ·have e1:lo+((0:Nat):Int)*1=lo:=by simp
  have e2:(((hi - lo).toNat:Nat):Int) - ((0:Nat):Int)=Builtin.Range.rangeSize lo hi 1:=by rw [rangeSize_one]; split <;> omega
  show IsRangeIter _ _ (lo+((0:Nat):Int)*1) ((((hi - lo).toNat:Nat):Int) - ((0:Nat):Int)) 1
  rw [e1,e2]
  exact Heap.get?_push_size _ rfl
 ·have e:b=(s.heap.push {cls:=.type "range",data:=.fields #[.int lo t,.int hi u,.int 1 v]}).objs.size:=by simpa using hb
  subst e
  exact I1.fpOk (Nat.le_refl _) (I1.hok.fresh (Nat.le_refl _))
def iRng1(ta:TA):TI:=fun σ H R=>ta σ H fun vs H1=>∃j:Int,vs=[.int j]/\-(2^62)<=j/\j<2^62/\R (Itr 0 j.toNat) H1
theorem d6{a:Expr}{ta:TA}{p pos:Pos}(hg:Gl X "range")(hm:X.mg "range"=none)(ha:PA X [a] ta)(hs:starEach [a] X.env=[(false,eval a X.env)]:=by rfl):PI X tg (.Call (.Name "range" p) [a] [] pos) (iRng1 ta):=by
 intro pins s σ H R I h
 refine Call_ (ii I hg hm boot_range (PyProof.Rows.callWith_type1 (thn (ha pos pins s σ H _ I h) fun us s1 ⟨vs,H1,I1,r1,q1⟩=>?_) hs rfl))
 obtain⟨j,e,q1,q2,q⟩:=q1
 subst e
 cases r1 with
 | cons r rr=>
   cases rr
   obtain⟨t,rfl⟩:=r
   exact call_range_1 (range_it I1 (by omega) (by omega) q1 q2 (by simpa using q))
def tFor(wi:TI)(g:TG)(tb:TS):TS:=fun D σ H=>wi σ H fun J H1=>∃W:Nat->Nat->St->Hp->Prop,(∃m,W 0 m σ H1)/\∀i m σ H,W i m σ H->
 (J.stop i H/\D.nx σ H)\/(J.go i H/\∃N:St->Hp->Prop,(∀σ' H',N σ' H'->∃m',m'<m/\W (i+1) m' σ' H')/\∀x H',J.yld i H x H'->g x σ H' fun σ2 H2=>tb {D with nx:=N,ct:=N,bk:=D.nx} σ2 H2)
def iL(fp:List Addr)(h:Heap):List (Addr × Obj):=fp.filterMap fun b=>(h.get? b).map fun o=>(b,o)
theorem mem_pinsAt{fp:List Addr}{h:Heap}{b:Addr}{o:Obj}(hb:b∈fp)(e:h.get? b=some o):(b,o)∈iL fp h:=List.mem_filterMap.mpr ⟨b,hb,by rw [e]; rfl⟩
theorem of_pinsAt{fp:List Addr}{h:Heap}{p:Addr × Obj}(hp:p∈iL fp h):p.1∈fp/\h.get? p.1=some p.2:=by
 obtain⟨b,hb,e⟩:=List.mem_filterMap.mp hp
 cases q:h.get? b with
 | none=>rw [q] at e; cases e
 | some o=>
   rw [q] at e
   have e':(b,o)=p:=Option.some.inj e
   subst e'
   exact⟨hb,q⟩
theorem Inv.pinned{pins:List (Addr × Obj)}{σ:St}{H:Hp}{s:Shared}{fp:List Addr}(I:Inv X pins σ H s)(hf:∀b∈fp,ga X pins H b)(ho:∀b∈fp,∃o,s.heap.get? b=some o/\∀v,o.data≠.cell v):Inv X (pins++iL fp s.heap) σ H s:=
 I.pins_of fun p hp=>(List.mem_append.mp hp).elim (fun z=>I.pin p (List.mem_append_right _ z)) fun z=>by
  obtain⟨hb,e⟩:=of_pinsAt z
  obtain⟨f0,f1,f2,_⟩:=hf p.1 hb
  obtain⟨o,e',d⟩:=ho p.1 hb
  rw [e] at e'; cases e'
  exact⟨e,f0,f1,f2,d⟩
theorem Inv.unpinned{pins pl:List (Addr × Obj)}{σ:St}{H:Hp}{s:Shared}(I:Inv X (pins++pl) σ H s):Inv X pins σ H s:=I.pins_of fun p hp=>I.pin p (List.mem_append_right _ (List.mem_append_left _ hp))
theorem fe{iter:Expr}{body:List Stmt}{wi:TI}{g:TG}{tb:TS}{pos:Pos}(hp:PassesOwn (model X.prog X.w) X.A X.env X.xe)(hc:X.calm=true)(hi:PI X tg iter wi)(hg:PG X tg g)(hb:PSs X body tb)
  (hs:∀x,foldedSetIterable iter X.env x=pure x:=by intro _; rfl):PS X (.For tg iter body [] pos) (tFor wi g tb):=by
 intro pins s σ H D I h
 refine wpAny_For (thn (hi pins s σ H _ I h) fun v s1 h1=>thn h1 fun itv s2 h2=>?_) hs
 obtain⟨it,fp,tn,J,H2,e,I2,T,st2,f2,W,⟨m0,w0⟩,turn⟩:=h2
 subst e
 have stat:∀{H':Hp},(∀b∈fp,H' b=none)->∀b∈fp,ga X pins H' b:=fun hn b hb=>⟨hn b hb,(f2 b hb).2⟩
 refine codeAny_forLoop_any (fun n s'=>∃i σ' H',Inv X pins σ' H' s'/\tn i s'.heap/\(∀b∈fp,H' b=none)/\W i n σ' H') ?_ m0 ⟨0,σ,H2,I2,st2,fun b hb=>(f2 b hb).1,w0⟩
 rintro n s3 ⟨i,σ3,H3,I3,st3,fr3,w3⟩
 rcases turn i n σ3 H3 w3 with⟨stop,qn⟩ | ⟨go,N,hN,step⟩
 ·refine wpAny_passesOwn hp (thn (T.done X rfl rfl rfl hc i pins s3 σ3 H3 X.xe I3 (stat fr3) st3 stop) fun r s4 ⟨hr,I4⟩=>?_)
  subst hr
  exact wpAny_execs_nil ⟨σ3,H3,I4,qn⟩
 ·refine wpAny_passesOwn hp (thn (T.item X rfl rfl rfl hc i pins s3 σ3 H3 X.xe I3 (stat fr3) st3 go) fun r s4 ⟨u,hr,h4⟩=>?_)
  subst hr
  refine wpAny_passesOwn hp (thn h4 fun _ s5 ⟨x,H5,I5,r5,y5,st5,fr5⟩=>?_)
  have I5':=I5.pinned (stat fr5) (T.obj _ _ st5)
  refine wpAny_passesOwn hp (thn (hg _ s5 σ3 H5 x u _ I5' r5 (step x H5 y5)) fun _ s6 ⟨σ6,H6,I6,q6⟩=>?_)
  refine wpAny_passesOwn hp (thn (hb _ s6 σ6 H6 _ I6 q6) fun f s7 q7=>?_)
  have again:∀{σ7:St}{H7:Hp},Inv X (pins++iL fp s5.heap) σ7 H7 s7->N σ7 H7->∃m,m<n/\∃i σ' H',Inv X pins σ' H' s7/\tn i s7.heap/\(∀b∈fp,H' b=none)/\W i m σ' H':=fun{σ7 H7} I7 n7=>by
   obtain⟨m',hm,w7⟩:=hN σ7 H7 n7
   refine⟨m',hm,i+1,σ7,H7,I7.unpinned,T.keep _ _ _ st5 fun b hb o e=>(I7.pin (b,o) (List.mem_append_right _ (List.mem_append_right _ (mem_pinsAt hb e)))).1,fun b hb=>?_,w7⟩
   obtain⟨o,e,d⟩:=T.obj _ _ st5 b hb
   exact(I7.pin (b,o) (List.mem_append_right _ (List.mem_append_right _ (mem_pinsAt hb e)))).2.1
  cases f with
  | next=>obtain⟨σ7,H7,I7,n7⟩:=q7; exact again I7 n7
  | cont=>obtain⟨σ7,H7,I7,n7⟩:=q7; exact again I7 n7
  | brk=>obtain⟨σ7,H7,I7,q7⟩:=q7; exact⟨σ7,H7,I7.unpinned,q7⟩
  | ret v=>obtain⟨x7,σ7,H7,I7,r7,q7⟩:=q7; exact⟨x7,σ7,H7,I7.unpinned,r7,q7⟩
end
theorem fj{K:PySem.W.Frag}{a:Addr}{xs:List V}{g:TG}{tb:TS}{D:Ends}{σ:St}{H:Hp}(Pv:Nat->St->Hp->Prop)(h0:Pv 0 σ H)(hl:∀i σ H,i<=xs.length->Pv i σ H->SqL K H a xs)
  (hs:∀i x σ H,xs[i]? =some x->Pv i σ H->g x σ H fun σ2 H2=>tb {D with nx:=Pv (i+1),ct:=Pv (i+1),bk:=D.nx} σ2 H2) (hd:∀σ H,Pv xs.length σ H->D.nx σ H) :
  ∃W:Nat->Nat->St->Hp->Prop,(∃m,W 0 m σ H)/\∀i m σ H,W i m σ H->
   ((Itl K a).stop i H/\D.nx σ H)\/((Itl K a).go i H/\∃N:St->Hp->Prop,(∀σ' H',N σ' H'->∃m',m'<m/\W (i+1) m' σ' H')/\∀x H',(Itl K a).yld i H x H'->g x σ H' fun σ2 H2=>tb {D with nx:=N,ct:=N,bk:=D.nx} σ2 H2):=by
 refine⟨fun i m σ H=>m=xs.length - i/\i<=xs.length/\Pv i σ H,⟨xs.length,by simp,Nat.zero_le _,h0⟩,?_⟩
 rintro i m σ H ⟨rfl,hi,p⟩
 have q:=hl i σ H hi p
 by_cases hlt:i<xs.length
 ·refine .inr ⟨⟨xs,xs[i],q,by simp [hlt]⟩,Pv (i+1),fun σ' H' p'=>⟨xs.length - (i+1),by omega,rfl,hlt,p'⟩,fun x H' y=>?_⟩
  obtain⟨e,y⟩:=y
  subst e
  exact hs i x σ _ (y xs q) p
 ·have e:i=xs.length:=by omega
  subst e
  exact .inl ⟨⟨xs,q,Nat.le_refl _⟩,hd σ H p⟩
theorem for_range{lo:Int}{n:Nat}{g:TG}{tb:TS}{D:Ends}{σ:St}{H:Hp}(Pv:Nat->St->Hp->Prop)(h0:Pv 0 σ H)
  (hs:∀i σ H,i<n->Pv i σ H->g (.int (lo+i)) σ H fun σ2 H2=>tb {D with nx:=Pv (i+1),ct:=Pv (i+1),bk:=D.nx} σ2 H2) (hd:∀σ H,Pv n σ H->D.nx σ H) :
  ∃W:Nat->Nat->St->Hp->Prop,(∃m,W 0 m σ H)/\∀i m σ H,W i m σ H->
   ((Itr lo n).stop i H/\D.nx σ H)\/((Itr lo n).go i H/\∃N:St->Hp->Prop,(∀σ' H',N σ' H'->∃m',m'<m/\W (i+1) m' σ' H')/\∀x H',(Itr lo n).yld i H x H'->g x σ H' fun σ2 H2=>tb {D with nx:=N,ct:=N,bk:=D.nx} σ2 H2):=by
 refine⟨fun i m σ H=>m=n - i/\i<=n/\Pv i σ H,⟨n,by simp,Nat.zero_le _,h0⟩,?_⟩
 rintro i m σ H ⟨rfl,hi,p⟩
 by_cases hlt:i<n
 ·refine .inr ⟨hlt,Pv (i+1),fun σ' H' p'=>⟨n - (i+1),by omega,rfl,hlt,p'⟩,fun x H' y=>?_⟩
  obtain⟨e,y⟩:=y
  subst e y
  exact hs i σ _ hlt p
 ·have e:i=n:=by omega
  subst e
  exact .inl ⟨Nat.le_refl _,hd σ H p⟩
end L2
namespace L2
open PySem PySem.Spec PyProof.Rows
abbrev R2:=V->V->Hp->VK->Prop
def OpR(X:Cx)(f:Value->Value->Sem Value)(r:R2):Prop:=
 ∀(pins:List (Addr × Obj))(s:Shared)(σ:St)(H:Hp)(x y:V)(v u:Value)(Q:VK),Inv X pins σ H s->RelV x v->RelV y u->r x y H Q->
  wpAny (model X.prog X.w) X.A (f v u) (EP X pins σ Q) X.xe s
def UnR(X:Cx)(f:Value->Sem Value)(r:V->Hp->VK->Prop):Prop:=
 ∀(pins:List (Addr × Obj))(s:Shared)(σ:St)(H:Hp)(x:V)(v:Value)(Q:VK),Inv X pins σ H s->RelV x v->r x H Q->
  wpAny (model X.prog X.w) X.A (f v) (EP X pins σ Q) X.xe s
def ft(X:Cx)(f:Value)(r:List V->Hp->VK->Prop):Prop:=
 ∀(pins:List (Addr × Obj))(s:Shared)(σ:St)(H:Hp)(xs:List V)(us:List Value)(Q:VK),Inv X pins σ H s->ay xs us->r xs H Q->
  wpAny (model X.prog X.w) X.A (call f us) (EP X pins σ Q) X.xe s
def tOp(r:R2)(ta tb:TE):TE:=fun σ H Q=>ta σ H fun x H1=>tb σ H1 fun y H2=>r x y H2 Q
def tUn(r:V->Hp->VK->Prop)(ta:TE):TE:=fun σ H Q=>ta σ H fun x H1=>r x H1 Q
def rI(C:Int->Int->Prop)(g:Int->Int->V):R2:=fun x y H Q=>∃i j,x=.int i/\y=.int j/\C i j/\Q (g i j) H
def rI0(g:Int->Int->V):R2:=fun x y H Q=>∃i j,x=.int i/\y=.int j/\Q (g i j) H
def rU(g:Int->V):V->Hp->VK->Prop:=fun x H Q=>∃i,x=.int i/\Q (g i) H
section
variable{X:Cx}{a b c:Expr}{ta tb tc:TE}{pos:Pos}
theorem binT(ha:PE X a ta)(hb:PE X b tb){pins:List (Addr × Obj)}{s:Shared}{σ:St}{H:Hp}{R:V->V->Hp->Prop}(I:Inv X pins σ H s)
  (h:ta σ H fun x H1=>tb σ H1 fun y H2=>R x y H2) {Q:Value->Shared->Prop} {f:Value->Value->Sem Value}
  (hf:∀v u s2 x y H2,Inv X pins σ H2 s2->RelV x v->RelV y u->R x y H2->wpAny (model X.prog X.w) X.A (f v u) Q X.xe s2) :
  wpAny (model X.prog X.w) X.A (eval a X.env) (fun v s₁=>wpAny (model X.prog X.w) X.A (eval b X.env) (fun u s₂=>wpAny (model X.prog X.w) X.A (f v u) Q X.xe s₂) X.xe s₁) X.xe s:=by
 refine thn (ha pins s σ H _ I h) fun v s1 ⟨x,H1,I1,r1,q1⟩=>?_
 refine thn (hb pins s1 σ H1 _ I1 q1) fun u s2 ⟨y,H2,I2,r2,q2⟩=>?_
 exact hf v u s2 x y H2 I2 r1 r2 q2
theorem af{op:Operator}{r:R2}(ho:OpR X (binaryOp op) r)(ha:PE X a ta)(hb:PE X b tb):PE X (.BinOp a op b pos) (tOp r ta tb):=by
 intro pins s σ H Q I h
 exact wpAny_BinOp (binT ha hb I h fun v u s2 x y H2 I2 rx ry q=>ho pins s2 σ H2 x y v u Q I2 rx ry q)
theorem gu{op:UnaryOp}{r:V->Hp->VK->Prop}(ho:UnR X (unaryOp op) r)(ha:PE X a ta):PE X (.UnaryOp op a pos) (tUn r ta):=by
 intro pins s σ H Q I h
 exact UnaryOp_ (thn (ha pins s σ H _ I h) fun v s1 ⟨x,H1,I1,r1,q1⟩=>ho pins s1 σ H1 x v Q I1 r1 q1)
theorem opI{f:Value->Value->Sem Value}{C:Int->Int->Prop}{g:Int->Int->Int}
  (rule:∀(i j:Int)(t u:Tok)(s:Shared)(Q:Value->Shared->Prop)(E:Value->Shared->Prop),C i j->Q (.int (g i j) s.toks) {s with toks:=s.toks+1}->wpAny (model X.prog X.w) X.A (f (.int i t) (.int j u)) Q E s) :
  OpR X f (rI C fun i j=>.int (g i j)):=by
 intro pins s σ H x y v u Q I rx ry h
 obtain⟨i,j,rfl,rfl,hc,q⟩:=h
 obtain⟨t,rfl⟩:=rx
 obtain⟨t',rfl⟩:=ry
 exact rule i j t t' s _ _ hc ⟨.int (g i j),H,I.tok _,⟨_,rfl⟩,q⟩
theorem opI0{f:Value->Value->Sem Value}{g:Int->Int->Int}
  (rule:∀(i j:Int)(t u:Tok)(s:Shared)(Q:Value->Shared->Prop)(E:Value->Shared->Prop),Q (.int (g i j) s.toks) {s with toks:=s.toks+1}->wpAny (model X.prog X.w) X.A (f (.int i t) (.int j u)) Q E s) :
  OpR X f (rI0 fun i j=>.int (g i j)):=by
 intro pins s σ H x y v u Q I rx ry h
 obtain⟨i,j,rfl,rfl,q⟩:=h
 obtain⟨t,rfl⟩:=rx
 obtain⟨t',rfl⟩:=ry
 exact rule i j t t' s _ _ ⟨.int (g i j),H,I.tok _,⟨_,rfl⟩,q⟩
theorem opB0{f:Value->Value->Sem Value}{g:Int->Int->Bool}
  (rule:∀(i j:Int)(t u:Tok)(s:Shared)(Q:Value->Shared->Prop)(E:Value->Shared->Prop),Q (.bool (g i j)) s->wpAny (model X.prog X.w) X.A (f (.int i t) (.int j u)) Q E s) :
  OpR X f (rI0 fun i j=>.bl (g i j)):=by
 intro pins s σ H x y v u Q I rx ry h
 obtain⟨i,j,rfl,rfl,q⟩:=h
 obtain⟨t,rfl⟩:=rx
 obtain⟨t',rfl⟩:=ry
 exact rule i j t t' s _ _ ⟨.bl (g i j),H,I,rfl,q⟩
theorem cq:OpR X (binaryOp .Add) (rI0 fun i j=>.int (i+j)):=opI0 fun _ _ _ _ _ _ _ q=>add_int q
theorem gh:OpR X (binaryOp .Sub) (rI0 fun i j=>.int (i - j)):=opI0 fun _ _ _ _ _ _ _ q=>sub_int q
theorem op_mod:OpR X (binaryOp .Mod) (rI (fun _ j=>0<j) fun i j=>.int (i%j)):=opI fun i j _ _ _ _ _ hc q=>by
 have h1:(0:Int)<j:=hc
 exact mod_int' (by omega) (by rw [Int.fmod_eq_emod_of_nonneg i (by omega)]; exact q)
theorem unI{f:Value->Sem Value}{g:Int->Int}
  (rule:∀(i:Int)(t:Tok)(s:Shared)(Q:Value->Shared->Prop)(E:Value->Shared->Prop),Q (.int (g i) s.toks) {s with toks:=s.toks+1}->wpAny (model X.prog X.w) X.A (f (.int i t)) Q E s) :
  UnR X f (rU fun i=>.int (g i)):=by
 intro pins s σ H x v Q I rx h
 obtain⟨i,rfl,q⟩:=h
 obtain⟨t,rfl⟩:=rx
 exact rule i t s _ _ ⟨.int (g i),H,I.tok _,⟨_,rfl⟩,q⟩
theorem f8:UnR X (unaryOp .USub) (rU fun i=>.int (-i)):=unI fun _ _ _ _ _ q=>neg_int q
end
def scal:V->V->Bool
 | .non,.non=>true | .non,.int _=>true | .int _,.non=>true | .non,.bl _=>true | .bl _,.non=>true | .non,.str _=>true | .str _,.non=>true
 | .int _,.int _=>true | .bl _,.bl _=>true | .str _,.str _=>true | .byt _,.byt _=>true
 | .int _,.str _=>true | .str _,.int _=>true | .bl _,.str _=>true | .str _,.bl _=>true
 | _,_=>false
def rEq:R2:=fun x y H Q=>scal x y=true/\Q (.bl (decide (x=y))) H
def rNe:R2:=fun x y H Q=>scal x y=true/\Q (.bl (!decide (x=y))) H
theorem dec_int{i j:Int}:decide (V.int i=V.int j)=(i == j):=by
 rw [Bool.eq_iff_iff]
 simp
theorem dec_bl{i j:Bool}:decide (V.bl i=V.bl j)=(i == j):=by
 rw [Bool.eq_iff_iff]
 simp
theorem dec_str{i j:Str}:decide (V.str i=V.str j)=(i == j):=by
 rw [Bool.eq_iff_iff]
 simp
theorem dec_byt{i j:Array UInt8}:decide (V.byt i=V.byt j)=(i.toList == j.toList):=by
 rw [Bool.eq_iff_iff]
 cases i
 cases j
 simp
section
variable{X:Cx}{a b c:Expr}{ta tb tc:TE}{pos:Pos}
theorem bi{pins:List (Addr × Obj)}{σ:St}{H:Hp}{s:Shared}{Q:VK}{k k':Bool}(I:Inv X pins σ H s)(q:Q (.bl k) H)(e:k=k'):EP X pins σ Q (.bool k') s:=by
 subst e
 exact⟨.bl k,H,I,rfl,q⟩
theorem cV:OpR X (compareOp .Eq) rEq:=by
 intro pins s σ H x y v u Q I rx ry h
 obtain⟨hs,q⟩:=h
 cases x with
 | non=>
   cases rx
   cases y with
   | non=>cases ry; exact PySem.EqNone.eq_none_none (bi I q (by simp))
   | bl j=>cases ry; exact PySem.EqNone.eq_none_bool (bi I q (by simp))
   | int j=>obtain⟨t',rfl⟩:=ry; exact PySem.EqNone.eq_none_int (bi I q (by simp))
   | str j=>obtain⟨t',rfl⟩:=ry; exact PySem.EqNone.eq_none_str (bi I q (by simp))
   | _=>exact absurd (show false=true from hs) Bool.false_ne_true
 | bl i=>
   cases rx
   cases y with
   | non=>cases ry; exact PySem.EqNone.eq_bool_none (bi I q (by simp))
   | bl j=>cases ry; exact eq_bool (bi I q dec_bl)
   | str j=>obtain⟨t',rfl⟩:=ry; exact PySem.EqMixed.eq_bool_str (bi I q (by simp))
   | _=>exact absurd (show false=true from hs) Bool.false_ne_true
 | int i=>
   obtain⟨t,rfl⟩:=rx
   cases y with
   | non=>cases ry; exact PySem.EqNone.eq_int_none (bi I q (by simp))
   | int j=>obtain⟨t',rfl⟩:=ry; exact eq_int (bi I q dec_int)
   | str j=>obtain⟨t',rfl⟩:=ry; exact PySem.EqMixed.eq_int_str (bi I q (by simp))
   | _=>exact absurd (show false=true from hs) Bool.false_ne_true
 | str i=>
   obtain⟨t,rfl⟩:=rx
   cases y with
   | non=>cases ry; exact PySem.EqNone.eq_str_none (bi I q (by simp))
   | bl j=>cases ry; exact PySem.EqMixed.eq_str_bool (bi I q (by simp))
   | int j=>obtain⟨t',rfl⟩:=ry; exact PySem.EqMixed.eq_str_int (bi I q (by simp))
   | str j=>obtain⟨t',rfl⟩:=ry; exact eq_str (bi I q dec_str)
   | _=>exact absurd (show false=true from hs) Bool.false_ne_true
 | byt i=>
   obtain⟨t,rfl⟩:=rx
   cases y with
   | byt j=>obtain⟨t',rfl⟩:=ry; exact PySem.W.eq_bytes (bi I q dec_byt)
   | _=>exact absurd (show false=true from hs) Bool.false_ne_true
 | _=>cases y <;> exact absurd (show false=true from hs) Bool.false_ne_true
theorem op_ne:OpR X (compareOp .NotEq) rNe:=by
 intro pins s σ H x y v u Q I rx ry h
 obtain⟨hs,q⟩:=h
 cases x with
 | non=>
   cases rx
   cases y with
   | non=>cases ry; exact PySem.EqNone.ne_none_none (bi I q (by simp))
   | bl j=>cases ry; exact PySem.EqNone.ne_none_bool (bi I q (by simp))
   | int j=>obtain⟨t',rfl⟩:=ry; exact PySem.EqNone.ne_none_int (bi I q (by simp))
   | str j=>obtain⟨t',rfl⟩:=ry; exact PySem.EqNone.ne_none_str (bi I q (by simp))
   | _=>exact absurd (show false=true from hs) Bool.false_ne_true
 | bl i=>
   cases rx
   cases y with
   | non=>cases ry; exact PySem.EqNone.ne_bool_none (bi I q (by simp))
   | bl j=>cases ry; exact ne_bool (bi I q (congrArg not dec_bl))
   | str j=>obtain⟨t',rfl⟩:=ry; exact PySem.EqMixed.ne_bool_str (bi I q (by simp))
   | _=>exact absurd (show false=true from hs) Bool.false_ne_true
 | int i=>
   obtain⟨t,rfl⟩:=rx
   cases y with
   | non=>cases ry; exact PySem.EqNone.ne_int_none (bi I q (by simp))
   | int j=>obtain⟨t',rfl⟩:=ry; exact ne_int (bi I q (congrArg not dec_int))
   | str j=>obtain⟨t',rfl⟩:=ry; exact PySem.EqMixed.ne_int_str (bi I q (by simp))
   | _=>exact absurd (show false=true from hs) Bool.false_ne_true
 | str i=>
   obtain⟨t,rfl⟩:=rx
   cases y with
   | non=>cases ry; exact PySem.EqNone.ne_str_none (bi I q (by simp))
   | bl j=>cases ry; exact PySem.EqMixed.ne_str_bool (bi I q (by simp))
   | int j=>obtain⟨t',rfl⟩:=ry; exact PySem.EqMixed.ne_str_int (bi I q (by simp))
   | str j=>obtain⟨t',rfl⟩:=ry; exact ne_str (bi I q (congrArg not dec_str))
   | _=>exact absurd (show false=true from hs) Bool.false_ne_true
 | byt i=>
   obtain⟨t,rfl⟩:=rx
   cases y with
   | byt j=>obtain⟨t',rfl⟩:=ry; exact PySem.W.ne_bytes (bi I q (congrArg not dec_byt))
   | _=>exact absurd (show false=true from hs) Bool.false_ne_true
 | _=>cases y <;> exact absurd (show false=true from hs) Bool.false_ne_true
theorem jS:OpR X (compareOp .Lt) (rI0 fun i j=>.bl (decide (i<j))):=opB0 fun _ _ _ _ _ _ _ q=>lt_int q
theorem jT:OpR X (compareOp .LtE) (rI0 fun i j=>.bl (decide (i<=j))):=opB0 fun _ _ _ _ _ _ _ q=>le_int q
theorem jU:OpR X (compareOp .Gt) (rI0 fun i j=>.bl (decide (j<i))):=opB0 fun _ _ _ _ _ _ _ q=>gt_int q
theorem op_ge:OpR X (compareOp .GtE) (rI0 fun i j=>.bl (decide (j<=i))):=opB0 fun _ _ _ _ _ _ _ q=>ge_int q
theorem op_isN:OpR X (compareOp .Is) (fun x y H Q=>y=.non/\Q (.bl (decide (x=.non))) H):=by
 intro pins s σ H x y v u Q I rx ry h
 obtain⟨rfl,q⟩:=h
 cases ry
 refine is_none_gen (bi I q ?_)
 cases x <;> first
  | (cases rx; rfl)
  | (obtain⟨t,rfl⟩:=rx; rfl)
theorem ao(b:Expr){op:CmpOp}(h:op≠.In:=by decide)(h2:op≠.NotIn:=by decide):behindInMarks op b=false:=by
 have e1:(op == CmpOp.In)=false:=by cases op <;> first | rfl | exact absurd rfl h
 have e2:(op == CmpOp.NotIn)=false:=by cases op <;> first | rfl | exact absurd rfl h2
 cases b <;> simp [behindInMarks,e1,e2]
theorem pe_cmpR{op:CmpOp}{r:R2}(ho:OpR X (compareOp op) r)(ha:PE X a ta)(hb:PE X b tb)(hm:behindInMarks op b=false):PE X (.Compare a [op] [b] pos) (tOp r ta tb):=by
 intro pins s σ H Q I h
 exact wpAny_Compare1 (binT ha hb I h fun v u s2 x y H2 I2 rx ry q=>ho pins s2 σ H2 x y v u Q I2 rx ry q) hm
def tTest(t:TE):TT:=fun σ H Q=>t σ H fun x H'=>∃k,x=.bl k/\Q k H'
theorem ad{op:CmpOp}{r:R2}(ho:OpR X (compareOp op) r)(ha:PE X a ta)(hb:PE X b tb)(hm:behindInMarks op b=false):PT X (.Compare a [op] [b] pos) (tTest (tOp r ta tb)):=by
 intro pins s σ H Q I h
 refine wpAny_isTrue_Compare1 (thn (ha pins s σ H _ I h) fun v s1 ⟨x,H1,I1,r1,q1⟩=>thn (hb pins s1 σ H1 _ I1 q1) fun u s2 ⟨y,H2,I2,r2,q2⟩=>
  thn (ho pins s2 σ H2 x y v u _ I2 r1 r2 q2) fun c s3 ⟨z,H3,I3,r3,k,e,q3⟩=>?_) hm
 subst e
 cases r3
 exact wpAny_truthy_bool ⟨H3,I3,q3⟩
theorem line63:(sizeLine:Nat)<2^63:=by rw [sizeLine_eq]; decide
theorem vals1{x:V}{us:List Value}(r:ay [x] us):∃u,us=[u]/\RelV x u:=by
 cases r with
 | cons r1 r2=>cases r2; exact⟨_,rfl,r1⟩
theorem vals2{x y:V}{us:List Value}(r:ay [x,y] us):∃u w',us=[u,w']/\RelV x u/\RelV y w':=by
 cases r with
 | cons r1 r2=>
   cases r2 with
   | cons r3 r4=>cases r4; exact⟨_,_,rfl,r1,r3⟩
theorem call_max2(hc:X.calm=true):ft X (.builtin "max") (fun xs H Q=>∃i j,xs=[.int i,.int j]/\Q (.int (if j > i then j else i)) H):=by
 intro pins s σ H xs us Q I r h
 obtain⟨i,j,rfl,q⟩:=h
 obtain⟨u,w',rfl,⟨t,rfl⟩,⟨t',rfl⟩⟩:=vals2 r
 refine max_two_ints (I.ok.hd hc) fun h' tk k=>⟨_,H,I.kept k,?_,q⟩
 by_cases hj:j > i
 ·rw [if_pos hj,if_pos hj]; exact⟨_,rfl⟩
 ·rw [if_neg hj,if_neg hj]; exact⟨_,rfl⟩
end
end L2
namespace L2
open PySem PySem.Spec PyProof.Rows
structure ObjM(h:Heap)(x dx C:Addr)(mA:Str->Option Value):Prop where
 obj:h.get? x=some (PySem.W.instObj C dx)
 ns:h.Ns1 dx mA
 ne:dx≠x
theorem lookIn_ns{h:Heap}{dx:Addr}{mA:Str->Option Value}(n:h.Ns1 dx mA):∃od,h.get? dx=some od/\∀name,PySem.W.lookIn name od=some (mA name):=by
 obtain⟨o,es,ep,ho,hd,hk,_,hm⟩:=n
 refine⟨o,ho,fun name=>?_⟩
 have e:=hm name
 unfold nsFind findBy at e
 rw [<- Array.find?_toList] at e
 unfold PySem.W.lookIn
 rw [hd]
 dsimp only
 split
 ·rename_i y q
  rw [q] at e
  exact congrArg some e
 ·rename_i q
  rw [q] at e
  have a:es.toList.any (·.refKey)=false:=by
   rw [List.any_eq_false]
   intro y hy
   obtain⟨z,t,hkey⟩:=hk y (Array.mem_toList_iff.mp hy)
   simp [DictEntry.refKey,hkey]
  have a':¬ es.toList.any (·.refKey)=true:=by rw [a]; exact Bool.false_ne_true
  rw [if_neg a']
  exact congrArg some e
theorem ObjM.look{h:Heap}{x dx C:Addr}{mA:Str->Option Value}(I:ObjM h x dx C mA):∃od,PySem.W.InstAt h x (PySem.W.instObj C dx) C (some od)/\∀name,PySem.W.lookIn name od=some (mA name):=
 let ⟨od,ho,hl⟩:=lookIn_ns I.ns
 ⟨od,⟨I.obj,rfl,rfl,ho⟩,hl⟩
section
variable{prog:Program}{w:World}{A:Around}{E:Value->Shared->Prop}{s:Shared}{K:PySem.W.Frag}{x dx C f:Addr}{mA:Str->Option Value}{name:Str}{v:Value}
theorem get_map{expr:Bool}{Q:Value->Shared->Prop}(X:K.In s.heap)(I:ObjM s.heap x dx C mA)(hg:PySem.W.plainGet K C name=true)(hh:PySem.W.hasDictIn K C=true)
  (ha:PySem.W.findIn K (.ref C) name=some none) (hv:mA name=some v) (hv':PySem.W.handedIn v=true) (h:Q v {s with toks:=s.toks+1}) :
  wpAny (model prog w) A (getAttr (.ref x) name expr) Q E s:=by
 obtain⟨od,J,hl⟩:=I.look
 exact PySem.W.get_value X J (PySem.W.plainGet_of hg).1 (PySem.W.findObj_own hh ha rfl (by rw [hl,hv])) hv' h
theorem set_map{ns:List Str}{Q:Unit->Shared->Prop}(X:K.In s.heap)(I:ObjM s.heap x dx C mA)
  (hs:PySem.W.findIn K (.ref C) "__setattr__"=some (some (.builtin "object.__setattr__"))) (hp:PySem.W.plainOver K C=true) (ht:PySem.W.takerIn K C name=some none) (hh:PySem.W.hasDictIn K C=true)
  (hw:PySem.Within mA ns) (hsz:ns.length<=sizeLine)
  (h:∀h',ObjM h' x dx C (fun y=>if y=name then some v else mA y)->Heap.SameBut dx s.heap h'->Q () {s with heap:=h',toks:=s.toks+2}) :
  wpAny (model prog w) A (setAttr (.ref x) name v) Q E s:=by
 obtain⟨od,J,hl⟩:=I.look
 refine PySem.W.set_plain X J hs (PySem.W.osa_open (s:={s with toks:=s.toks+1}) (r:=none) X J hp ht fun b=>?_)
 obtain⟨cd,hc,hd'⟩:=PySem.W.any_some hh
 have hx:s.heap.get? x=some ⟨.ref C,some dx,.plain,#[]⟩:=I.obj
 refine wpAny_bind (wpAny_pure (wpAny_bind (wpAny_bind (wpAny_loadPart hx (wpAny_bind (PySem.W.Looks.here (s:={s with toks:=s.toks+1}) (PySem.W.looks_clsIn X hc) ?_))))))
 rw [hd']
 refine wpAny_pure (a:=some dx) (wpAny_bind (wpAny_pure (wpAny_bind ?_)))
 refine wpAny_nsSet1 (s:={s with toks:=s.toks+1}) I.ns fun h' hn2 hs2=>?_
 obtain⟨oD,esD,epD,hoD,hdD,hcD⟩:=hn2.count (PySem.Within.cons name v hw)
 refine wpAny_bind (wpAny_lookBehind hoD (by rw [hdD]; exact pastItsLine_dict (Nat.le_trans hcD (by rw [List.length_cons]; omega))) ?_)
 exact wpAny_pure (h _ ⟨(hs2.2 _ (Ne.symm I.ne)).trans I.obj,hn2,I.ne⟩ hs2)
theorem make_map{R:Result->Shared->Prop}{vs:List Value}{kw:List (Str × Value)}(X:K.In s.heap)(hm:PySem.W.makesIn K C=true)
  (hi:PySem.W.findIn K (.ref C) "__init__"=some (some (.ref f))) (hf:PySem.W.typeIn K (.ref f)=some (.type "function"))
  (h:codeAny (model prog w) (A.under (.builtin "type.__call__" ⟨.ref C::vs,kw⟩)) (.call (.ref f) ⟨.ref (s.heap.objs.size+1)::vs,kw⟩) (PySem.W.InitBack (s.heap.objs.size+1) R)
   {s with heap:=(s.heap.push PySem.W.emptyDict).push (PySem.W.instObj C s.heap.objs.size)}) :
  codeAny (model prog w) A (.call (.ref C) ⟨vs,kw⟩) R s:=by
 obtain⟨hh,g,d,t,os⟩:=s
 exact PySem.W.make_core (PySem.W.makes_of X hm) (PySem.W.looks_findIn X hi) (fun self=>PySem.W.bind_fn X self hf) (.inl rfl) h
end
def b6(f:Str)(v:V):List (Str × V)->List (Str × V)
 | []=>[(f,v)]
 | (g,x)::r=>if g=f then(g,v)::r else(g,x)::b6 f v r
theorem dz(f g:Str)(v:V):∀fs:List (Str × V),(b6 f v fs).lookup g=if g=f then some v else fs.lookup g
 | []=>by
   show List.lookup g [(f,v)]=_
   by_cases h:g=f
   ·have hb:(g == f)=true:=beq_iff_eq.mpr h
    simp only [List.lookup,hb,if_pos h]
   ·have hb:(g == f)=false:=beq_eq_false_iff_ne.mpr h
    simp only [List.lookup,hb,if_neg h]
 | (k,x)::r=>by
   have ih:=dz f g v r
   rw [show b6 f v ((k,x)::r)=(if k=f then(k,v)::r else(k,x)::b6 f v r) from rfl]
   by_cases hk:k=f
   ·rw [if_pos hk]
    by_cases h:g=k
    ·have hb:(g == k)=true:=beq_iff_eq.mpr h
     simp only [List.lookup,hb,if_pos (h.trans hk)]
    ·have hb:(g == k)=false:=beq_eq_false_iff_ne.mpr h
     simp only [List.lookup,hb,if_neg (fun e:g=f=>h (e.trans hk.symm))]
   ·rw [if_neg hk]
    by_cases h:g=k
    ·have hb:(g == k)=true:=beq_iff_eq.mpr h
     simp only [List.lookup,hb,if_neg (fun e:g=f=>hk (h.symm.trans e))]
    ·have hb:(g == k)=false:=beq_eq_false_iff_ne.mpr h
     simp only [List.lookup,hb]
     exact ih
theorem keys_putF(f:Str)(v:V):∀fs:List (Str × V),f∈(b6 f v fs).map (·.1)/\∀g,g∈fs.map (·.1)->g∈(b6 f v fs).map (·.1)
 | []=>⟨by simp [b6],fun g h=>by simp at h⟩
 | (k,x)::r=>by
   obtain⟨i1,i2⟩:=keys_putF f v r
   rw [show b6 f v ((k,x)::r)=(if k=f then(k,v)::r else(k,x)::b6 f v r) from rfl]
   by_cases hk:k=f
   ·rw [if_pos hk]
    subst hk
    exact⟨by simp,fun g h=>by simpa using h⟩
   ·rw [if_neg hk]
    refine⟨?_,fun g h=>?_⟩
    ·rw [List.map_cons]
     exact List.mem_cons_of_mem _ i1
    ·rw [List.map_cons] at h ⊢
     rcases List.mem_cons.mp h with e | e
     ·exact List.mem_cons.mpr (.inl e)
     ·exact List.mem_cons_of_mem _ (i2 g e)
theorem length_putF(f:Str)(v:V):∀fs:List (Str × V),(b6 f v fs).length<=fs.length+1
 | []=>by simp [b6]
 | (k,x)::r=>by
   have ih:=length_putF f v r
   rw [show b6 f v ((k,x)::r)=(if k=f then(k,v)::r else(k,x)::b6 f v r) from rfl]
   by_cases hk:k=f
   ·rw [if_pos hk,List.length_cons,List.length_cons]; omega
   ·rw [if_neg hk,List.length_cons,List.length_cons]; omega
theorem jO.some_of{v:V}{o:Option Value}(r:jO (some v) o):∃u,o=some u/\RelV v u:=by
 cases o with
 | none=>exact(show False from r).elim
 | some u=>exact⟨u,rfl,r⟩
theorem handed_of{v:V}{u:Value}(r:RelV v u):PySem.W.handedIn u=true:=by
 cases v with
 | non=>cases (show u=Value.none from r); rfl
 | bl b=>cases (show u=Value.bool b from r); rfl
 | int i=>obtain⟨t,e⟩:=(show ∃t,u=Value.int i t from r); cases e; rfl
 | str x=>obtain⟨t,e⟩:=(show ∃t,u=Value.str x t from r); cases e; rfl
 | byt b=>obtain⟨t,e⟩:=(show ∃t,u=Value.bytes b t from r); cases e; rfl
 | flt b=>obtain⟨t,e⟩:=(show ∃t,u=Value.float b t from r); cases e; rfl
 | ref a=>cases (show u=Value.ref a from r); rfl
 | ty n=>cases (show u=Value.type n from r); rfl
section
variable{P:Program}{w:World}{H H':Hp}{h h':Heap}{a C dx:Addr}{fs fs':List (Str × V)}
theorem ins_get(hok:HOk P w H h)(e:H a=some (.ins C dx fs)):∃mA,ObjM h a dx C mA/\(∀f,jO (fs.lookup f) (mA f))/\PySem.Within mA (fs.map (·.1))/\fs.length<=1000/\H dx=some (.own a):=by
 obtain⟨d,z,ne,ob,mA,n,r,q⟩:=(show dP P w H h a (.ins C dx fs) from hok a _ e)
 exact⟨mA,⟨ob,n,ne⟩,r,q,z,d⟩
end
structure Cls(K:PySem.W.Frag)(C:Addr):Prop where
 pg:PySem.W.plainGet K C Str.empty=true
 hd:PySem.W.hasDictIn K C=true
 po:PySem.W.plainOver K C=true
 sa:PySem.W.findIn K (.ref C) "__setattr__"=some (some (.builtin "object.__setattr__"))
theorem Cls.get{K:PySem.W.Frag}{C:Addr}(c:Cls K C)(f:Str):PySem.W.plainGet K C f=true:=c.pg
def cT(K:PySem.W.Frag)(C:Addr)(f:Str):Prop:=PySem.W.findIn K (.ref C) f=some none
theorem cT.taker{K:PySem.W.Frag}{C:Addr}{f:Str}(n:cT K C f):PySem.W.takerIn K C f=some none:=by
 unfold PySem.W.takerIn
 rw [show PySem.W.findIn K (.ref C) f=some none from n]
 rfl
section
variable{X:Cx}{pins:List (Addr × Obj)}{σ:St}{H:Hp}{s:Shared}{a C dx:Addr}{fs:List (Str × V)}{f:Str}{v:V}{A:Around}{E:Value->Shared->Prop}
theorem getattr_ok{b:Bool}{Q:Value->Shared->Prop}(I:Inv X pins σ H s)(e:H a=some (.ins C dx fs))(c:Cls X.K C)(n:cT X.K C f)(l:fs.lookup f=some v)
  (h:∀u s',Inv X pins σ H s'->RelV v u->Q u s'):wpAny (model X.prog X.w) A (getAttr (.ref a) f b) Q E s:=by
 obtain⟨mA,O,r,_,_,_⟩:=ins_get I.hok e
 obtain⟨u,hu,ru⟩:=jO.some_of (v:=v) (o:=mA f) (by rw [<- l]; exact r f)
 exact get_map I.kIn O (c.get f) c.hd n hu (handed_of ru) (h u _ (I.tok _) ru)
theorem setattr_ok{y:V}{u:Value}{Q:Unit->Shared->Prop}(I:Inv X pins σ H s)(e:H a=some (.ins C dx fs))(c:Cls X.K C)(n:cT X.K C f)(hl:fs.length<1000)(ry:RelV y u)
  (h:∀s',Inv X pins σ (upd H a (.ins C dx (b6 f y fs))) s'->Q () s'):wpAny (model X.prog X.w) A (setAttr (.ref a) f u) Q E s:=by
 obtain⟨mA,O,r,wi,_,ho⟩:=ins_get I.hok e
 have hz:(fs.map (·.1)).length<=sizeLine:=by rw [List.length_map,sizeLine_eq]; omega
 refine set_map I.kIn O c.sa c.po n.taker c.hd wi hz fun h' O' sb=>h _ ?_
 have hd:∃o,h'.get? dx=some o:=let ⟨o,_,_,e',_⟩:=O'.ns; ⟨o,e'⟩
 refine I.write (x:=a) (e:=dx) (by rw [e]; exact True.intro) (.inr ho) (fun b q hb z=>(sb.2 b hb).trans z) hd ?_
 refine⟨by rw [aO O.ne]; exact ho,?_,O.ne,O'.obj,_,O'.ns,fun g=>?_,fun g hg=>?_⟩
 ·have:=length_putF f y fs; omega
 ·show jO ((b6 f y fs).lookup g) (if g=f then some u else mA g)
  rw [dz]
  by_cases q:g=f
  ·rw [if_pos q,if_pos q]; exact ry
  ·rw [if_neg q,if_neg q]; exact r g
 ·by_cases q:g=f
  ·rw [q]; exact(keys_putF f y fs).1
  ·refine(keys_putF f y fs).2 g (wi g fun z=>hg ?_)
   show(if g=f then some u else mA g)=none
   rw [if_neg q]; exact z
theorem Inv.made(I:Inv X pins σ H s):Inv X pins σ (upd (upd H s.heap.objs.size (.own (s.heap.objs.size+1))) (s.heap.objs.size+1) (.ins C s.heap.objs.size []))
  {s with heap:=(s.heap.push PySem.W.emptyDict).push (PySem.W.instObj C s.heap.objs.size)}:=by
 have e1:(s.heap.push PySem.W.emptyDict).get? s.heap.objs.size=some PySem.W.emptyDict:=Heap.get?_push_size s.heap rfl
 have e2:((s.heap.push PySem.W.emptyDict).push (PySem.W.instObj C s.heap.objs.size)).get? (s.heap.objs.size+1)=some (PySem.W.instObj C s.heap.objs.size):=by
  have:=Heap.get?_push_size (s.heap.push PySem.W.emptyDict) (o:=PySem.W.instObj C s.heap.objs.size) rfl
  rwa [Heap.size_push] at this
 have e3:(s.heap.push PySem.W.emptyDict).Ns s.heap.objs.size (fun _=>none):=⟨PySem.W.emptyDict,#[],_,e1,rfl,(fun e he=>absurd he (by simp)),fun _=>rfl⟩
 have I1:=I.laid (a:=s.heap.objs.size) (o:=.own (s.heap.objs.size+1)) (h':=s.heap.push PySem.W.emptyDict) (t':=s.toks) (fun b u q=>Heap.get?_push_of_some _ q) (Nat.le_refl _) ⟨_,e1⟩
 refine I1.laid (a:=s.heap.objs.size+1) (o:=.ins C s.heap.objs.size []) (t':=s.toks) (fun b u q=>Heap.get?_push_of_some _ q) (Nat.le_of_eq (Heap.size_push _ _)) ?_
 have ne:s.heap.objs.size≠s.heap.objs.size+1:=Nat.ne_of_lt (Nat.lt_succ_self _)
 refine⟨by rw [aO ne,aB],Nat.zero_le _,ne,e2,fun _=>none,(Heap.Ns1.of_empty e3).at fun o q=>Heap.get?_push_of_some _ q,fun _=>True.intro,fun y hy=>absurd rfl hy⟩
theorem attr_of{prog:Program}{w:World}{env:Env}{e:Expr}{f:Str}{pos:Pos}{s:Shared}{Q:Value->Shared->Prop}(hb:attributeBase e f env (eval e env)=eval e env)
  (h:wpAny (model prog w) A (eval e env) (fun o s₁=>wpAny (model prog w) A (getAttr o f true) Q E s₁) E s):wpAny (model prog w) A (eval (.Attribute e f pos) env) Q E s:=
 Attribute_any_ h (by rw [arm_eval_Attribute,hb])
end
def tFld(K:PySem.W.Frag)(ta:TE)(f:Str):TE:=fun σ H Q=>ta σ H fun x H1=>∃a C dx fs v,x=.ref a/\H1 a=some (.ins C dx fs)/\Cls K C/\cT K C f/\fs.lookup f=some v/\Q v H1
def sFld(K:PySem.W.Frag)(ta tv:TE)(f:Str):TS:=fun D σ H=>tv σ H fun y H1=>ta σ H1 fun x H2=>∃a C dx fs,x=.ref a/\H2 a=some (.ins C dx fs)/\Cls K C/\cT K C f/\fs.length<1000/\
 D.nx σ (upd H2 a (.ins C dx (b6 f y fs)))
section
variable{X:Cx}{o e value:Expr}{f:Str}{pos pos' tpos:Pos}{ta tv:TE}
theorem ae(he:PE X e ta)(hb:attributeBase e f X.env (eval e X.env)=eval e X.env):PE X (.Attribute e f pos) (tFld X.K ta f):=by
 intro pins s σ H Q I h
 refine attr_of hb (thn (he pins s σ H _ I h) fun u s1 ⟨x,H1,I1,rx,a,C,dx,fs,v,ex,ea,c,n,l,q⟩=>?_)
 subst ex
 obtain rfl:u=Value.ref a:=rx
 exact getattr_ok I1 ea c n l fun u' s2 I2 ru=>⟨v,H1,I2,ru,q⟩
theorem dD(ha:PE X o ta)(hv:PE X value tv)(hs:swapsWith value (some (.Attribute o f pos')) pos.line X.env=pure false):PS X (.Assign [.Attribute o f pos'] value pos) (sFld X.K ta tv f):=by
 intro pins s σ H D I h
 refine plainObj_wpAny_Assign_Attribute (thn (hv pins s σ H _ I h) fun u s1 ⟨y,H1,I1,ry,q⟩=>thn (ha pins s1 σ H1 _ I1 q) fun ov s2 ⟨x,H2,I2,rx,a,C,dx,fs,ex,ea,c,n,l,q2⟩=>?_) hs
 subst ex
 obtain rfl:ov=Value.ref a:=rx
 exact setattr_ok I2 ea c n l ry fun s3 I3=>⟨σ,_,I3,q2⟩
end
section
variable{X:Cx}{pins:List (Addr × Obj)}{σ:St}{H:Hp}{s:Shared}{A:Around}{E:Value->Shared->Prop}{Q:Value->Shared->Prop}{c:Value}{b:Bool}
end
end L2
namespace L2
open PySem PySem.Spec PyProof.Rows
structure Room(k:Nat)(A:Around):Prop where
 hd:A.handled=none
 dp:A.depth+3*k+5<recursionLimit
 un:A.units+16*k+200<cLine
theorem Room.mono{j k:Nat}{A:Around}(r:Room k A)(h:j<=k):Room j A:=⟨r.hd,by have:=r.dp; omega,by have:=r.un; omega⟩
theorem Room.deeper{k:Nat}{A:Around}(r:Room (k+1) A)(env:Env):Room k (A.deeper env):=
 ⟨r.hd,by have:=r.dp; show A.depth+1+3*k+5<_; omega,by have:=r.un; show A.units+3+16*k+200<_; omega⟩
theorem Room.in1{k:Nat}{A:Around}(r:Room (k+1) A):Room k A.in1:=
 ⟨r.hd,by have:=r.dp; show A.depth+3*k+5<_; omega,by have:=r.un; show A.units+1+16*k+200<_; omega⟩
theorem make_depth{A:Around}{C:Addr}{us:List Value}{kw:List (Str × Value)}:(A.under (.builtin "type.__call__" ⟨.ref C::us,kw⟩)).depth=A.depth+1:=by
 first | rfl | simp [Around.under,Code.weight,Code.isCreation,Code.isGuard,Code.isCaller,Code.frames,Code.isFrame,guardIds]
theorem make_units{A:Around}{C:Addr}{us:List Value}{kw:List (Str × Value)}:(A.under (.builtin "type.__call__" ⟨.ref C::us,kw⟩)).units=A.units+1:=by
 first | rfl | simp [Around.under,Code.cUnits,Code.frames,Code.isFrame]
theorem Room.make{k:Nat}{A:Around}(r:Room (k+1) A)(C:Addr)(us:List Value)(kw:List (Str × Value)):Room k (A.under (.builtin "type.__call__" ⟨.ref C::us,kw⟩)):=
 ⟨r.hd,by have:=r.dp; rw [make_depth]; omega,by have:=r.un; rw [make_units]; omega⟩
theorem Room.depth{k:Nat}{A:Around}(r:Room k A):A.depth<recursionLimit:=by have:=r.dp; omega
theorem Room.units{k:Nat}{A:Around}(r:Room k A):A.units+64<cLine:=by have:=r.un; omega
theorem Room.units0{k:Nat}{A:Around}(r:Room k A):A.units<cLine:=by have:=r.un; omega
def tNil:TA:=fun _ H Q=>Q [] H
def tCons(ta:TE)(tr:TA):TA:=fun σ H Q=>ta σ H fun x H1=>tr σ H1 fun xs H2=>Q (x::xs) H2
section
variable{X:Cx}{e:Expr}{es:List Expr}{te:TE}{t:TA}{pos:Pos}
theorem aE:PA X [] tNil:=fun _ _ _ _ H Q I h=>Calls.spliced_nil ⟨[],H,I,.nil,h⟩
theorem aA(ha:PE X e te)(hr:PA X es t)(hs:starEach (e::es) X.env=(false,eval e X.env)::starEach es X.env:=by rfl):PA X (e::es) (tCons te t):=by
 intro pos pins s σ H Q I h
 rw [hs]
 show wpAny _ _ (spliced ((false,eval e X.env)::backTo pos (starEach es X.env))) _ _ s
 refine Calls.spliced_cons (thn (ha pins s σ H _ I h) fun u s1 ⟨x,H1,I1,r1,q1⟩=>?_)
 exact thn (hr pos pins s1 σ H1 _ I1 q1) fun us s2 ⟨xs,H2,I2,r2,q2⟩=>⟨x::xs,H2,I2,.cons r1 r2,q2⟩
def tTup(t:TA):TE:=fun σ H Q=>t σ H fun xs H1=>xs.length<=sizeLine/\∀p,H1 p=none->Q (.ref p) (upd H1 p (.tup xs))
def tLst(t:TA):TE:=fun σ H Q=>t σ H fun xs H1=>xs.length<=sizeLine/\∀p,H1 p=none->Q (.ref p) (upd H1 p (.lst xs))
theorem pe_tup{x1}(h:PA X es t):PE X (.Tuple es x1 pos) (tTup t):=by
 intro pins s σ H Q I hq
 refine wpAny_Tuple_spliced (thn (h pos pins s σ H _ I hq) fun us s1 ⟨xs,H1,I1,r,z,q⟩=>⟨by rw [<- r.length]; exact z,?_⟩)
 have hf:H1 s1.heap.objs.size=none:=I1.hok.fresh (Nat.le_refl _)
 refine⟨.ref s1.heap.objs.size,upd H1 s1.heap.objs.size (.tup xs),I1.laid (t':=s1.toks) (fun b u e=>Heap.get?_push_of_some _ e) (Nat.le_refl _) ?_,rfl,q _ hf⟩
 exact⟨z,us,r,⟨_,Heap.get?_push_size _ rfl,rfl,_,rfl⟩⟩
theorem bJ(h:PA X es t):PE X (.List es pos) (tLst t):=by
 intro pins s σ H Q I hq
 refine wpAny_List_spliced (thn (h pos pins s σ H _ I hq) fun us s1 ⟨xs,H1,I1,r,z,q⟩=>⟨by rw [<- r.length]; exact z,?_⟩)
 have hf:H1 s1.heap.objs.size=none:=I1.hok.fresh (Nat.le_refl _)
 refine⟨.ref s1.heap.objs.size,upd H1 s1.heap.objs.size (.lst xs),I1.laid (t':=s1.toks) (fun b u e=>Heap.get?_push_of_some _ e) (Nat.le_refl _) ?_,rfl,q _ hf⟩
 exact⟨z,us,0,r,Heap.get?_push_size _ rfl⟩
end
abbrev Sp:=List V->Hp->VK->XK->Prop
abbrev CXT:=List Env->Hp->Shared->XK->Value->Shared->Prop
structure Env0(P:Program)(w:World)(K:PySem.W.Frag)(mg:Str->Option Value)(base:Heap)(A:Around)(outer:List Env)(s:Shared)(H:Hp):Prop where
 frames:A.frames=some outer
 mod:Mod K mg base
 bs:∀b o,base.get? b=some o->s.heap.get? b=some o/\H b=none
 bsz:base.objs.size<=s.heap.objs.size
 funs:s.heap.FunFrames base outer
 frf:∀b∈frs outer,H b=none
 hok:HOk P w H s.heap
 bare:AllBare s.gens
def CE(outer:List Env)(P:Program)(w:World)(H:Hp)(s:Shared)(Q:VK)(u:Value)(s':Shared):Prop:=
 ∃v H',s'.os=s.os/\AllBare s'.gens/\Un (frs outer) [] H H' s.heap s'.heap/\HOk P w H' s'.heap/\RelV v u/\Q v H'
def CR(CX:CXT)(outer:List Env)(P:Program)(w:World)(H:Hp)(s:Shared)(Q:VK)(E:XK)(r:Result)(s':Shared):Prop:=
 match r with
 | .ok (.ret u)=>CE outer P w H s Q u s'
 | .ok _=>False
 | .error e=>CX outer H s E e s'
structure FnOk(P:Program)(w:World)(K:PySem.W.Frag)(mg:Str->Option Value)(base:Heap)(CX:CXT)(k:Nat)(f:Addr)(fd:FuncData)(ps:List Str)(sp:Sp):Prop where
 len:∀vs H Q E,sp vs H Q E->vs.length=ps.length
 run:∀(A:Around)(outer:List Env)(s:Shared)(H:Hp)(args:Args)(us:List Value)(vs:List V)(Q:VK)(E:XK),Room k A->Env0 P w K mg base A outer s H->BindsTo s fd args (ps.zip us)->ay vs us->sp vs H Q E->
  codeAny (model P w) A (.call (.ref f) args) (CR CX outer P w H s Q E) s
theorem Env0.make{P:Program}{w:World}{K:PySem.W.Frag}{mg:Str->Option Value}{base:Heap}{A:Around}{outer:List Env}{s:Shared}{H:Hp}(e:Env0 P w K mg base A outer s H)(C:Addr)(us:List Value)(kw:List (Str × Value)) :
  Env0 P w K mg base (A.under (.builtin "type.__call__" ⟨.ref C::us,kw⟩)) outer s H:=⟨by first | exact e.frames | (simpa [Around.under,Code.envs,Code.isFrame,pushEnvs] using e.frames),e.mod,e.bs,e.bsz,e.funs,e.frf,e.hok,e.bare⟩
theorem Env0.in1{P:Program}{w:World}{K:PySem.W.Frag}{mg:Str->Option Value}{base:Heap}{A:Around}{outer:List Env}{s:Shared}{H:Hp}(e:Env0 P w K mg base A outer s H) :
  Env0 P w K mg base A.in1 outer s H:=⟨e.frames,e.mod,e.bs,e.bsz,e.funs,e.frf,e.hok,e.bare⟩
section
variable{X:Cx}{pins:List (Addr × Obj)}{σ:St}{H:Hp}{s s':Shared}
theorem Inv.env0(I:Inv X pins σ H s):Env0 X.prog X.w X.K X.mg X.base X.A X.stack s H:=
 ⟨I.ok.frames,I.ok.mod,I.bs,Nat.le_trans I.ok.bsz I.sz,I.stack,I.stkFree,I.hok,I.bare⟩
theorem Inv.after{Q:VK}{u:Value}(I:Inv X pins σ H s)(h:CE X.stack X.prog X.w H s Q u s'):EP X pins σ Q u s':=by
 obtain⟨v,H',os,bare,un,hok,r,q⟩:=h
 obtain⟨hh,g,d,t,os'⟩:=s'
 obtain rfl:os'=s.os:=os
 exact⟨v,H',I.call (h':=hh) (g':=g) (d':=d) (t':=t) (ch:=[]) un hok bare (fun b z=>absurd z (by simp)),r,q⟩
end
def tCall(sp:Sp)(dvs:List V)(E:XK)(t:TA):TE:=fun σ H Q=>t σ H fun vs H1=>sp (vs++dvs) H1 Q E
def tMake(C:Addr)(sp:Sp)(dvs:List V)(E:XK)(t:TA):TE:=fun σ H Q=>t σ H fun vs H1=>∀x dx,H1 x=none->H1 dx=none->dx≠x->
 sp (.ref x::(vs++dvs)) (upd (upd H1 dx (.own x)) x (.ins C dx [])) (fun v H2=>v=.non/\Q (.ref x) H2) E
def Binds(K:PySem.W.Frag)(fd:FuncData)(ps:List Str)(ds:List Value):Prop:=
 ∀(s:Shared)(us:List Value),K.In s.heap->(us++ds).length=ps.length->BindsTo s fd ⟨us,[]⟩ (ps.zip (us++ds))
theorem Binds.all{K:PySem.W.Frag}{fd:FuncData}{ps:List Str}(h:∀us:List Value,us.length=ps.length->bindArgs fd ⟨us,[]⟩=pure (ps.zip us)):Binds K fd ps []:=fun s us _ hl=>by
 rw [List.append_nil] at hl ⊢
 exact .of_eq (h us hl)
def gj(CX:CXT)(X:Cx)(E:XK):Prop:=∀(pins:List (Addr × Obj))(σ:St)(H:Hp)(s:Shared)(e:Value)(s':Shared),Inv X pins σ H s->CX X.stack H s E e s'->X.xe e s'
section
variable{X:Cx}{CX:CXT}{k:Nat}{f C:Addr}{fd:FuncData}{ps:List Str}{sp:Sp}{dvs:List V}{ds:List Value}{E:XK}{x m:Str}{p pos apos:Pos}{e o:Expr}{es:List Expr}{ta:TE}{t:TA}
theorem run_fn{pins:List (Addr × Obj)}{σ:St}{H:Hp}{s:Shared}{Q:VK}{us:List Value}{vs:List V}(F:FnOk X.prog X.w X.K X.mg X.base CX k f fd ps sp)(hr:Room k X.A)(hb:Binds X.K fd ps ds)(hd:ay dvs ds)(hx:gj CX X E)
  (I:Inv X pins σ H s) (r:ay vs us) (h:sp (vs++dvs) H Q E):wpAny (model X.prog X.w) X.A (call (.ref f) us) (EP X pins σ Q) X.xe s:=by
 have r2:ay (vs++dvs) (us++ds):=r.append hd
 have hl:(us++ds).length=ps.length:=by rw [<- r2.length]; exact F.len _ _ _ _ h
 refine wpAny_call (codeAny_mono (F.run X.A X.stack s H ⟨us,[]⟩ (us++ds) (vs++dvs) Q E hr I.env0 (hb s us I.kIn hl) r2 h) fun r s' hq=>?_)
 cases r with
 | error e=>exact hx pins σ H s e s' I hq
 | ok fl=>
   cases fl with
   | ret u=>exact I.after hq
   | next=>exact False.elim hq
   | brk=>exact False.elim hq
   | cont=>exact False.elim hq
theorem aJ(F:FnOk X.prog X.w X.K X.mg X.base CX k f fd ps sp)(hr:Room k X.A)(hg:Gl X x)(hm:X.mg x=some (.ref f))(hk:PySem.W.keepIn X.K (.ref f)=true)(hb:Binds X.K fd ps ds)(hd:ay dvs ds)(hx:gj CX X E)
  (ha:PA X (e::es) t) (hdb:(x == ("__debug__":Str))=false:=by decide) (he:starEach (e::es) X.env=(false,eval e X.env)::starEach es X.env:=by rfl) (hpl:(backTo pos (starEach es X.env)).any (·.1)=false:=by rfl) :
  PE X (.Call (.Name x p) (e::es) [] pos) (tCall sp dvs E t):=by
 intro pins s σ H Q I h
 refine wpAny_Call_Name_kw (iC I hg hm ?_ hdb)
 refine PySem.W.callWith_K (h₀:=X.base) I.ok.mod.kin hk (thn (ha pos pins s σ H _ I h) fun us s1 ⟨vs,H1,I1,r,q⟩=>⟨I1.kIn,?_⟩) he hpl
 exact run_fn F hr hb hd hx I1 r q
structure Mk(K:PySem.W.Frag)(C f:Addr):Prop where
 makes:PySem.W.makesIn K C=true
 init:PySem.W.findIn K (.ref C) "__init__"=some (some (.ref f))
 fn:PySem.W.isFn K (.ref f)=true
 kp:PySem.W.keepIn K (.ref C)=true
theorem run_make{pins:List (Addr × Obj)}{σ:St}{H:Hp}{s:Shared}{Q:VK}{us:List Value}{vs:List V}(M:Mk X.K C f)(F:FnOk X.prog X.w X.K X.mg X.base CX k f fd ps sp)(hr:Room (k+1) X.A)(hb:Binds X.K fd ps ds)(hd:ay dvs ds)
  (hx:gj CX X E) (I:Inv X pins σ H s) (r:ay vs us)
  (h:∀x dx,H x=none->H dx=none->dx≠x->sp (.ref x::(vs++dvs)) (upd (upd H dx (.own x)) x (.ins C dx [])) (fun v H2=>v=.non/\Q (.ref x) H2) E) :
  wpAny (model X.prog X.w) X.A (call (.ref C) us) (EP X pins σ Q) X.xe s:=by
 have hq:=h (s.heap.objs.size+1) s.heap.objs.size (I.hok.fresh (Nat.le_succ _)) (I.hok.fresh (Nat.le_refl _)) (Nat.ne_of_lt (Nat.lt_succ_self _))
 have I2:=Inv.made (C:=C) I
 have r2:ay (V.ref (s.heap.objs.size+1)::(vs++dvs)) (Value.ref (s.heap.objs.size+1)::(us++ds)):=.cons rfl (r.append hd)
 have hl:(Value.ref (s.heap.objs.size+1)::us++ds).length=ps.length:=by
  have e:=r2.length
  rw [F.len _ _ _ _ hq] at e
  exact e.symm
 refine wpAny_call (make_map (f:=f) I.kIn M.makes M.init (beq_iff_eq.mp M.fn) (codeAny_mono (F.run _ X.stack _ _ ⟨Value.ref (s.heap.objs.size+1)::us,[]⟩ (Value.ref (s.heap.objs.size+1)::(us++ds)) _ _ E (hr.make C us [])
  (I2.env0.make C us []) (hb _ (Value.ref (s.heap.objs.size+1)::us) I2.kIn hl) r2 hq) fun r s' hq'=>?_))
 cases r with
 | error e=>exact hx pins σ _ _ e s' I2 hq'
 | ok fl=>
   cases fl with
   | ret u=>
     obtain⟨v,H',I3,rv,ev,q3⟩:=I2.after hq'
     subst ev
     exact⟨rv,⟨V.ref (s.heap.objs.size+1),H',I3,rfl,q3⟩⟩
   | next=>exact False.elim hq'
   | brk=>exact False.elim hq'
   | cont=>exact False.elim hq'
theorem pe_make(M:Mk X.K C f)(F:FnOk X.prog X.w X.K X.mg X.base CX k f fd ps sp)(hr:Room (k+1) X.A)(hg:Gl X x)(hm:X.mg x=some (.ref C))(hb:Binds X.K fd ps ds)(hd:ay dvs ds)(hx:gj CX X E)
  (ha:PA X (e::es) t) (hdb:(x == ("__debug__":Str))=false:=by decide) (he:starEach (e::es) X.env=(false,eval e X.env)::starEach es X.env:=by rfl) (hpl:(backTo pos (starEach es X.env)).any (·.1)=false:=by rfl) :
  PE X (.Call (.Name x p) (e::es) [] pos) (tMake C sp dvs E t):=by
 intro pins s σ H Q I h
 refine wpAny_Call_Name_kw (iC I hg hm ?_ hdb)
 refine PySem.W.callWith_K (h₀:=X.base) I.ok.mod.kin M.kp (thn (ha pos pins s σ H _ I h) fun us s1 ⟨vs,H1,I1,r,q⟩=>⟨I1.kIn,?_⟩) he hpl
 exact run_make M F hr hb hd hx I1 r q
theorem pe_make0(M:Mk X.K C f)(F:FnOk X.prog X.w X.K X.mg X.base CX k f fd ps sp)(hr:Room (k+1) X.A)(hg:Gl X x)(hm:X.mg x=some (.ref C))(hb:Binds X.K fd ps ds)(hd:ay dvs ds)(hx:gj CX X E)
  (hdb:(x == ("__debug__":Str))=false:=by decide):PE X (.Call (.Name x p) [] [] pos) (tMake C sp dvs E tNil):=by
 intro pins s σ H Q I h
 refine wpAny_Call_Name_kw (iC I hg hm ?_ hdb)
 exact PySem.W.callWith_K0 I.kIn M.kp (run_make (us:=[]) M F hr hb hd hx I .nil h)
end
def PK(X:Cx)(kws:List Keyword)(t:TA):Prop:=
 ∀(pos:Pos)(pins:List (Addr × Obj))(s:Shared)(σ:St)(H:Hp)(Q:List V->Hp->Prop),Inv X pins σ H s->t σ H Q->wpAny (model X.prog X.w) X.A (evalAll ((backToKw pos (keywordEach kws X.env)).map (·.2))) (AP X pins σ Q) X.xe s
section
variable{X:Cx}{CX:CXT}{k:Nat}{f C:Addr}{fd:FuncData}{ps ks:List Str}{sp:Sp}{E:XK}{x m:Str}{p pos apos kpos:Pos}{e o:Expr}{es:List Expr}{kws:List Keyword}{te ta:TE}{t tk:TA}{nm:Option Str}
theorem pk_nil:PK X [] tNil:=fun _ _ _ _ H Q I h=>wpAny_evalAll_nil ⟨[],H,I,.nil,h⟩
theorem pk_cons(ha:PE X e te)(hr:PK X kws t):PK X (⟨nm,e,kpos⟩::kws) (tCons te t):=by
 intro pos pins s σ H Q I h
 show wpAny _ _ (evalAll ((do let v <- eval e X.env; standAt pos; pure v)::(backToKw pos (keywordEach kws X.env)).map (·.2))) _ _ s
 refine wpAny_evalAll_cons (wpAny_bind (thn (ha pins s σ H _ I h) fun u s1 ⟨x,H1,I1,r1,q1⟩=>wpAny_bind (wpAny_standAt (wpAny_pure ?_))))
 exact thn (hr pos pins s1 σ H1 _ I1 q1) fun us s2 ⟨xs,H2,I2,r2,q2⟩=>⟨x::xs,H2,I2,.cons r1 r2,q2⟩
variable{g:List Value->List Value->List Value}{gV:List V->List V->List V}
end
structure FnScope(N P:List Str)(sc:Scope):Prop where
 kind:sc.kind=.function
 co:sc.isCoroutine=false
 gen:sc.isGenerator=false
 nd:N.Nodup
 pre:N.take P.length=P
 par:∀x∈P,sc.names.lookup x=some .local\/sc.names.lookup x=some .cell
 nofree:∀y∈sc.names,y.2≠.free
theorem bindL_out{kindOf:Str->Option NameKind}{x:Str}:∀{binds:List (Str × Value)}{m:Str->Option Value},(∀v,(x,v)∉binds)->bindL kindOf binds m x=m x
 | [],_,_=>rfl
 | (n,v)::r,m,h=>by
   unfold bindL
   rw [bindL_out fun w hw=>h w (List.mem_cons_of_mem _ hw)]
   split
   ·have:x≠n:=by rintro rfl; exact h v List.mem_cons_self
    simp [this]
   ·rfl
theorem bindC_out{kindOf:Str->Option NameKind}{x:Str}:∀{binds:List (Str × Value)}{m:Str->Option Value},(∀v,(x,v)∉binds)->bindC kindOf binds m x=m x
 | [],_,_=>rfl
 | (n,v)::r,m,h=>by
   unfold bindC
   rw [bindC_out fun w hw=>h w (List.mem_cons_of_mem _ hw)]
   split
   ·rfl
   ·have:x≠n:=by rintro rfl; exact h v List.mem_cons_self
    simp [this]
theorem bindL_get{kindOf:Str->Option NameKind}{x:Str}{v:Value}:∀{P:List Str}{vs:List Value}{i:Nat}{m:Str->Option Value},P.Nodup->P[i]? =some x->vs[i]? =some v->kindOf x=some .local->
  bindL kindOf (P.zip vs) m x=some v
 | [],_,_,_,_,h,_,_=>by simp at h
 | _::_,[],_,_,_,_,h,_=>by simp at h
 | p::P,w::vs,0,m,nd,h1,h2,hk=>by
   simp at h1 h2; subst h1; subst h2
   show bindL kindOf ((p,w)::P.zip vs) m p=_
   unfold bindL
   rw [bindL_out fun v hv=>(List.nodup_cons.mp nd).1 (List.of_mem_zip hv).1,if_pos hk]
   simp
 | p::P,w::vs,i+1,m,nd,h1,h2,hk=>by
   show bindL kindOf ((p,w)::P.zip vs) m x=_
   unfold bindL
   exact bindL_get (i:=i) (List.nodup_cons.mp nd).2 (by simpa using h1) (by simpa using h2) hk
theorem bindC_get{kindOf:Str->Option NameKind}{x:Str}{v:Value}:∀{P:List Str}{vs:List Value}{i:Nat}{m:Str->Option Value},P.Nodup->P[i]? =some x->vs[i]? =some v->kindOf x≠some .local->
  bindC kindOf (P.zip vs) m x=some v
 | [],_,_,_,_,h,_,_=>by simp at h
 | _::_,[],_,_,_,_,h,_=>by simp at h
 | p::P,w::vs,0,m,nd,h1,h2,hk=>by
   simp at h1 h2; subst h1; subst h2
   show bindC kindOf ((p,w)::P.zip vs) m p=_
   unfold bindC
   rw [bindC_out fun v hv=>(List.nodup_cons.mp nd).1 (List.of_mem_zip hv).1,if_neg hk]
   simp
 | p::P,w::vs,i+1,m,nd,h1,h2,hk=>by
   show bindC kindOf ((p,w)::P.zip vs) m x=_
   unfold bindC
   exact bindC_get (i:=i) (List.nodup_cons.mp nd).2 (by simpa using h1) (by simpa using h2) hk
def start(N:List Str)(vs:List V):St:=vs.map some++List.replicate (N.length - vs.length) none
def jM(CX:CXT)(P:Program)(w:World)(K:PySem.W.Frag)(mg:Str->Option Value)(base:Heap)(N:List Str)(qual:Str)(scope:Scope)(f:Addr)(cd:Value)(A:Around)(outer:List Env)(s:Shared)(H:Hp)(E:XK):Cx where
 prog:=P
 w:=w
 K:=K
 mg:=mg
 base:=base
 A:=A.deeper (envOfC qual scope s.heap.objs.size f cd)
 N:=N
 s_0:=s
 H_0:=H
 env:=envOfC qual scope s.heap.objs.size f cd
 outer:=outer
 stack:=envOfC qual scope s.heap.objs.size f cd::outer
 ex:=[]
 calm:=true
 fn:=fun _=>true
 pn:=[]
 xe:=fun e s'=>wpAny (model P w) (A.deeper (envOfC qual scope s.heap.objs.size f cd)) (leaving (envOfC qual scope s.heap.objs.size f cd) e) (fun _ s''=>CX outer H s E e s'') (fun e' s''=>CX outer H s E e' s'') s'
theorem cell_has{sc:Scope}{n:Nat}{x:Str}(h:sc.names.lookup x=some .cell):∃c,(cellsFrom n sc.names []).lookup x=some c:=by
 have q:=PySem.W.cellsFrom_some sc.names n [] (.inl h)
 exact Option.isSome_iff_exists.mp q
theorem inv_start{CX:CXT}{P:Program}{w:World}{K:PySem.W.Frag}{mg:Str->Option Value}{base:Heap}{N ps:List Str}{qual:Str}{scope:Scope}{f:Addr}{cd:Value}{A:Around}{outer:List Env}{s s1:Shared}{H:Hp}{E:XK}{us:List Value}{vs:List V}
  (S:FnScope N ps scope) (hd:A.handled=none) (e0:Env0 P w K mg base A outer s H) (hl:vs.length=ps.length) (r:ay vs us)
  (x:InCallC s s.heap.objs.size (bindL (envOfC qual scope s.heap.objs.size f cd).kindOf (ps.zip us) fun _=>none) (cellsFrom (s.heap.objs.size+1) scope.names []) (bindC (envOfC qual scope s.heap.objs.size f cd).kindOf (ps.zip us) fun _=>none) s1) :
  Inv (jM CX P w K mg base N qual scope f cd A outer s H E) [] (start N vs) H s1:=by
 have hpl:ps.length<=N.length:=by have:=congrArg List.length S.pre; rw [List.length_take] at this; omega
 obtain⟨h1,tk,rfl,hk⟩:=x.done
 have noA:∀b:Addr,b∉(jM CX P w K mg base N qual scope f cd A outer s H E).ex:=fun b z=>absurd (show b∈([]:List Addr) from z) (by simp)
 refine⟨⟨e0.mod,S.kind,rfl,rfl,Nat.le_refl _,fun y z c h1 h2=>?_,fun y hy=>?_,fun y c _ h=>?_,fun _=>hd,Around.frames_deeper e0.frames,.inr ⟨rfl,rfl⟩,fun b z=>absurd z (noA b),e0.bs,e0.bsz,fun b _ _=>noA b,fun b z=>absurd z (noA b),e0.funs,e0.frf,⟨_,_,rfl,S.gen,S.co,rfl,rfl⟩⟩,
  rfl,e0.bare,Un.kept hk,⟨_,x.toInCall.ns,fun i y v h1 h2 h3=>?_⟩,fun y c h=>⟨_,x.cell y c h⟩,e0.hok.fresh (Nat.le_refl _),fun y c h=>?_,fun p hp=>absurd (show p∈([]:List (Addr × Obj)) from hp) (by simp),e0.hok.kept hk,?_⟩
 ·exact name_of_addr x.apart (PySem.mem_of_lookup h1) (PySem.mem_of_lookup h2)
 ·have hy:scope.names.lookup y=some .cell\/scope.names.lookup y=some .free:=hy
  rcases hy with hy | hy
  ·exact cell_has hy
  ·exact absurd rfl (S.nofree _ (PySem.mem_of_lookup hy))
 ·exact Nat.le_of_lt (x.above y c (PySem.mem_of_lookup h))
 ·have hi:i<vs.length:=by
   unfold start at h2
   by_cases hi:i<vs.length
   ·exact hi
   ·rw [List.getElem?_append_right (by simpa using hi)] at h2
    rw [List.getElem?_replicate] at h2
    split at h2 <;> cases h2
  have ha:vs[i]? =some v:=by
   unfold start at h2
   rw [List.getElem?_append_left (by simpa using hi),List.getElem?_map] at h2
   cases e:vs[i]? with
   | none=>rw [e] at h2; cases h2
   | some a=>rw [e] at h2; cases h2; rfl
  obtain⟨u,hu,rv⟩:=r.get ha
  have hp:ps[i]? =some y:=by
   rw [<- S.pre,List.getElem?_take_of_lt (by omega)]; exact h1
  have ndP:ps.Nodup:=by rw [<- S.pre]; exact S.nd.sublist (List.take_sublist _ _)
  refine⟨u,rv,?_⟩
  rcases S.par y (List.mem_of_getElem? hp) with k | k
  ·exact .inl ⟨k,bindL_get ndP hp hu k⟩
  ·obtain⟨c,e⟩:=cell_has (n:=s.heap.objs.size+1) k
   refine .inr ⟨.inl k,c,e,?_⟩
   have q:=x.cell y c e
   rw [bindC_get ndP hp hu (by show scope.names.lookup y≠_; rw [k]; decide)] at q
   exact q
 ·exact e0.hok.fresh (Nat.le_of_lt (x.above y c (PySem.mem_of_lookup h)))
 ·unfold start
  show _=N.length
  rw [List.length_append,List.length_map,List.length_replicate]
  omega
theorem fn_of{CX:CXT}{P:Program}{w:World}{K:PySem.W.Frag}{mg:Str->Option Value}{base:Heap}{k:Nat}{f:Addr}{name qual:Str}{params:Arguments}{body:List Stmt}{scope:Scope}{dV kV doc pm cdv ct oc:Value}{an od:Option Addr}
  {osl:Array (Option Value)} {N ps:List Str} {sp:Sp} (lk:K.lookup f=some ⟨oc,od,.func (PySem.W.fnOf name qual params body scope dV kV doc pm an cdv ct),osl⟩) (hcd:PySem.W.codeIn K cdv qual=true) (S:FnScope N ps scope)
  (len:∀vs H Q E,sp vs H Q E->vs.length=ps.length)
  (hbody:∀(A:Around)(outer:List Env)(s:Shared)(H:Hp)(vs:List V)(Q:VK)(E:XK),Room k (A.deeper (envOfC qual scope s.heap.objs.size f cdv))->sp vs H Q E->
   ∃t,PSs (jM CX P w K mg base N qual scope f cdv A outer s H E) body t/\t {nx:=fun _ H'=>Q .non H',rt:=Q} (start N vs) H) :
  FnOk P w K mg base CX (k+1) f (PySem.W.fnOf name qual params body scope dV kV doc pm an cdv ct) ps sp:=by
 refine⟨len,fun A outer s H args us vs Q E hr e0 hb r hsp=>?_⟩
 have hl:=len _ _ _ _ hsp
 have KX:K.In s.heap:=e0.mod.kin.keeps fun b o e=>(e0.bs b o e).1
 have lim:s.heap.NoLimit:=e0.mod.nolimit.keeps fun b o e=>(e0.bs b o e).1
 have hkind:∀y∈ps.zip us,scope.names.lookup y.1=some .local\/(scope.names.lookup y.1=some .cell/\((cellsFrom (s.heap.objs.size+1) scope.names []).lookup y.1).isSome=true):=fun⟨n,v⟩ hy=>by
  rcases S.par n (List.of_mem_zip hy).1 with q | q
  ·exact .inl q
  ·exact .inr ⟨q,PySem.W.cellsFrom_some _ _ _ (.inl q)⟩
 refine codeAny_call_function hr.depth (KX _ _ lk) rfl S.co S.gen rfl (PySem.W.codeRec_of KX hcd) (hb _ _ _ _ ?_)
 refine wpAny_newFunctionEnv_cells S.kind hkind fun env he s1 x=>?_
 subst he
 refine⟨lim.keeps x.toInCall.keep,codeAny_func ?_⟩
 obtain⟨t,ht,hq⟩:=hbody A outer s H vs Q E (hr.deeper _) hsp
 have I:Inv (jM CX P w K mg base N qual scope f cdv A outer s H E) [] (start N vs) H s1:=inv_start S hr.hd e0 hl r x
 refine wpAny_mono (ht [] s1 (start N vs) H _ I hq) (fun fl s' hs=>?_) fun e s' hs=>hs
 have fin:∀{σ':St}{H':Hp}{v:V}{u:Value},Inv (jM CX P w K mg base N qual scope f cdv A outer s H E) [] σ' H' s'->RelV v u->Q v H'->CE outer P w H s Q u s':=
  fun{σ' H' v u} J rv q=>⟨v,H',J.os,J.bare,J.base,J.hok,rv,q⟩
 cases fl with
 | ret u=>
   obtain⟨v,σ',H',J,rv,q⟩:=hs
   exact fin J rv q
 | next=>
   obtain⟨σ',H',J,q⟩:=hs
   exact fin (v:=V.non) (u:=Value.none) J rfl q
 | brk=>
   obtain⟨_,_,_,q⟩:=hs
   exact False.elim q
 | cont=>
   obtain⟨_,_,_,q⟩:=hs
   exact False.elim q
end L2
namespace L2
open PySem PySem.Spec PyProof.Rows
section
variable{X:Cx}{x:Str}{p pos:Pos}{e:Expr}{es:List Expr}{t:TA}{id T:String}{r:List V->Hp->VK->Prop}
def tCB(r:List V->Hp->VK->Prop)(t:TA):TE:=fun σ H Q=>t σ H fun vs H1=>r vs H1 Q
theorem ag(hc:ft X (.builtin id) r)(hg:Gl X x)(hm:X.mg x=none)(hv:bootBuiltins x=some (.builtin id))(ha:PA X (e::es) t)(hn:x≠"__name__":=by decide)(hdb:(x == ("__debug__":Str))=false:=by decide)
  (he:starEach (e::es) X.env=(false,eval e X.env)::starEach es X.env:=by rfl) (hpl:(backTo pos (starEach es X.env)).any (·.1)=false:=by rfl):PE X (.Call (.Name x p) (e::es) [] pos) (tCB r t):=by
 intro pins s σ H Q I h
 refine wpAny_Call_Name_kw (ii I hg hm hv ?_ hn hdb)
 exact PyProof.Rows.callWith_builtin1 (thn (ha pos pins s σ H _ I h) fun us s1 ⟨vs,H1,I1,r1,q1⟩=>hc pins s1 σ H1 vs us Q I1 r1 q1) he hpl
end
end L2
namespace HT
open PySem PyProof.Rows
section
open PySem.SeqAt
open PySem.AutoSeq1 (wpAny_loadPart')
open PySem.MeetsSeq PySem.MeetsSeq2 PySem.MeetsSeq3
end
section
variable{prog:Program}{w:World}{A:Around}{E:Value->Shared->Prop}{s:Shared}
def sIx(n d:Nat):Option Int->Nat
 | none=>d
 | some v=>if v<0 then(v+(n:Int)).toNat else min v.toNat n
theorem sIx_none(n d:Nat):sIx n d none=d:=rfl
end
end HT
namespace L2
open PySem PySem.Spec PyProof.Rows
abbrev TO:=St->Hp->(Option Int->Hp->Prop)->Prop
def PO(X:Cx)(e:Option Expr)(t:TO):Prop:=
 ∀(pins:List (Addr × Obj))(s:Shared)(σ:St)(H:Hp)(Q:Option Int->Hp->Prop),Inv X pins σ H s->t σ H Q->
  wpAny (model X.prog X.w) X.A (evalPart e X.env) (fun u s'=>∃o H',Inv X pins σ H' s'/\IsPart u o/\Q o H') X.xe s
def tNoPart:TO:=fun _ H Q=>Q none H
def tPart(t:TE):TO:=fun σ H Q=>t σ H fun x H1=>∃i,x=.int i/\Q (some i) H1
section
variable{X:Cx}{e:Expr}{te:TE}{lo hi:Option Expr}{tl th:TO}{pos p2:Pos}
theorem cg:PO X none tNoPart:=by
 intro pins s σ H Q I h
 rw [evalPart_none]
 exact wpAny_pure ⟨none,H,I,.none,h⟩
theorem cJ(h:PE X e te):PO X (some e) (tPart te):=by
 intro pins s σ H Q I hw
 rw [evalPart_some]
 refine thn (h pins s σ H _ I hw) fun u s1 ⟨x,H1,I1,r1,q1⟩=>?_
 obtain⟨i,rfl,q⟩:=q1
 obtain⟨t,rfl⟩:=r1
 exact⟨some i,H1,I1,.int i t,q⟩
def SlR(X:Cx)(r:V->Option Int->Option Int->Hp->VK->Prop):Prop:=
 ∀(pins:List (Addr × Obj))(s:Shared)(σ:St)(H:Hp)(x:V)(v vl vu:Value)(lo hi:Option Int)(sl:Addr)(Q:VK),Inv X pins σ H s->RelV x v->s.heap.IsSliceOf sl vl vu .none->IsPart vl lo->IsPart vu hi->r x lo hi H Q->
  ∃T id,typeLookup (.type T) "__getitem__"=pure (some (.builtin id))/\s.TypeIs v T/\wpAny (model X.prog X.w) X.A (getItem v (.ref sl)) (EP X pins σ Q) X.xe s
def tSl(r:V->Option Int->Option Int->Hp->VK->Prop)(te:TE)(tl th:TO):TE:=fun σ H Q=>te σ H fun x H1=>tl σ H1 fun l H2=>th σ H2 fun u H3=>r x l u H3 Q
theorem cE{r:V->Option Int->Option Int->Hp->VK->Prop}(hr:SlR X r)(he:PE X e te)(hl:PO X lo tl)(hu:PO X hi th):PE X (.Subscript e (.Slice lo hi none p2) pos) (tSl r te tl th):=by
 intro pins s σ H Q I h
 refine Subscript_ (thn (he pins s σ H _ I h) fun v s1 ⟨x,H1,I1,r1,q1⟩=>?_)
 refine wpAny_Slice (thn (hl pins s1 σ H1 _ I1 q1) fun vl s2 ⟨l,H2,I2,pl,q2⟩=>thn (hu pins s2 σ H2 _ I2 q2) fun vu s3 ⟨u,H3,I3,pu,q3⟩=>?_)
 rw [evalPart_none]
 refine wpAny_pure ?_
 have I4:Inv X pins σ H3 {s3 with heap:=s3.heap.push {cls:=.type "slice",data:=.fields #[vl,vu,.none]}}:=I3.kept (t':=s3.toks) fun b ob q=>Heap.get?_push_of_some _ q
 obtain⟨T,id,hT,ht,hg⟩:=hr pins {s3 with heap:=s3.heap.push {cls:=.type "slice",data:=.fields #[vl,vu,.none]}} σ H3 x v vl vu l u s3.heap.objs.size Q I4 r1 (Heap.IsSliceOf.new ..) pl pu q3
 show wpAny (model X.prog X.w) X.A (subscriptTail e (.Slice lo hi none p2) v (.ref s3.heap.objs.size)) (EP X pins σ Q) X.xe {s3 with heap:=s3.heap.push {cls:=.type "slice",data:=.fields #[vl,vu,.none]}}
 exact tail_any (ops:=[.ref s3.heap.objs.size,v]) ht hT hg (by with_unfolding_all rfl)
def cH(xs:List V)(lo hi:Option Int):List V:=(xs.drop (HT.sIx xs.length 0 lo)).take (HT.sIx xs.length xs.length hi - HT.sIx xs.length 0 lo)
theorem cutV_length(xs:List V)(lo hi:Option Int):(cH xs lo hi).length<=xs.length:=by
 unfold cH
 rw [List.length_take,List.length_drop]
 omega
end
end L2
namespace L2
open PySem PySem.Spec PyProof.Rows
def ixN(n:Nat)(i:Int):Option Nat:=if 0<=i then(if i<n then some i.toNat else none) else if -(n:Int)<=i then some (i+n).toNat else none
def atI{α:Type}(xs:List α)(i:Int):Option α:=(ixN xs.length i).bind fun j=>xs[j]?
theorem ixN_seq{n:Nat}{i:Int}{j:Nat}(h:ixN n i=some j):seqIndex? i n=some j/\j<n/\-(n:Int)<=i/\i<n:=by
 unfold ixN at h
 by_cases h0:0<=i
 ·rw [if_pos h0] at h
  by_cases h1:i<n
  ·rw [if_pos h1] at h
   have e:i.toNat=j:=Option.some.inj h
   exact⟨by rw [seqIndex_of h0 h1,e],by omega,by omega,h1⟩
  ·rw [if_neg h1] at h; cases h
 ·rw [if_neg h0] at h
  by_cases h1:-(n:Int)<=i
  ·rw [if_pos h1] at h
   have e:(i+n).toNat=j:=Option.some.inj h
   exact⟨by rw [seqIndex_neg (by omega) h1,e],by omega,h1,by omega⟩
  ·rw [if_neg h1] at h; cases h
theorem atI_get{α:Type}{xs:List α}{i:Int}{v:α}(h:atI xs i=some v):∃j,seqIndex? i xs.length=some j/\xs[j]? =some v/\j<xs.length/\-(xs.length:Int)<=i/\i<xs.length:=by
 unfold atI at h
 cases e:ixN xs.length i with
 | none=>rw [e] at h; cases h
 | some j=>
   rw [e] at h
   obtain⟨h1,h2,h3,h4⟩:=ixN_seq e
   exact⟨j,h1,h,h2,h3,h4⟩
theorem dY{α:Type}{xs:List α}{j:Nat}{v:α}(h:xs[j]? =some v):atI xs (j:Int)=some v:=by
 have hj:j<xs.length:=(List.getElem?_eq_some_iff.mp h).1
 have e:ixN xs.length (j:Int)=some j:=by
  unfold ixN
  rw [if_pos (by omega),if_pos (by omega)]; simp
 unfold atI; rw [e]; exact h
def PlainIx(b:Expr):Prop:=∀o i,subscripted b false o i=operate [o,i] (getItem o i)
def IxR(X:Cx)(r:R2):Prop:=
 ∀(value slice:Expr)(pins:List (Addr × Obj))(s:Shared)(σ:St)(H:Hp)(x y:V)(v u:Value)(Q:VK),Inv X pins σ H s->RelV x v->RelV y u->r x y H Q->
  subscripted slice false v u=operate [v,u] (getItem v u)->wpAny (model X.prog X.w) X.A (subscriptTail value slice v u) (EP X pins σ Q) X.xe s
def MtR(X:Cx)(id:String)(r:V->List V->Hp->VK->Prop):Prop:=
 ∀(pins:List (Addr × Obj))(s:Shared)(σ:St)(H:Hp)(x:V)(xs:List V)(v:Value)(us:List Value)(Q:VK),Inv X pins σ H s->RelV x v->ay xs us->r x xs H Q->
  wpAny (model X.prog X.w) X.A (call (.builtin id) (v::us)) (EP X pins σ Q) X.xe s
section
variable{X:Cx}{a b:Expr}{ta tb:TE}{pos:Pos}
theorem bj{r:R2}(hr:IxR X r)(ha:PE X a ta)(hb:PE X b tb)(hs:PlainIx b):PE X (.Subscript a b pos) (tOp r ta tb):=by
 intro pins s σ H Q I h
 exact Subscript_ (binT ha hb I h fun v u s2 x y H2 I2 rx ry q=>hr a b pins s2 σ H2 x y v u Q I2 rx ry q (hs _ _))
def rIxL(K:PySem.W.Frag):R2:=fun x y H Q=>∃p xs i v,x=.ref p/\y=.int i/\SqL K H p xs/\atI xs i=some v/\Q v H
def rIxT(K:PySem.W.Frag):R2:=fun x y H Q=>∃p xs i v,x=.ref p/\y=.int i/\SqT K H p xs/\atI xs i=some v/\Q v H
theorem ix_list:IxR X (rIxL X.K):=by
 intro value slice pins s σ H x y v u Q I rx ry h hs
 obtain⟨p,xs,i,z,rfl,rfl,hq,he,q⟩:=h
 cases rx
 obtain⟨t,rfl⟩:=ry
 obtain⟨its,r,pl,hz⟩:=I.list hq
 obtain⟨j,h1,h2,h3,h4,h5⟩:=atI_get he
 obtain⟨w,ew,rw'⟩:=r.get h2
 have hl:=r.length
 have hn:=line63
 have fin:EP X pins σ Q w s:=⟨z,H,I,rw',q⟩
 by_cases h0:0<=i
 ·have hj:i.toNat=j:=by
   rw [seqIndex_of h0 h5] at h1
   exact Option.some.inj h1
  exact item_listR pl.isList h0 (by omega) (by rw [hj]; simpa using ew) fin hs
 ·have hj:(i+(its.toArray.size:Int)).toNat=j:=by
   rw [seqIndex_neg (by omega) h4] at h1
   rw [List.size_toArray,<- hl]
   exact Option.some.inj h1
  exact subscriptTail_builtinR (x:=w) pl.isList.typeIs slot_list_getitem.lookup
   (wpAny_getItem_list_neg (Q:=fun r s'=>r=w/\EP X pins σ Q r s') pl.isList (by omega) (by rw [List.size_toArray] <;> omega) (by omega) (by rw [hj]; simpa using ew) ⟨rfl,fin⟩) hs
theorem ix_tup:IxR X (rIxT X.K):=by
 intro value slice pins s σ H x y v u Q I rx ry h hs
 obtain⟨p,xs,i,z,rfl,rfl,hq,he,q⟩:=h
 cases rx
 obtain⟨t,rfl⟩:=ry
 obtain⟨its,r,pl,hz⟩:=I.tuple hq
 obtain⟨j,h1,h2,h3,h4,h5⟩:=atI_get he
 obtain⟨w,ew,rw'⟩:=r.get h2
 have hl:=r.length
 have hn:=line63
 have fin:EP X pins σ Q w s:=⟨z,H,I,rw',q⟩
 exact subscriptTail_builtinR (x:=w) pl.typeIs slot_tuple_getitem.lookup
  (getItem_tuple (j:=j) (Q:=fun r s'=>r=w/\EP X pins σ Q r s') pl (by omega) (by omega) (by rw [List.size_toArray,<- hl]; exact h1) (by simpa using ew) ⟨rfl,fin⟩) hs
theorem slice_bounds(lo hi:Option Int)(n:Nat):(sliceBounds lo hi none n).1=((HT.sIx n 0 lo:Nat):Int)/\(sliceBounds lo hi none n).2.1=((HT.sIx n n hi:Nat):Int)/\(sliceBounds lo hi none n).2.2=1:=by
 refine⟨?_,?_,rfl⟩
 ·cases lo with
  | none=>simp [sliceBounds,HT.sIx]
  | some i=>
    simp only [sliceBounds,HT.sIx,Option.getD_none,show(1:Int) > 0 by decide,if_true]
    by_cases h:i<0
    ·simp only [h,if_true] <;> omega
    ·simp only [h,if_false] <;> omega
 ·cases hi with
  | none=>simp [sliceBounds,HT.sIx]
  | some i=>
    simp only [sliceBounds,HT.sIx,Option.getD_none,show(1:Int) > 0 by decide,if_true]
    by_cases h:i<0
    ·simp only [h,if_true] <;> omega
    ·simp only [h,if_false] <;> omega
theorem slicePick_cut(its:List Value)(lo hi:Option Int):slicePick its.toArray lo hi none=((its.drop (HT.sIx its.length 0 lo)).take (HT.sIx its.length its.length hi - HT.sIx its.length 0 lo)).toArray:=by
 obtain⟨h1,h2,h3⟩:=slice_bounds lo hi its.toArray.size
 unfold slicePick
 rw [h1,h2,h3]
 simp only [sliceRange_one,pick_run,List.size_toArray] <;> rfl
def rSlL(K:PySem.W.Frag):V->Option Int->Option Int->Hp->VK->Prop:=fun x lo hi H Q=>∃a xs,x=.ref a/\SqL K H a xs/\∀p,H p=none->Q (.ref p) (upd H p (.lst (cH xs lo hi)))
theorem sl_list:SlR X (rSlL X.K):=by
 intro pins s σ H x v vl vu lo hi sl Q I rx hs pl pu h
 obtain⟨a,xs,rfl,hx,q⟩:=h
 cases rx
 obtain⟨its,r,ht,hz⟩:=I.list hx
 have hlen:=r.length
 refine⟨"list",_,slot_list_getitem.lookup,ht.isList.typeIs,?_⟩
 refine wpAny_getItem_list_slice ht.isList hs pl pu .none (by simp) ?_ (by rw [List.size_toArray] <;> omega)
 rw [slicePick_cut,<- hlen]
 refine⟨.ref s.heap.objs.size,_,I.laid (t':=s.toks) (o:=.lst (cH xs lo hi)) (fun b ob q=>Heap.get?_push_of_some _ q) (Nat.le_refl _) ?_,rfl,q _ (I.hok.fresh (Nat.le_refl _))⟩
 exact⟨Nat.le_trans (cutV_length xs lo hi) hz,_,0,(r.drop (HT.sIx xs.length 0 lo)).take (HT.sIx xs.length xs.length hi - HT.sIx xs.length 0 lo),Heap.get?_push_size _ rfl⟩
theorem a8:ft X (.builtin "len") (fun xs H Q=>∃p ys,xs=[.ref p]/\(SqL X.K H p ys\/SqT X.K H p ys)/\Q (.int ys.length) H):=by
 intro pins s σ H xs us Q I r h
 obtain⟨p,ys,rfl,hq,q⟩:=h
 obtain⟨u,rfl,rx⟩:=vals1 r
 cases rx
 have hn:=line63
 rcases hq with hq | hq
 ·obtain⟨its,r',pl,hz⟩:=I.list hq
  have hlen:=r'.length
  exact Calls.call_len_list pl.isList (by simp only [List.size_toArray] <;> omega) ⟨.int ys.length,H,I.tok _,⟨s.toks+1,by rw [List.size_toArray,hlen]⟩,q⟩
 ·obtain⟨its,r',pl,hz⟩:=I.tuple hq
  have hlen:=r'.length
  exact len_tuple pl (by simp only [List.size_toArray] <;> omega) ⟨.int ys.length,H,I.tok _,⟨s.toks+1,by rw [List.size_toArray,hlen]⟩,q⟩
def tyV(K:PySem.W.Frag)(T:String)(x:V)(H:Hp):Prop:=match x with
 | .str _=>T="str"
 | .int _=>T="int"
 | .ref p=>(T="list"/\∃xs,SqL K H p xs)\/(T="tuple"/\∃o,K.lookup p=some o/\o.cls=.type "tuple"/\o.dict=none)\/
   (T="dict"/\((∃kvs,H p=some (.dK kvs))\/∃kvs,H p=some (.dT kvs)))\/(T="set"/\∃S n,H p=some (.set S n))
 | _=>False
theorem tyV_is{pins:List (Addr × Obj)}{σ:St}{H:Hp}{s:Shared}{T:String}{x:V}{v:Value}(I:Inv X pins σ H s)(r:RelV x v)(ty:tyV X.K T x H) :
  s.TypeIs v T/\∀a,v=.ref a->∃ob,s.heap.get? a=some ob/\ob.dict=none:=by
 cases x with
 | str z=>
   obtain⟨t,rfl⟩:=r
   cases (show T="str" from ty)
   exact⟨typeIs_str s z t,fun _ e=>nomatch e⟩
 | int i=>
   obtain⟨t,rfl⟩:=r
   cases (show T="int" from ty)
   exact⟨typeIs_int s i t,fun _ e=>nomatch e⟩
 | ref p=>
   cases r
   rcases ty with⟨rfl,xs,hq⟩ | ⟨rfl,o,hk,hc,hd⟩ | ⟨rfl,hk⟩ | ⟨rfl,S,n,hk⟩
   ·obtain⟨its,_,pl,_⟩:=I.list hq
    refine⟨pl.isList.typeIs,fun a e=>?_⟩
    cases e
    obtain⟨o,n,e,c,hd,_⟩:=pl
    exact⟨o,e,hd⟩
   ·refine⟨⟨o,I.kIn p o hk,hc⟩,fun a e=>?_⟩
    cases e
    exact⟨o,I.kIn _ o hk,hd⟩
   ·have z:∃o,s.heap.get? p=some o/\o.ExactDict:=by
     rcases hk with⟨kvs,hk⟩ | ⟨kvs,hk⟩
     ·obtain⟨_,_,_,_,o,_,_,e,ex,_⟩:=I.hok p _ hk
      exact⟨o,e,ex⟩
     ·obtain⟨_,_,_,_,o,_,_,e,ex,_⟩:=I.hok p _ hk
      exact⟨o,e,ex⟩
    obtain⟨o,e,ex⟩:=z
    refine⟨⟨o,e,ex.1⟩,fun a e2=>?_⟩
    cases e2
    exact⟨o,e,ex.2.1⟩
   ·obtain⟨o,_,_,_,e,ex,_⟩:=I.hok p _ hk
    refine⟨⟨o,e,ex.1⟩,fun a e2=>?_⟩
    cases e2
    exact⟨o,e,ex.2.1⟩
 | _=>exact False.elim ty
def tBM(K:PySem.W.Frag)(T:String)(r:V->List V->Hp->VK->Prop)(to:TE)(t:TA):TE:=fun σ H Q=>to σ H fun x H1=>tyV K T x H1/\t σ H1 fun xs H2=>r x xs H2 Q
variable{o e:Expr}{es:List Expr}{to:TE}{t:TA}{name:Str}{apos cpos:Pos}{T id:String}{r:V->List V->Hp->VK->Prop}
theorem iM(pa:PlainAttrs T)(slot:Slot T name id)(hty:typeOf (.builtin id)=pure (.type "method_descriptor"))(hm:MtR X id r)(ho:PE X o to)(ha:PA X (e::es) t)
  (hbase:attributeBase o name X.env (eval o X.env)=eval o X.env:=by rfl)
  (hfew:((backTo cpos (starEach (e::es) X.env)).all (fun x=>!x.1) && (backToKw cpos (keywordEach [] X.env)).all (fun x=>x.1.isSome)
   && decide ((e::es).length+([]:List Keyword).length+(if ([]:List Keyword).isEmpty then 0 else 1)<30))=true:=by rfl)
  (hline:(apos.endLine == cpos.line)=true:=by rfl) (hs:starEach (e::es) X.env=(false,eval e X.env)::starEach es X.env:=by rfl) (hplain:(backTo cpos (starEach es X.env)).any (·.1)=false:=by rfl) :
  PE X (.Call (.Attribute o name apos) (e::es) [] cpos) (tBM X.K T r to t):=by
 intro pins s σ H Q I h
 refine wpAny_Call_method_late hbase hfew hline rfl (thn (ho pins s σ H _ I h) fun v s1 ⟨x,H1,I1,r1,ty,q1⟩=>?_)
 obtain⟨h1,h2⟩:=tyV_is I1 r1 ty
 refine⟨T,id,pa,slot,hty,h1,h2,?_⟩
 have hA:=ha cpos pins s1 σ H1 _ I1 q1
 rw [hs] at hA ⊢
 refine Calls.callWith_builtin (by show(false || (backTo cpos (starEach es X.env)).any (·.1))=false; rw [hplain] <;> rfl) (Calls.evalArgs_plain ?_)
 exact thn hA fun us s2 ⟨vs,H2,I2,r2,q2⟩=>hm pins s2 σ H2 x vs v us Q I2 r1 r2 q2
end
end L2
namespace L2
open PySem PySem.Spec PyProof.Rows
def MtM(X:Cx)(id:String)(r:V->List V->Hp->VK->Prop):Prop:=
 ∀(pins:List (Addr × Obj))(s:Shared)(σ:St)(H:Hp)(x:V)(xs:List V)(v:Value)(us:List Value)(Q:VK),Inv X pins σ H s->RelV x v->ay xs us->r x xs H Q->
  wpAny (model X.prog X.w) X.A (call (.builtin id) (v::us)) (EP X pins σ Q) X.xe s
theorem ay.one:∀{x:V}{us:List Value},ay [x] us->∃u,us=[u]/\RelV x u
 | _,_,.cons r .nil=>⟨_,rfl,r⟩
theorem ay.rep{xs:List V}{us:List Value}(h:ay xs us):∀k:Nat,ay (List.replicate k xs).flatten (List.replicate k us).flatten
 | 0=>.nil
 | k+1=>by
   rw [List.replicate_succ,List.replicate_succ,List.flatten_cons,List.flatten_cons]
   exact ay.append h (ay.rep h k)
theorem foldl_rep(its:List Value):∀(k:Nat)(acc:List Value),
  List.foldl (fun x1 x2=>x1++x2) acc.toArray (List.replicate k its.toArray)=(acc++(List.replicate k its).flatten).toArray
 | 0,acc=>by simp
 | k+1,acc=>by
   have e:acc.toArray++its.toArray=(acc++its).toArray:=by simp
   have e2:(acc++its)++(List.replicate k its).flatten=acc++(List.replicate (k+1) its).flatten:=by
    rw [List.replicate_succ,List.flatten_cons,List.append_assoc]
   rw [<- e2,<- foldl_rep its k (acc++its),<- e,List.replicate_succ,List.foldl_cons]
section
variable{X:Cx}{pins:List (Addr × Obj)}{σ:St}{H:Hp}{s:Shared}{l b:Addr}{xs ys zs:List V}
theorem Inv.lset{its its':List Value}{n:Nat}{f:Array Value->Array Value}{t':Nat}(I:Inv X pins σ H s)(hH:H l=some (.lst xs))
  (e:s.heap.get? l=some {cls:=.type "list",data:=.seq its.toArray n}) (hf:f its.toArray=its'.toArray) (hv:ay ys its') (hz:ys.length<=sizeLine) :
  Inv X pins σ (upd H l (.lst ys)) {s with heap:=s.heap.update l (Obj.mapSeq f),toks:=t'}:=by
 have q:=PySem.IsL.update e f
 rw [hf] at q
 refine I.write (x:=l) (e:=l) (by rw [hH]; exact trivial) (.inl rfl) (fun b' u hb hu=>(Heap.get?_update_other s.heap (Obj.mapSeq f) (Ne.symm hb)).trans hu) ⟨_,q⟩ ?_
 exact⟨hz,its',_,hv,q⟩
theorem Inv.lnew{its:List Value}{t':Nat}(I:Inv X pins σ H s)(hv:ay ys its)(hz:ys.length<=sizeLine) :
  Inv X pins σ (upd H s.heap.objs.size (.lst ys)) {s with heap:=s.heap.push {cls:=.type "list",data:=.seq its.toArray},toks:=t'}:=
 I.laid (fun _ _ q=>Heap.get?_push_of_some _ q) (Nat.le_refl _) ⟨hz,its,0,hv,Heap.get?_push_size _ rfl⟩
theorem Inv.fresh(I:Inv X pins σ H s):H s.heap.objs.size=none:=I.hok.fresh (Nat.le_refl _)
theorem Inv.lstM(I:Inv X pins σ H s)(hH:H l=some (.lst xs)):xs.length<=sizeLine/\∃(its:List Value)(n:Nat),ay xs its/\xs.length=its.length/\s.heap.get? l=some {cls:=.type "list",data:=.seq its.toArray n}:=by
 obtain⟨z,its,n,r,e⟩:=I.hok l _ hH
 exact⟨z,its,n,r,r.length,e⟩
theorem notLongL{n:Nat}(h:n<=sizeLine):Builtin.List.listTooLong n=false:=by
 unfold Builtin.List.listTooLong
 exact decide_eq_false (by omega)
end
section
variable{X:Cx}
def rAppend:V->List V->Hp->VK->Prop:=fun x vs H Q=>∃l xs y,x=.ref l/\vs=[y]/\H l=some (.lst xs)/\xs.length<sizeLine/\Q .non (upd H l (.lst (xs++[y])))
theorem fz:MtM X "list.append" rAppend:=by
 intro pins s σ H x vs v us Q I rx rv h
 obtain⟨l,xs,y,rfl,rfl,hH,hz,q⟩:=h
 cases rx
 obtain⟨u,rfl,ru⟩:=rv.one
 obtain⟨z,its,n,r,hl,e⟩:=I.lstM hH
 refine call_meets F.slot_list_append ⟨_,e,rfl⟩ F.entry_list_append (F.args_list_append_2 _ _) (PySem.list_append l its.toArray n u (by rw [List.size_toArray]; omega)) ⟨e,?_⟩
 refine⟨.non,_,I.lset (its':=its++[u]) hH e (by simp) (r.append (.cons ru .nil)) ?_,rfl,q⟩
 rw [List.length_append,List.length_singleton]
 omega
def rExtend:V->List V->Hp->VK->Prop:=fun x vs H Q=>∃l b xs zs,x=.ref l/\vs=[.ref b]/\H l=some (.lst xs)/\H b=some (.lst zs)/\xs.length+zs.length<=sizeLine/\Q .non (upd H l (.lst (xs++zs)))
theorem mt_extend:MtM X "list.extend" rExtend:=by
 intro pins s σ H x vs v us Q I rx rv h
 obtain⟨l,b,xs,zs,rfl,rfl,hH,hB,hz,q⟩:=h
 cases rx
 obtain⟨u,rfl,ru⟩:=rv.one
 cases ru
 obtain⟨z,its,n,r,hl,e⟩:=I.lstM hH
 obtain⟨z2,its2,n2,r2,hl2,e2⟩:=I.lstM hB
 have hsz:its.toArray.size+its2.toArray.size<=sizeLine:=by rw [List.size_toArray,List.size_toArray]; omega
 have hlong:¬ (!its.toArray.isEmpty && Builtin.List.listTooLong (its.toArray.size+its2.toArray.size))=true:=by
  rw [notLongL hsz,Bool.and_false]
  exact Bool.false_ne_true
 refine call_meets F.slot_list_extend ⟨_,e,rfl⟩ F.entry_list_extend (F.args_list_extend_2 _ _)
  (AutoSeq1.list_extend_list_list_0 l its.toArray n b its2.toArray n2 hlong (by rw [List.size_toArray]; omega) (by omega)) ⟨e,e2,?_⟩
 refine⟨.non,_,I.lset (its':=its++its2) hH e (by simp) (r.append r2) ?_,rfl,q⟩
 rw [List.length_append]
 omega
def rCat:R2:=fun x y H Q=>∃l b xs zs,x=.ref l/\y=.ref b/\H l=some (.lst xs)/\H b=some (.lst zs)/\xs.length+zs.length<=sizeLine/\∀p,H p=none->Q (.ref p) (upd H p (.lst (xs++zs)))
theorem cR:OpR X (binaryOp .Add) rCat:=by
 intro pins s σ H x y v u Q I rx ry h
 obtain⟨l,b,xs,zs,rfl,rfl,hH,hB,hz,q⟩:=h
 cases rx
 cases ry
 obtain⟨z,its,n,r,hl,e⟩:=I.lstM hH
 obtain⟨z2,its2,n2,r2,hl2,e2⟩:=I.lstM hB
 refine PySem.P.add_list e e2 ?_ (by rw [List.size_toArray,List.size_toArray]; omega)
 have ea:its.toArray++its2.toArray=(its++its2).toArray:=by simp
 rw [ea]
 exact⟨.ref _,_,I.lnew (t':=s.toks) (r.append r2) (by rw [List.length_append]; omega),rfl,q _ I.fresh⟩
def rRep:R2:=fun x y H Q=>∃l k xs,x=.ref l/\y=.int k/\H l=some (.lst xs)/\-(2^63)<=k/\k<2^63/\xs.length*k.toNat<=sizeLine/\
 ∀p,H p=none->Q (.ref p) (upd H p (.lst (List.replicate k.toNat xs).flatten))
theorem len_rep{α:Type}(xs:List α)(k:Nat):(List.replicate k xs).flatten.length=k*xs.length:=by
 induction k with
 | zero=>simp
 | succ k ih=>rw [List.replicate_succ,List.flatten_cons,List.length_append,ih,Nat.succ_mul,Nat.add_comm]
theorem ib:OpR X (binaryOp .Mult) rRep:=by
 intro pins s σ H x y v u Q I rx ry h
 obtain⟨l,k,xs,rfl,rfl,hH,h1,h2,hz,q⟩:=h
 cases rx
 obtain⟨t,rfl⟩:=ry
 obtain⟨z,its,n,r,hl,e⟩:=I.lstM hH
 have hlen:its.toArray.size*k.toNat<=sizeLine:=by rw [List.size_toArray,<- hl]; exact hz
 have hcap:¬ its.toArray.size*k.toNat > (2^63 - 1)/8:=by
  have:(sizeLine:Nat)<=(2^63 - 1)/8:=by decide
  omega
 have hfit:¬ (!Builtin.List.listFitsIndex k)=true:=by
  rw [fitsIndex_both h1 h2]
  exact Bool.false_ne_true
 have hlong:¬ Builtin.List.listTooLong (its.toArray.size*k.toNat)=true:=by
  rw [notLongL hlen]
  exact Bool.false_ne_true
 have hnew:List.foldl (fun x1 x2=>x1++x2) #[] (List.replicate (if its.toArray.isEmpty=true then 0 else k.toNat) its.toArray)=(List.replicate k.toNat its).flatten.toArray:=by
  have f0:∀m:Nat,List.foldl (fun x1 x2=>x1++x2) #[] (List.replicate m its.toArray)=(List.replicate m its).flatten.toArray:=fun m=>by
   have:=foldl_rep its m []
   rw [List.nil_append] at this
   exact this
  rw [f0]
  cases its with
  | nil=>simp
  | cons a r'=>rw [if_neg (by simp)]
 refine wpAny_binaryOp_repeat_ref (T:="list") (U:="int") (by decide) ⟨_,e,rfl⟩ (fun s'=>typeIs_int s' k t) noFill_list_mul F.fills_int_mul F.slot_int_rmul repeat_list F.slot_int_index.lookup
  (call_meets F.slot_int_rmul (typeIs_int s k t) F.entry_int_rmul (F.args_int_rmul_2 _ _) (int___rmul___int_list k t l its.toArray n)
   ⟨e,rfl,⟨_,e,rfl⟩,call_meets F.slot_list_mul ⟨_,e,rfl⟩ F.entry_list_mul (F.args_list_mul_2 _ _) (AutoListH.list___mul___list_int_3 l its.toArray n k t hfit hcap hlong) ⟨e,?_⟩⟩)
 rw [hnew]
 exact⟨.ref _,_,I.lnew (t':=s.toks) (r.rep k.toNat) (by rw [len_rep,Nat.mul_comm]; exact hz),rfl,q _ I.fresh⟩
end
section
variable{prog:Program}{w:World}{A:Around}{E:Value->Shared->Prop}{s:Shared}
set_option maxRecDepth 100000 in
end
section
variable{X:Cx}
end
end L2
namespace L2
open PySem PySem.Spec PyProof.Rows
theorem ay.ints:∀{ns:List Int}{us:List Value},ay (ns.map V.int) us->IntsAre us ns
 | [],us,h=>by
   rw [List.map_nil] at h
   cases h
   exact IntsAre.nil
 | n::ns,us,h=>by
   rw [List.map_cons] at h
   cases h with
   | cons r t=>
     obtain⟨k,rfl⟩:=r
     exact IntsAre.cons n k (ay.ints t)
theorem ay.ref1{a:Addr}{us:List Value}(r:ay [V.ref a] us):us=[Value.ref a]:=by
 cases r with
 | cons r t=>
   cases t
   cases r
   rfl
section
variable{prog:Program}{w:World}{A:Around}{E:Value->Shared->Prop}{s:Shared}{l:Addr}{its:List Value}{ns:List Int}{Q:Value->Shared->Prop}
theorem sum_raw(hh:A.handled=none)(hl:s.heap.IsList l its.toArray)(hi:IntsAre its ns)
  (h:∀h' tk t',(∀b o,s.heap.get? b=some o->h'.get? b=some o)->Q (.int ns.sum t') {s with heap:=h',toks:=tk}):wpAny (model prog w) A (call (.builtin "sum") [.ref l]) Q E s:=by
 obtain⟨xs,e⟩:=hi.allInts.items
 have hn:numsOf (intItems xs).toList=ns:=by rw [<- e]; exact hi.numsOf
 rw [nums_intItems] at hn
 rw [e] at hl
 refine PySem.sum_intListG hh hl fun h' tk t' hk=>?_
 have:=h h' tk t' hk
 rw [preSum_eq,List.take_of_length_le (by simp),hn]; exact this
theorem max_raw(hh:A.handled=none)(hl:s.heap.IsList l its.toArray)(hi:IntsAre its ns)(hne:0<ns.length)
  (h:∀h' tk M t',(∀b o,s.heap.get? b=some o->h'.get? b=some o)->M∈ns->(∀a,a∈ns->a<=M)->Q (.int M t') {s with heap:=h',toks:=tk}):wpAny (model prog w) A (call (.builtin "max") [.ref l]) Q E s:=by
 obtain⟨xs,e⟩:=hi.allInts.items
 have hn:numsOf (intItems xs).toList=ns:=by rw [<- e]; exact hi.numsOf
 rw [nums_intItems] at hn
 subst hn
 rw [e] at hl
 have hsz:0<xs.size:=by simpa using hne
 refine PySem.max_intList hh hl hsz fun v h' tk hv hk=>?_
 obtain⟨t,rfl⟩:=intItems_at hv
 obtain⟨h1,h2⟩:=argBest_gt (numAt xs) (xs.size - 1)
 refine h h' tk _ t hk ?_ fun a ha=>?_
 ·rw [numAt_eq]; exact PySem.getD_mem (by rw [List.length_map,Array.length_toList]; omega)
 ·obtain⟨j,hj,rfl⟩:=mem_getD ha
  rw [List.length_map,Array.length_toList] at hj
  rw [<- numAt_eq]; exact h2 j (by omega)
theorem min_raw(hh:A.handled=none)(hl:s.heap.IsList l its.toArray)(hi:IntsAre its ns)(hne:0<ns.length)
  (h:∀h' tk M t',(∀b o,s.heap.get? b=some o->h'.get? b=some o)->M∈ns->(∀a,a∈ns->M<=a)->Q (.int M t') {s with heap:=h',toks:=tk}):wpAny (model prog w) A (call (.builtin "min") [.ref l]) Q E s:=by
 obtain⟨xs,e⟩:=hi.allInts.items
 have hn:numsOf (intItems xs).toList=ns:=by rw [<- e]; exact hi.numsOf
 rw [nums_intItems] at hn
 subst hn
 rw [e] at hl
 have hsz:0<xs.size:=by simpa using hne
 refine PySem.min_intList hh hl hsz fun v h' tk hv hk=>?_
 obtain⟨t,rfl⟩:=intItems_at hv
 obtain⟨h1,h2⟩:=argBest_lt (numAt xs) (xs.size - 1)
 refine h h' tk _ t hk ?_ fun a ha=>?_
 ·rw [numAt_eq]; exact PySem.getD_mem (by rw [List.length_map,Array.length_toList]; omega)
 ·obtain⟨j,hj,rfl⟩:=mem_getD ha
  rw [List.length_map,Array.length_toList] at hj
  rw [<- numAt_eq]; exact h2 j (by omega)
end
section
variable{X:Cx}
def rSum(K:PySem.W.Frag):List V->Hp->VK->Prop:=fun vs H Q=>∃(a:Addr)(ns:List Int),vs=[V.ref a]/\SqL K H a (ns.map V.int)/\Q (.int ns.sum) H
def rMin(K:PySem.W.Frag):List V->Hp->VK->Prop:=fun vs H Q=>∃(a:Addr)(ns:List Int),vs=[V.ref a]/\SqL K H a (ns.map V.int)/\0<ns.length/\∀m,m∈ns->(∀y,y∈ns->m<=y)->Q (.int m) H
theorem cr_sum(hc:X.calm=true):ft X (.builtin "sum") (rSum X.K):=by
 intro pins s σ H vs us Q I r h
 obtain⟨a,ns,rfl,hs,q⟩:=h
 obtain⟨its,rv,hl,_⟩:=I.list hs
 rw [ay.ref1 r]
 exact sum_raw (I.ok.hd hc) hl.isList rv.ints fun h' tk t' hk=>⟨.int _,H,I.kept hk,⟨_,rfl⟩,q⟩
theorem cr_min(hc:X.calm=true):ft X (.builtin "min") (rMin X.K):=by
 intro pins s σ H vs us Q I r h
 obtain⟨a,ns,rfl,hs,hne,q⟩:=h
 obtain⟨its,rv,hl,_⟩:=I.list hs
 rw [ay.ref1 r]
 exact min_raw (I.ok.hd hc) hl.isList rv.ints hne fun h' tk m t' hk h1 h2=>⟨.int _,H,I.kept hk,⟨_,rfl⟩,q m h1 h2⟩
end
section
variable{X:Cx}
end
section
variable{X:Cx}
end
theorem iter_any{prog:Program}{w:World}{A:Around}{E:Value->Shared->Prop}{s:Shared}{l:Addr}{items:Array Value}{Q:Value->Shared->Prop}(hl:s.heap.IsList l items)
  (h:∀s₂:Shared,s₂= {s with heap:=s.heap.push {cls:=.type "list_iterator",data:=.fields #[.ref l,.int 0 0]}}->
   (s₂.heap.IsListIter s.heap.objs.size l 0/\s₂.heap.IsList l items)->l≠s.heap.objs.size->Q (.ref s.heap.objs.size) s₂):wpAny (model prog w) A (pyIter (.ref l)) Q E s:=by
 have hlt:l<s.heap.objs.size:=by obtain⟨_,e,_⟩:=hl; exact Heap.lt_size e
 exact wpAny_pyIter_list hl (h _ rfl ⟨⟨_,Heap.get?_push_size _ rfl,rfl,rfl⟩,hl.push _⟩ (Nat.ne_of_lt hlt))
section
variable{X:Cx}
end
mutual
inductive Dp(K:PySem.W.Frag)(H:Hp):V->PyData->Prop
 | non:Dp K H .non .none
 | bl (b:Bool):Dp K H (.bl b) (.bool b)
 | int (i:Int):Dp K H (.int i) (.int i)
 | str (x:Str):Dp K H (.str x) (.str x)
 | lst {a:Addr} {xs:List V} {ds:List PyData}:SqL K H a xs->DpAll K H xs ds->Dp K H (.ref a) (.list ds)
 | tup {a:Addr} {xs:List V} {ds:List PyData}:SqT K H a xs->DpAll K H xs ds->Dp K H (.ref a) (.tuple ds)
inductive DpAll(K:PySem.W.Frag)(H:Hp):List V->List PyData->Prop
 | nil:DpAll K H [] []
 | cons {v:V} {vs:List V} {d:PyData} {ds:List PyData}:Dp K H v d->DpAll K H vs ds->DpAll K H (v::vs) (d::ds)
end
section
variable{X:Cx}{pins:List (Addr × Obj)}{σ:St}{H:Hp}{s:Shared}
mutual
theorem Dp.reads(I:Inv X pins σ H s):∀(d:PyData)(v:V)(u:Value),Dp X.K H v d->RelV v u->∃as,Reads s.heap u d as
 | .none,_,_,h,r=>by
   cases h
   cases r
   exact⟨_,Reads.none⟩
 | .bool b,_,_,h,r=>by
   cases h
   cases r
   exact⟨_,Reads.bool b⟩
 | .int i,_,_,h,r=>by
   cases h
   obtain⟨t,rfl⟩:=r
   exact⟨_,Reads.int i t⟩
 | .str x,_,_,h,r=>by
   cases h
   obtain⟨t,rfl⟩:=r
   exact⟨_,Reads.str x t⟩
 | .list ds,_,_,h,r=>by
   cases h with
   | lst hs ha=>
     cases r
     obtain⟨its,rv,⟨o,n,ho,hc,_,hd⟩,_⟩:=I.list hs
     obtain⟨as,hr⟩:=Dp.readsAll I ds _ its ha rv
     exact⟨_,Reads.list ho hc hd hr⟩
 | .tuple ds,_,_,h,r=>by
   cases h with
   | tup hs ha=>
     cases r
     obtain⟨its,rv,⟨o,ho,hc,n,hd⟩,_⟩:=I.tuple hs
     obtain⟨as,hr⟩:=Dp.readsAll I ds _ its ha rv
     exact⟨_,Reads.tuple ho hc hd hr⟩
 | .dict _,_,_,h,_=>by cases h
theorem Dp.readsAll(I:Inv X pins σ H s):∀(ds:List PyData)(vs:List V)(us:List Value),DpAll X.K H vs ds->ay vs us->∃as,ReadsAll s.heap us ds as
 | [],_,_,h,r=>by
   cases h
   cases r
   exact⟨_,ReadsAll.nil⟩
 | d::ds,_,_,h,r=>by
   cases h with
   | cons h1 h2=>
     cases r with
     | cons r1 r2=>
       obtain⟨as,q1⟩:=Dp.reads I d _ _ h1 r1
       obtain⟨bs,q2⟩:=Dp.readsAll I ds _ _ h2 r2
       exact⟨_,ReadsAll.cons q1 q2⟩
end
end
section
variable{X:Cx}
def rEqD(K:PySem.W.Frag):R2:=fun x y H Q=>∃d e,Dp K H x d/\Dp K H y e/\SeqAt.shaped d=true/\SeqAt.shaped e=true/\Q (.bl (PyData.eqv d e)) H
theorem op_eqD(hu:X.A.units+64<cLine):OpR X (compareOp .Eq) (rEqD X.K):=by
 intro pins s σ H x y v u Q I rx ry h
 obtain⟨d,e,hd,he,sd,se,q⟩:=h
 obtain⟨as,r1⟩:=Dp.reads I d x v hd rx
 obtain⟨bs,r2⟩:=Dp.reads I e y u he ry
 exact SeqAt.compareEq_shaped r1 r2 sd se hu ⟨.bl _,H,I,rfl,q⟩
end
end L2
namespace L2
open PySem PySem.Spec PyProof.Rows
abbrev CellAt(h:Heap)(c:Addr)(v:Option Value):Prop:=h.IsCell c v
def relS(scope sc:Scope):Scope:=
 {scope with names:=scope.names.map fun(n,k)=>if (k == .free && sc.kind == .function && sc.names.lookup n == some .cell) then(n,.cell) else(n,k)}
def bz(cells:List (Str × Addr)):List (Str × NameKind)->List (Str × Addr)->List (Str × Addr)
 | [],acc=>acc
 | (n,k)::r,acc=>if k == .free then bz cells r ((n,(cells.lookup n).getD 0)::acc) else bz cells r acc
theorem closure_loop(env:Env)(f:Str × NameKind->List (Str × Addr)->Sem (ForInStep (List (Str × Addr))))
  (hf:∀n k c,f (n,k) c=if k == .free then(do let a <- cellOf env n; pure (.yield ((n,a)::c))) else pure (.yield c)) :
  ∀(names:List (Str × NameKind))(acc:List (Str × Addr)),(∀y∈names,y.2=.free->∃c,env.cells.lookup y.1=some c)->forIn names acc f=pure (bz env.cells names acc)
 | [],acc,_=>by rw [List.forIn_nil]; rfl
 | (n,k)::r,acc,h=>by
   rw [List.forIn_cons,hf]
   have ih:=fun acc=>closure_loop env f hf r acc fun y hy=>h y (List.mem_cons_of_mem _ hy)
   unfold bz
   by_cases hk:(k == NameKind.free)=true
   ·rw [if_pos hk,if_pos hk]
    obtain⟨c,hc⟩:=h (n,k) List.mem_cons_self (by simpa using hk)
    have e:cellOf env n=pure c:=by unfold cellOf; rw [hc]
    rw [e]
    have e2:(env.cells.lookup n).getD 0=c:=by rw [hc]; rfl
    rw [e2]
    exact ih _
   ·rw [if_neg hk,if_neg hk]
    exact ih _
theorem closure_ok{scope:Scope}{env:Env}(h:∀y∈scope.names,y.2=.free->∃c,env.cells.lookup y.1=some c):closureFor scope env=pure (bz env.cells scope.names []):=by
 simp only [closureFor]
 rw [closure_loop env _ (fun n k c=>rfl) scope.names [] h]
 rfl
theorem mem_lookup{α:Type}:∀{l:List (Str × α)}{n:Str}{c:α},(n,c)∈l->∃c',l.lookup n=some c'
 | (k,v)::r,n,c,h=>by
   rw [List.lookup_cons]
   cases hb:n == k with
   | true=>exact⟨_,rfl⟩
   | false=>
     rcases List.mem_cons.mp h with e | h
     ·cases e; simp at hb
     ·exact mem_lookup h
theorem eA{cells:List (Str × Addr)}:∀{names:List (Str × NameKind)}{acc:List (Str × Addr)}{n:Str}{c:Addr},(n,c)∈bz cells names acc->(n,c)∈acc\/((n,.free)∈names/\c=(cells.lookup n).getD 0)
 | [],_,_,_,h=>.inl h
 | (m,k)::r,acc,n,c,h=>by
   unfold bz at h
   split at h
   ·rename_i hk
    have hk:k=.free:=by simpa using hk
    rcases eA h with h | ⟨h1,h2⟩
    ·rcases List.mem_cons.mp h with e | h
     ·cases e; exact .inr ⟨hk ▸List.mem_cons_self,rfl⟩
     ·exact .inl h
    ·exact .inr ⟨List.mem_cons_of_mem _ h1,h2⟩
   ·rcases eA h with h | ⟨h1,h2⟩
    ·exact .inl h
    ·exact .inr ⟨List.mem_cons_of_mem _ h1,h2⟩
theorem cloFrom_acc{cells:List (Str × Addr)}:∀{names:List (Str × NameKind)}{acc:List (Str × Addr)}{p:Str × Addr},p∈acc->p∈bz cells names acc
 | [],_,_,h=>h
 | (m,k)::r,acc,p,h=>by
   unfold bz
   split
   ·exact cloFrom_acc (List.mem_cons_of_mem _ h)
   ·exact cloFrom_acc h
theorem cloFrom_has{cells:List (Str × Addr)}:∀{names:List (Str × NameKind)}{acc:List (Str × Addr)}{n:Str},(n,.free)∈names->(n,(cells.lookup n).getD 0)∈bz cells names acc
 | (m,k)::r,acc,n,h=>by
   unfold bz
   rcases List.mem_cons.mp h with e | h
   ·cases e
    exact cloFrom_acc List.mem_cons_self
   ·split
    ·exact cloFrom_has h
    ·exact cloFrom_has h
theorem eS:∀{names:List (Str × NameKind)}{h:Heap}{acc:List (Str × Addr)}{x:Str}{c:Addr},(x,c)∈cellsFrom h.objs.size names acc->
  (x,c)∈acc\/((x,.cell)∈names/\h.objs.size<=c/\CellAt (pushCells h names) c none)
 | [],_,_,_,_,h=>.inl h
 | (n,k)::r,h,acc,x,c,hm=>by
   unfold cellsFrom at hm
   unfold pushCells
   split at hm
   ·rename_i hk
    rw [if_pos hk]
    have hk:k=.cell:=by simpa using hk
    rw [<- Heap.size_push h {cls:=.type "cell",data:=.cell none}] at hm
    rcases eS hm with hm | ⟨h1,h2,h3⟩
    ·rcases List.mem_cons.mp hm with e | hm
     ·cases e
      exact .inr ⟨hk ▸List.mem_cons_self,Nat.le_refl _,_,pushCells_keeps r _ _ _ (Heap.get?_push_size _ rfl),rfl⟩
     ·exact .inl hm
    ·rw [Heap.size_push] at h2
     exact .inr ⟨List.mem_cons_of_mem _ h1,Nat.le_of_succ_le h2,h3⟩
   ·rename_i hk
    rw [if_neg hk]
    rcases eS hm with hm | ⟨h1,h2,h3⟩
    ·exact .inl hm
    ·exact .inr ⟨List.mem_cons_of_mem _ h1,h2,h3⟩
theorem gG:∀{names:List (Str × NameKind)}{n:Nat}{acc:List (Str × Addr)}{p:Str × Addr},p∈acc->p∈cellsFrom n names acc
 | [],_,_,_,h=>h
 | (m,k)::r,n,acc,p,h=>by
   unfold cellsFrom
   split
   ·exact gG (List.mem_cons_of_mem _ h)
   ·exact gG h
theorem cells_has:∀{names:List (Str × NameKind)}{n:Nat}{acc:List (Str × Addr)}{x:Str},(x,.cell)∈names->∃c,(x,c)∈cellsFrom n names acc
 | (m,k)::r,n,acc,x,h=>by
   unfold cellsFrom
   rcases List.mem_cons.mp h with e | h
   ·cases e
    exact⟨n,gG List.mem_cons_self⟩
   ·split
    ·exact cells_has h
    ·exact cells_has h
theorem cells_inj:∀{names:List (Str × NameKind)}{h:Heap}{acc:List (Str × Addr)}{x y:Str}{c:Addr},(∀p∈acc,p.2<h.objs.size)->(∀x y c,(x,c)∈acc->(y,c)∈acc->x=y)->
  (x,c)∈cellsFrom h.objs.size names acc->(y,c)∈cellsFrom h.objs.size names acc->x=y
 | [],_,_,_,_,_,_,hi,h1,h2=>hi _ _ _ h1 h2
 | (n,k)::r,h,acc,x,y,c,hl,hi,h1,h2=>by
   unfold cellsFrom at h1 h2
   split at h1
   ·rename_i hk
    rw [if_pos hk] at h2
    rw [<- Heap.size_push h {cls:=.type "cell",data:=.cell none}] at h1 h2
    refine cells_inj (h:=h.push _) (fun p hp=>?_) (fun x y c a b=>?_) h1 h2
    ·rw [Heap.size_push]
     rcases List.mem_cons.mp hp with rfl | hp
     ·exact Nat.lt_succ_self _
     ·exact Nat.lt_succ_of_lt (hl p hp)
    ·rcases List.mem_cons.mp a with e | a <;> rcases List.mem_cons.mp b with e' | b
     ·cases e; cases e'; rfl
     ·cases e; exact absurd (hl _ b) (Nat.lt_irrefl _)
     ·cases e'; exact absurd (hl _ a) (Nat.lt_irrefl _)
     ·exact hi _ _ _ a b
   ·rename_i hk
    rw [if_neg hk] at h2
    exact cells_inj hl hi h1 h2
theorem newEnv_comp{M:Model}{A:Around}{E:Value->Shared->Prop}{s:Shared}{scope:Scope}{globals:Addr}{closure:List (Str × Addr)}{qual:Str}{func:Option Addr}{code:Value}{around:Env}{builtins:Addr}{Q:Env->Shared->Prop}
  (h:Q (newEnv scope s.heap.objs.size globals (cellsFrom (s.heap.objs.size+1) scope.names closure) qual func code (some around) builtins)
   {s with heap:=pushCells (s.heap.push {cls:=.type "dict",data:=.dict #[]}) scope.names}) :
  wpAny M A (newFunctionEnv scope globals closure [] qual func code (some around) builtins) Q E s:=by
 simp only [newFunctionEnv,Option.isSome_some,if_true]
 refine wpAny_bind (wpAny_alloc ?_)
 refine wpAny_bind (wpAny_layCells _ (fun n k c=>rfl) scope.names closure _ _ ?_)
 rw [show({s with heap:=s.heap.push {cls:=.type "dict",data:=.dict #[]}}:Shared).heap.objs.size=s.heap.objs.size+1 from Heap.size_push ..]
 rw [List.forIn_nil]
 exact wpAny_bind (wpAny_pure (wpAny_pure h))
theorem lookup_relS{sc:Scope}:∀{names:List (Str × NameKind)}{x:Str}{k:NameKind},
  (names.map fun(n,k)=>if (k == NameKind.free && sc.kind == .function && sc.names.lookup n == some .cell) then(n,NameKind.cell) else(n,k)).lookup x=some k->
  ∃k',names.lookup x=some k'/\(k=k'\/(k'=.free/\k=.cell))
 | [],_,_,h=>by simp at h
 | (n,k₀)::r,x,k,h=>by
   have ih:=@lookup_relS sc r x k
   have h':List.lookup x ((if (k₀ == NameKind.free && sc.kind == .function && sc.names.lookup n == some .cell)=true then(n,NameKind.cell) else(n,k₀))::(r.map _))=some k:=h
   cases hx:x == n with
   | true=>
     simp only [List.lookup_cons,hx]
     by_cases hc:(k₀ == NameKind.free && sc.kind == .function && sc.names.lookup n == some .cell)=true
     ·rw [if_pos hc] at h'
      simp only [List.lookup_cons,hx] at h'
      cases h'
      simp only [Bool.and_eq_true,beq_iff_eq] at hc
      exact⟨k₀,rfl,.inr ⟨hc.1.1,rfl⟩⟩
     ·rw [if_neg hc] at h'
      simp only [List.lookup_cons,hx] at h'
      cases h'
      exact⟨_,rfl,.inl rfl⟩
   | false=>
     simp only [List.lookup_cons,hx]
     by_cases hc:(k₀ == NameKind.free && sc.kind == .function && sc.names.lookup n == some .cell)=true
     ·rw [if_pos hc] at h'
      simp only [List.lookup_cons,hx] at h'
      exact ih h'
     ·rw [if_neg hc] at h'
      simp only [List.lookup_cons,hx] at h'
      exact ih h'
structure BlkOk(N:List Str)(sc scope:Scope)(own:List (Str × Nat)):Prop where
 kind:scope.kind=.function
 uniq:∀y∈scope.names,scope.names.lookup y.1=some y.2
 ix:∀p∈own,N[p.2]? =some p.1
 free:∀y∈scope.names,y.2=.free->sc.names.lookup y.1=some .cell\/sc.names.lookup y.1=some .free
 own:∀y∈scope.names,y.2=.local\/y.2=.cell->y.1∈own.map (·.1)\/y.1∉N
def wipe(σ:St):List Nat->St
 | []=>σ
 | v::vs=>(wipe σ vs).set v none
theorem wipe_length(σ:St):∀vs:List Nat,(wipe σ vs).length=σ.length
 | []=>rfl
 | v::vs=>by unfold wipe; rw [List.length_set,wipe_length σ vs]
theorem wipe_some{σ:St}{i:Nat}{x:V}:∀{vs:List Nat},(wipe σ vs)[i]? =some (some x)->σ[i]? =some (some x)/\i∉vs
 | [],h=>⟨h,by simp⟩
 | v::vs,h=>by
   unfold wipe at h
   by_cases hi:v=i
   ·subst hi
    by_cases hv:v<(wipe σ vs).length
    ·rw [List.getElem?_set_self hv] at h; cases h
    ·rw [List.getElem?_eq_none (by simpa using hv)] at h; cases h
   ·rw [List.getElem?_set_ne hi] at h
    obtain⟨h1,h2⟩:=wipe_some h
    exact⟨h1,by simp only [List.mem_cons,not_or]; exact⟨fun e=>hi e.symm,h2⟩⟩
abbrev Cx.blk(X:Cx)(s:Shared)(H:Hp)(scope:Scope)(cenv:Env)(fp:List Addr):Cx:={X with s_0:=s,H_0:=H,env:=cenv,outer:=X.stack,ex:=fp,fn:=fun x=>scope.names.lookup x == some .cell,pn:=[],xe:=fun _ _=>False}
section
variable{X:Cx}{pins:List (Addr × Obj)}{σ:St}{H:Hp}{s:Shared}
theorem block_start{scope:Scope}{own:List (Str × Nat)}{fp:List Addr}(I:Inv X pins σ H s)(ok:BlkOk X.N X.env.scope scope own)(hN:X.N.Nodup)(hfp:∀b∈fp,ga X pins H b/\b<s.heap.objs.size) :
  Inv (X.blk s H scope (compEnvC scope (cellsFrom (s.heap.objs.size+1) scope.names (bz X.env.cells scope.names [])) s.heap.objs.size X.env) fp) [] (wipe σ (own.map (·.2))) H {s with heap:=pushCells (s.heap.push {cls:=.type "dict",data:=.dict #[]}) scope.names}:=by
 have hfree:∀y∈scope.names,y.2=.free->∃c,X.env.cells.lookup y.1=some c:=fun y hy e=>by
  rcases ok.free y hy e with k | k
  ·exact I.ok.has _ (.inl k)
  ·exact I.ok.has _ (.inr k)
 generalize hcenv:compEnvC scope (cellsFrom (s.heap.objs.size+1) scope.names (bz X.env.cells scope.names [])) s.heap.objs.size X.env=cenv
 have kp:∀b o,s.heap.get? b=some o->(pushCells (s.heap.push {cls:=.type "dict",data:=.dict #[]}) scope.names).get? b=some o:=fun b o e=>pushCells_keeps _ _ _ _ (Heap.get?_push_of_some _ e)
 have hL:cenv.locals=s.heap.objs.size:=by rw [<- hcenv]; rfl
 have hcl:cenv.cells=cellsFrom (s.heap.objs.size+1) scope.names (bz X.env.cells scope.names []):=by rw [<- hcenv]; rfl
 have hsc:cenv.scope=relS scope X.env.scope:=by rw [<- hcenv]; rfl
 rw [<- Heap.size_push s.heap {cls:=.type "dict",data:=.dict #[]}] at hcl
 have cm:∀{y c},(y,c)∈bz X.env.cells scope.names []->X.env.cells.lookup y=some c/\c<s.heap.objs.size:=fun{y c} hm=>by
  rcases eA hm with hm | ⟨h1,rfl⟩
  ·cases hm
  ·obtain⟨c,hc⟩:=hfree _ h1 rfl
   rw [hc]
   obtain⟨w,z⟩:=I.cell _ _ hc
   exact⟨rfl,z.lt⟩
 have mem:∀{y c},cenv.cells.lookup y=some c->(X.env.cells.lookup y=some c/\c<s.heap.objs.size)\/(s.heap.objs.size+1<=c/\CellAt (pushCells (s.heap.push {cls:=.type "dict",data:=.dict #[]}) scope.names) c none):=fun{y c} e=>by
  rw [hcl] at e
  rcases eS (PySem.mem_of_lookup e) with hm | ⟨_,h2,h3⟩
  ·exact .inl (cm hm)
  ·rw [Heap.size_push] at h2; exact .inr ⟨h2,h3⟩
 have look:∀{y},scope.names.lookup y=some .free->∃c,cenv.cells.lookup y=some c/\X.env.cells.lookup y=some c:=fun{y} hl=>by
  have hy:(y,NameKind.free)∈scope.names:=PySem.mem_of_lookup hl
  obtain⟨c',e'⟩:=mem_lookup (gG (names:=scope.names) (n:=(s.heap.push {cls:=.type "dict",data:=.dict #[]}).objs.size) (cloFrom_has (cells:=X.env.cells) (acc:=[]) hy))
  rw [<- hcl] at e'
  refine⟨c',e',?_⟩
  rw [hcl] at e'
  rcases eS (PySem.mem_of_lookup e') with hm | ⟨h1,_,_⟩
  ·exact(cm hm).1
  ·have:=ok.uniq _ h1
   rw [hl] at this; cases this
 have okB:(X.blk s H scope cenv fp).Ok:=by
  refine⟨I.ok.mod,by show cenv.scope.kind=_; rw [hsc]; exact ok.kind,by show cenv.globals=_; rw [<- hcenv]; exact I.ok.glob,by show cenv.builtins=_; rw [<- hcenv]; exact I.ok.blt,by show s.heap.objs.size<=cenv.locals; rw [hL]; exact Nat.le_refl _,
   fun y z c e1 e2=>?_,fun y hy=>?_,fun y c z e=>?_,I.ok.hd,I.ok.frames,.inl rfl,fun b hb=>⟨?_,fun y c e z=>?_⟩,I.bs,Nat.le_trans I.ok.bsz I.sz,fun b o e hb=>?_,fun b hb z=>?_,I.stack,I.stkFree,I.ok.hst⟩
  ·have e1:cenv.cells.lookup y=some c:=e1
   have e2:cenv.cells.lookup z=some c:=e2
   rw [hcl] at e1 e2
   refine cells_inj (fun p hp=>?_) (fun y z c a b=>I.ok.inj y z c (cm a).1 (cm b).1) (PySem.mem_of_lookup e1) (PySem.mem_of_lookup e2)
   rw [Heap.size_push]
   exact Nat.lt_succ_of_lt (cm (y:=p.1) (c:=p.2) hp).2
  ·show ∃c,cenv.cells.lookup y=some c
   have key:∀k,cenv.kindOf y=some k->(k=.cell\/k=.free)->∃c,cenv.cells.lookup y=some c:=fun k hk hk'=>by
    unfold Env.kindOf at hk
    rw [hsc] at hk
    obtain⟨k',e,r⟩:=lookup_relS hk
    have:k'=.cell\/k'=.free:=by
     rcases r with rfl | ⟨rfl,_⟩
     ·exact hk'
     ·exact .inr rfl
    rcases this with rfl | rfl
    ·obtain⟨c,hm⟩:=cells_has (n:=(s.heap.push {cls:=.type "dict",data:=.dict #[]}).objs.size) (acc:=bz X.env.cells scope.names []) (PySem.mem_of_lookup e)
     obtain⟨c',e'⟩:=mem_lookup hm
     exact⟨c',by rw [hcl]; exact e'⟩
    ·obtain⟨c,h1,_⟩:=look e
     exact⟨c,h1⟩
   rcases hy with hy | hy
   ·exact key _ hy (.inl rfl)
   ·exact key _ hy (.inr rfl)
  ·have z:(scope.names.lookup y == some NameKind.cell)=true:=z
   have z:scope.names.lookup y=some .cell:=by simpa using z
   have e:cenv.cells.lookup y=some c:=e
   rw [hcl] at e
   rcases eS (PySem.mem_of_lookup e) with hm | ⟨_,h2,_⟩
   ·rcases eA hm with hm | ⟨h1,_⟩
    ·cases hm
    ·have q:=ok.uniq _ h1
     rw [z] at q; cases q
   ·rw [Heap.size_push] at h2
    exact Nat.le_of_succ_le h2
  ·show b≠cenv.locals
   rw [hL]; exact Nat.ne_of_lt (hfp b hb).2
  ·have e:cenv.cells.lookup y=some c:=e
   rcases mem e with⟨h1,_⟩ | ⟨h1,_⟩
   ·exact(hfp b hb).1.2.2.2.2.1 y c h1 z
   ·have h2:s.heap.objs.size+1<=b:=by rw [<- z]; exact h1
    exact absurd (Nat.lt_of_lt_of_le (hfp b hb).2 (Nat.le_of_succ_le h2)) (Nat.lt_irrefl _)
  ·rcases(hfp b hb).1.2.2.2.1 with z | z
   ·exact I.ok.noex b o e z
   ·exact absurd (Nat.lt_of_lt_of_le (Heap.lt_size e) (Nat.le_trans I.ok.bsz z)) (Nat.lt_irrefl _)
  ·rcases List.mem_cons.mp (I.stkSub b z) with z | z
   ·exact(hfp b hb).1.2.1 z
   ·exact(hfp b hb).1.2.2.1 z
 refine⟨okB,rfl,I.bare,Un.kept kp,⟨fun _=>none,?_,fun i y av e1 e2 e3=>?_⟩,fun y c e=>?_,?_,fun y c e=>?_,fun p hp=>?_,I.hok.kept kp,by rw [wipe_length]; exact I.len⟩
 ·show Heap.Ns _ cenv.locals _
  rw [hL]
  exact Heap.Ns.keeps (Heap.Ns.new ..) fun b o e=>pushCells_keeps _ _ _ _ e
 ·obtain⟨e2,hne⟩:=wipe_some e2
  have hfr:scope.names.lookup y=some .free/\(cenv.kindOf y=some .cell\/cenv.kindOf y=some .free):=by
   have key:∀k,cenv.scope.names.lookup y=some k->k=.local\/k=.cell\/k=.free->scope.names.lookup y=some .free/\(cenv.kindOf y=some .cell\/cenv.kindOf y=some .free):=fun k hk hk'=>by
    have hk0:=hk
    rw [hsc] at hk
    obtain⟨k',e,r⟩:=lookup_relS hk
    have no:¬ (k'=.local\/k'=.cell):=fun hh=>by
     rcases ok.own _ (PySem.mem_of_lookup e) hh with e' | e'
     ·obtain⟨p,hp,hpy⟩:=List.mem_map.mp e'
      have e3:=ok.ix p hp
      have:p.1=y:=hpy
      rw [this] at e3
      exact hne (List.mem_map.mpr ⟨p,hp,nodup_ix hN e3 e1⟩)
     ·exact e' (List.mem_of_getElem? e1)
    rcases r with rfl | ⟨rfl,rfl⟩
    ·rcases hk' with rfl | rfl | rfl
     ·exact absurd (.inl rfl) no
     ·exact absurd (.inr rfl) no
     ·exact⟨e,.inr hk0⟩
    ·exact⟨e,.inl hk0⟩
   have e3:Vis cenv.scope y:=e3
   rcases e3 with e3 | e3 | e3
   ·exact key _ e3 (.inl rfl)
   ·exact key _ e3 (.inr (.inl rfl))
   ·exact key _ e3 (.inr (.inr rfl))
  obtain⟨m,hn,hl⟩:=I.loc
  have hvis:Vis X.env.scope y:=(ok.free _ (PySem.mem_of_lookup hfr.1) rfl).elim (fun k=>.inr (.inl k)) (fun k=>.inr (.inr k))
  obtain⟨w,r,q⟩:=hl i y av e1 e2 hvis
  refine⟨w,r,.inr ⟨hfr.2,?_⟩⟩
  obtain⟨c,h1,h2⟩:=look hfr.1
  rcases q with⟨k,_⟩ | ⟨_,c',e',z⟩
  ·have k:X.env.scope.names.lookup y=some .local:=k
   rcases ok.free _ (PySem.mem_of_lookup hfr.1) rfl with k' | k' <;> rw [show X.env.scope.names.lookup y=_ from k'] at k <;> cases k
  ·rw [h2] at e'; cases e'
   exact⟨c,h1,z.keeps kp⟩
 ·have e:cenv.cells.lookup y=some c:=e
  rcases mem e with⟨h1,_⟩ | ⟨_,z⟩
  ·obtain⟨w,z⟩:=I.cell y c h1
   exact⟨w,z.keeps kp⟩
  ·exact⟨_,z⟩
 ·show H cenv.locals=none
  rw [hL]; exact I.hok.fresh (Nat.le_refl _)
 ·have e:cenv.cells.lookup y=some c:=e
  rcases mem e with⟨h1,_⟩ | ⟨h1,_⟩
  ·exact I.freeC y c h1
  ·exact I.hok.fresh (Nat.le_of_succ_le h1)
 ·exact absurd (show p∈([]:List (Addr × Obj))++[] from hp) (by simp)
theorem app_ok{E:Value->Shared->Prop}{D:Addr}{xs:List V}{y:V}{v:Value}{Q:Value->Shared->Prop}(I:Inv X pins σ H s)(hD:H D=some (.lst xs))(hz:xs.length<sizeLine)(r:RelV y v)
  (h:∀s',Inv X pins σ (upd H D (.lst (xs++[y]))) s'->Q .none s'):wpAny (model X.prog X.w) X.A (call (.builtin "list.append") [.ref D,v]) Q E s:=by
 obtain⟨hz',its,n,ri,e⟩:=I.hok D _ hD
 have hl:=ri.length
 refine append_at (hsz:=by rw [List.size_toArray]; omega) e fun h' sb ho'=>?_
 refine h {s with heap:=h'} (I.write (t':=s.toks) (by rw [hD]; trivial) (.inl rfl) (fun b u hb q=>(sb.2 b hb).trans q) ⟨_,ho'⟩ ⟨by rw [List.length_append]; exact hz,its++[v],n+1,ri.append (.cons r .nil),?_⟩)
 rw [ho']
 simp
def PTs(X:Cx)(ifs:List Expr)(t:TT):Prop:=
 ∀(pins:List (Addr × Obj))(s:Shared)(σ:St)(H:Hp)(Q:Bool->Hp->Prop),Inv X pins σ H s->t σ H Q->
  wpAny (model X.prog X.w) X.A (forIn ifs true fun c r=>if r=true then do let ok <- isTrue c X.env (eval c X.env); pure (ForInStep.yield ok) else pure (ForInStep.yield r)) (TP X pins σ Q) X.xe s
def gH:TT:=fun _ H Q=>Q true H
theorem cU:PTs X [] gH:=fun _ _ _ H _ I h=>wpAny_tests_nil ⟨H,I,h⟩
theorem hW{c:Expr}{t:TT}(h:PT X c t):PTs X [c] t:=fun pins s σ H Q I hw=>wpAny_tests_one (h pins s σ H Q I hw)
end
theorem jW{α:Type}{t:Sem α}{Q Q':α->Shared->Prop}{M:Model}{A:Around}{E:Value->Shared->Prop}{s:Shared}(h:wpAny M A t Q (fun _ _=>False) s)(hQ:∀a s,Q a s->Q' a s):wpAny M A t Q' E s:=wpAny_mono h hQ fun _ _ z=>False.elim z
theorem compLoop_any{prog:Program}{w:World}{A:Around}{R:Result->Shared->Prop}{s:Shared}{elt target iter:Expr}{ifs:List Expr}{scope:Scope}{pos:Pos}{it acc:Value}{env:Env}(I:Nat->Shared->Prop)
  (turn:∀n s,I n s->wpAny (model prog w) A (pyNext it) (fun r s₁=>match r with
   | none=>R (.ok .next) s₁
   | some v=>wpAny (model prog w) A (letOwnedTupleGo target it v) (fun _ s₁'=>wpAny (model prog w) A (assign target env v) (fun _ s₂=>
     wpAny (model prog w) A (forIn ifs true fun c r=>if r=true then do let ok <- isTrue c env (eval c env); pure (ForInStep.yield ok) else pure (ForInStep.yield r)) (fun ok s₃=>
      if ok=true then wpAny (model prog w) A (eval elt env) (fun x s₄=>
       wpAny (model prog w) A (call (.builtin "list.append") [acc,x]) (fun _ s₅=>∃m,m<n/\I m s₅) (notedBy (model prog w) A env fun e s'=>R (.error e) s') s₄) (notedBy (model prog w) A env fun e s'=>R (.error e) s') s₃
      else ∃m,m<n/\I m s₃) (notedBy (model prog w) A env fun e s'=>R (.error e) s') s₂) (notedBy (model prog w) A env fun e s'=>R (.error e) s') s₁') (notedBy (model prog w) A env fun e s'=>R (.error e) s') s₁) (notedBy (model prog w) A env fun e s'=>R (.error e) s') s)
  (n:Nat) (h:I n s) :
  codeAny (model prog w) A (.compLoop (.ListComp elt [⟨target,iter,ifs,0⟩] scope pos) 0 it acc env) R s:=by
 refine codeAny_loop rfl I (fun n s hI=>?_) n h
 show wpAny _ A ((compTurn (.ListComp elt [⟨target,iter,ifs,0⟩] scope pos) 0 it acc env).onRaise (fun x=>do noteFrame x env; theTreesLotGoes x)) _ _ s
 refine wpAny_noted ?_
 rw [compTurn_list]
 refine wpAny_bind (wpAny_standAt (wpAny_bind (wpAny_mono (turn n s hI) (fun r s₁ h₁=>?_) fun _ _ h'=>h')))
 cases r with
 | none=>exact wpAny_pure h₁
 | some v=>
   refine wpAny_bind (wpAny_mono h₁ (fun _ s₁' h₁'=>?_) fun _ _ h'=>h')
   refine wpAny_bind (wpAny_mono h₁' (fun _ s₂ h₂=>wpAny_bind (wpAny_mono h₂ (fun ok s₃ h₃=>?_) fun _ _ h'=>h')) fun _ _ h'=>h')
   cases ok with
   | false=>exact wpAny_pure ⟨rfl,h₃⟩
   | true=>
     exact wpAny_bind (wpAny_bind (wpAny_mono h₃ (fun x s₄ h₄=>wpAny_bind (wpAny_mono h₄ (fun _ s₅ h₅=>wpAny_pure (wpAny_pure ⟨rfl,h₅⟩)) fun _ _ h'=>h')) fun _ _ h'=>h'))
section
variable{X:Cx}
def tLc(wi:TI)(g:TG)(tt:TT)(te:TE)(vs:List Nat):TE:=fun σ H Q=>wi σ H fun J H1=>∀D,H1 D=none->∃W:Nat->Nat->Hp->Prop,(∃m,W 0 m (upd H1 D (.lst [])))/\∀i m H,W i m H->
 (J.stop i H/\Q (.ref D) H)\/(J.go i H/\∃Nx:Hp->Prop,(∀H',Nx H'->∃m',m'<m/\W (i+1) m' H')/\∀x H',J.yld i H x H'->g x (wipe σ vs) H' fun σ2 H2=>wipe σ2 vs=wipe σ vs/\tt σ2 H2 fun b H3=>
  if b=true then te σ2 H3 fun y H4=>∃acc,H4 D=some (.lst acc)/\acc.length<sizeLine/\Nx (upd H4 D (.lst (acc++[y]))) else Nx H3)
theorem lc_core{pins:List (Addr × Obj)}{s:Shared}{σ:St}{H:Hp}{Q:VK}{elt tg iter:Expr}{ifs:List Expr}{scope:Scope}{own:List (Str × Nat)}{pos pos':Pos}{wi:TI}{g:TG}{tt:TT}{te:TE}{use:Option (Value->Sem Unit)}{Qf:Value->Shared->Prop}
  (hc:X.calm=true) (hN:X.N.Nodup) (I:Inv X pins σ H s) (hi:PI X tg iter wi) (ok:BlkOk X.N X.env.scope scope own)
  (hg:∀(s:Shared)(H:Hp)(C:Addr)(cl:List (Str × Addr))(fp:List Addr),PG (X.blk s H scope (compEnvC scope cl C X.env) fp) tg g) (ht:∀(s:Shared)(H:Hp)(C:Addr)(cl:List (Str × Addr))(fp:List Addr),PTs (X.blk s H scope (compEnvC scope cl C X.env) fp) ifs tt)
  (he:∀(s:Shared)(H:Hp)(C:Addr)(cl:List (Str × Addr))(fp:List Addr),PE (X.blk s H scope (compEnvC scope cl C X.env) fp) elt te) (hs:∀x,foldedSetIterable iter X.env x=pure x)
  (h:tLc wi g tt te (own.map (·.2)) σ H Q)
  (hRR:∀D C s' m H',Inv X pins σ H' s'->Q (.ref D) H'->s'.heap.Ns C m->ga X pins H' C->compPost (model X.prog X.w) X.A X.xe use Qf (.ref D) C (.ok .next) s') :
  wpAny (model X.prog X.w) X.A (comprehension (.ListComp elt [⟨tg,iter,ifs,0⟩] scope pos) scope X.env pos' (newList []) false (eval iter X.env) use) Qf X.xe s:=by
 have hfree:∀y∈scope.names,y.2=.free->∃c,X.env.cells.lookup y.1=some c:=fun y hy e=>by
  rcases ok.free y hy e with k | k
  ·exact I.ok.has _ (.inl k)
  ·exact I.ok.has _ (.inr k)
 refine wpAny_comprehension_free (use:=use) rfl hs (closure_ok hfree) ok.kind (fun y hy e=>by rw [ok.uniq y hy,e])
  (thn (hi pins s σ H _ I h) fun xv s1 hx=>thn hx fun itv s2 h2=>?_)
 obtain⟨it,fp,tn,J,H2,e,I2,T,st2,f2,q⟩:=h2
 subst e
 refine wpAny_newObj_type (newEnv_comp ?_) (by show 0<=sizeLine; decide)
 generalize hD:s2.heap.objs.size=D
 have hDn:H2 D=none:=I2.hok.fresh (Nat.le_of_eq hD)
 obtain⟨W,⟨m0,w0⟩,turn⟩:=q D hDn
 generalize hs3:({s2 with heap:=s2.heap.push {cls:=.type "list",data:=.seq ([]:List Value).toArray}}:Shared)=s3
 have I3:Inv X pins σ (upd H2 D (.lst [])) s3:=by
  rw [<- hs3]
  refine I2.laid (t':=s2.toks) (fun b o e=>Heap.get?_push_of_some _ e) (Nat.le_of_eq hD) ⟨Nat.zero_le _,[],0,.nil,?_⟩
  rw [<- hD]
  exact Heap.get?_push_size _ rfl
 have h3:s3.heap=s2.heap.push {cls:=.type "list",data:=.seq ([]:List Value).toArray}:=by rw [<- hs3]
 have sz:∀b∈fp,b<s2.heap.objs.size:=fun b hb=>by
  obtain⟨o,e,_⟩:=T.obj _ _ st2 b hb
  exact Heap.lt_size e
 have f3:∀b∈fp,ga X pins (upd H2 D (.lst [])) b/\b<s3.heap.objs.size:=fun b hb=>by
  have hlt:=sz b hb
  refine⟨⟨?_,(f2 b hb).2⟩,by rw [h3,Heap.size_push]; exact Nat.lt_succ_of_lt hlt⟩
  rw [aO (by rw [<- hD]; exact Nat.ne_of_lt hlt)]
  exact(f2 b hb).1
 have st3:tn 0 s3.heap:=T.keep _ _ _ st2 fun b _ o e=>by rw [h3]; exact Heap.get?_push_of_some _ e
 have I4:=block_start I3 ok hN f3
 have pg:=hg s3 (upd H2 D (.lst [])) s3.heap.objs.size (cellsFrom (s3.heap.objs.size+1) scope.names (bz X.env.cells scope.names [])) fp
 have pt:=ht s3 (upd H2 D (.lst [])) s3.heap.objs.size (cellsFrom (s3.heap.objs.size+1) scope.names (bz X.env.cells scope.names [])) fp
 have pe:=he s3 (upd H2 D (.lst [])) s3.heap.objs.size (cellsFrom (s3.heap.objs.size+1) scope.names (bz X.env.cells scope.names [])) fp
 show codeAny _ _ (.compStart (.ListComp elt [⟨tg,iter,ifs,0⟩] scope pos) 0 (.ref it) (.ref D) (compEnvC scope (cellsFrom (s3.heap.objs.size+1) scope.names (bz X.env.cells scope.names [])) s3.heap.objs.size X.env)) (compPost (model X.prog X.w) X.A X.xe use Qf (.ref D) s3.heap.objs.size) {s3 with heap:=pushCells (s3.heap.push {cls:=.type "dict",data:=.dict #[]}) scope.names}
 have nfp:∀b∈fp,(upd H2 D (.lst [])) b=none:=fun b hb=>(f3 b hb).1.1
 generalize hce:compEnvC scope (cellsFrom (s3.heap.objs.size+1) scope.names (bz X.env.cells scope.names [])) s3.heap.objs.size X.env=ce at I4 pg pt pe ⊢
 have cL:ce.locals=s3.heap.objs.size:=by subst hce; rfl
 generalize hH3:upd H2 D (.lst [])=H3 at I3 I4 pg pt pe w0 nfp f3
 generalize hs4:({s3 with heap:=pushCells (s3.heap.push {cls:=.type "dict",data:=.dict #[]}) scope.names}:Shared)=s4 at I4 ⊢
 have st4:tn 0 s4.heap:=T.keep _ _ _ st3 fun b _ o e=>by rw [<- hs4]; exact pushCells_keeps _ _ _ _ (Heap.get?_push_of_some _ e)
 have stat:∀{σ':St}{H':Hp}{s':Shared},Inv (X.blk s3 H3 scope ce fp) [] σ' H' s'->(∀b∈fp,H' b=none)->∀b∈fp,ga (X.blk s3 H3 scope ce fp) [] H' b:=fun{σ' H' s'} I' hn b hb=>
  ⟨hn b hb,(I'.ok.exf b hb).1,I'.ok.exfs b hb,.inl hb,fun x c e=>(I'.ok.exf b hb).2 x c e,fun p hp=>absurd (show p∈([]:List (Addr × Obj))++[] from hp) (by simp)⟩
 have loop:codeAny (model X.prog X.w) X.A (.compLoop (.ListComp elt [⟨tg,iter,ifs,0⟩] scope pos) 0 (.ref it) (.ref D) ce) (compPost (model X.prog X.w) X.A X.xe use Qf (.ref D) s3.heap.objs.size) s4:=by
  refine compLoop_any (fun n s'=>∃i H',Inv (X.blk s3 H3 scope ce fp) [] (wipe σ (own.map (·.2))) H' s'/\tn i s'.heap/\(∀b∈fp,H' b=none)/\W i n H') ?_ m0 ⟨0,H3,I4,st4,nfp,w0⟩
  rintro n s5 ⟨i,H5,I5,st5,n5,w5⟩
  rcases turn i n H5 w5 with⟨stop,qq⟩ | ⟨go,Nx,hNx,step⟩
  ·have td:=T.done (X.blk s3 H3 scope ce fp) rfl rfl rfl hc i [] s5 _ H5 (fun _ _=>False) I5 (stat I5 n5) st5 stop
   refine jW td fun r s6 ⟨hr,I6⟩=>?_
   subst hr
   have I7:Inv X pins σ H5 s6:=I3.call' (ch:=fp) I6.os I6.base I6.hok I6.bare fun b hb=>⟨(f3 b hb).1.2.2.2.1,(f3 b hb).1.2.1,(f3 b hb).1.2.2.2.2.1,(f3 b hb).1.2.2.2.2.2⟩
   have nC:H5 s3.heap.objs.size=none:=by
    have z:H5 ce.locals=none:=I6.free
    rw [cL] at z
    exact z
   obtain⟨m,hn,_⟩:=I6.loc
   have hn:s6.heap.Ns ce.locals m:=hn
   rw [cL] at hn
   exact hRR D s3.heap.objs.size s6 m H5 I7 qq hn (I3.fpOk (Nat.le_refl _) nC)
  ·have ti:=T.item (X.blk s3 H3 scope ce fp) rfl rfl rfl hc i [] s5 _ H5 (fun _ _=>False) I5 (stat I5 n5) st5 go
   refine jW ti fun r s6 ⟨u,hr,h6⟩=>?_
   subst hr
   refine jW h6 fun _ s7 ⟨x,H7,I7,r7,y7,st7,n7⟩=>?_
   have I7':=I7.pinned (stat I7 n7) (T.obj _ _ st7)
   refine jW (pg _ s7 _ H7 x u _ I7' r7 (step x H7 y7)) fun _ s8 ⟨σ8,H8,I8,hw8,q8⟩=>?_
   refine jW (pt _ s8 σ8 H8 _ I8 q8) fun b s9 ⟨H9,I9,q9⟩=>?_
   have fin:∀{s':Shared}{H':Hp},Inv (X.blk s3 H3 scope ce fp) ([]++iL fp s7.heap) σ8 H' s'->Nx H'->∃m,m<n/\∃i H',Inv (X.blk s3 H3 scope ce fp) [] (wipe σ (own.map (·.2))) H' s'/\tn i s'.heap/\(∀b∈fp,H' b=none)/\W i m H':=fun{s' H'} I' nx=>by
    obtain⟨m',hm,w'⟩:=hNx H' nx
    have pin':∀b∈fp,∀o,s7.heap.get? b=some o->s'.heap.get? b=some o/\H' b=none:=fun b hb o e=>
     let z:=I'.pin (b,o) (List.mem_append_right _ (List.mem_append_right _ (mem_pinsAt hb e)))
     ⟨z.1,z.2.1⟩
    have hl:(wipe σ (own.map (·.2))).length=σ8.length:=by rw [<- hw8,wipe_length]
    refine⟨m',hm,i+1,H',(I'.unpinned (pins:=[])).weak hl (fun j v e=>?_),T.keep _ _ _ st7 fun b hb o e=>(pin' b hb o e).1,fun b hb=>?_,w'⟩
    ·rw [<- hw8] at e
     exact(wipe_some e).1
    ·obtain⟨o,e,_⟩:=T.obj _ _ st7 b hb
     exact(pin' b hb o e).2
   cases b with
   | false=>
     simp only [Bool.false_eq_true,if_false] at q9 ⊢
     exact fin I9 q9
   | true=>
     simp only [if_true] at q9 ⊢
     refine jW (pe _ s9 σ8 H9 _ I9 q9) fun z s10 ⟨yv,H10,I10,r10,acc,hD10,hz10,nx⟩=>?_
     exact app_ok (X:=X.blk s3 H3 scope ce fp) I10 hD10 hz10 r10 fun s11 I11=>fin I11 nx
 exact codeAny_compStart_list loop (T.self X.A 0 _ _ _ st4 loop)
theorem dN{elt tg iter:Expr}{ifs:List Expr}{scope:Scope}{own:List (Str × Nat)}{pos:Pos}{wi:TI}{g:TG}{tt:TT}{te:TE}(hc:X.calm=true)(hN:X.N.Nodup)(hi:PI X tg iter wi)(ok:BlkOk X.N X.env.scope scope own)
  (hg:∀(s:Shared)(H:Hp)(C:Addr)(cl:List (Str × Addr))(fp:List Addr),PG (X.blk s H scope (compEnvC scope cl C X.env) fp) tg g) (ht:∀(s:Shared)(H:Hp)(C:Addr)(cl:List (Str × Addr))(fp:List Addr),PTs (X.blk s H scope (compEnvC scope cl C X.env) fp) ifs tt)
  (he:∀(s:Shared)(H:Hp)(C:Addr)(cl:List (Str × Addr))(fp:List Addr),PE (X.blk s H scope (compEnvC scope cl C X.env) fp) elt te) (hs:∀x,foldedSetIterable iter X.env x=pure x:=by intro _; rfl) :
  PE X (.ListComp elt [⟨tg,iter,ifs,0⟩] scope pos) (tLc wi g tt te (own.map (·.2))):=by
 intro pins s σ H Q I h
 rw [eval_ListComp]
 refine lc_core hc hN I hi ok hg ht he hs h fun D C s' m H' I' q hn f=>⟨m,hn,fun h'' sb=>?_⟩
 obtain⟨f0,f1,f2,f3,f4,f5⟩:=f
 exact⟨.ref D,H',I'.turned (t':=s'.toks) (fun b o hb e=>(sb.2 b hb).trans e) f0 f1 f3 f4 f5,rfl,q⟩
theorem ps_setLc{i:Nat}{y:Str}{py:Pos}{elt tg iter:Expr}{ifs:List Expr}{scope:Scope}{own:List (Str × Nat)}{pos spos:Pos}{wi:TI}{g:TG}{tt:TT}{te:TE}(hc:X.calm=true)(hN:X.N.Nodup)(hy:X.N[i]? =some y)(hyl:X.env.scope.names.lookup y=some .local)
  (hsw:swapsWith (.ListComp elt [⟨tg,iter,ifs,0⟩] scope pos) (some (.Name y py)) spos.line X.env=pure true) (hi:PI X tg iter wi) (ok:BlkOk X.N X.env.scope scope own)
  (hg:∀(s:Shared)(H:Hp)(C:Addr)(cl:List (Str × Addr))(fp:List Addr),PG (X.blk s H scope (compEnvC scope cl C X.env) fp) tg g) (ht:∀(s:Shared)(H:Hp)(C:Addr)(cl:List (Str × Addr))(fp:List Addr),PTs (X.blk s H scope (compEnvC scope cl C X.env) fp) ifs tt)
  (he:∀(s:Shared)(H:Hp)(C:Addr)(cl:List (Str × Addr))(fp:List Addr),PE (X.blk s H scope (compEnvC scope cl C X.env) fp) elt te) (hs:∀x,foldedSetIterable iter X.env x=pure x:=by intro _; rfl) :
  PS X (.Assign [.Name y py] (.ListComp elt [⟨tg,iter,ifs,0⟩] scope pos) spos) (tAsg (tLc wi g tt te (own.map (·.2))) (jH i)):=by
 intro pins s σ H D I h
 rw [exec_Assign_Name_used _ _ _ _ hsw]
 refine wpAny_bind (wpAny_standAt (wpAny_bind ?_))
 show wpAny _ X.A (do let _ <- comprehension (.ListComp elt [⟨tg,iter,ifs,0⟩] scope pos) scope X.env (firstIterPos [⟨tg,iter,ifs,0⟩] pos) (newList []) false (eval iter X.env) (some (assign (.Name y py) X.env))) _ _ s
 have h:tLc wi g tt te (own.map (·.2)) σ H (fun x H1=>jH i x σ H1 D.nx):=h
 refine wpAny_bind (thn (lc_core (Qf:=fun _ s'=>SP X pins D .next s') hc hN I hi ok hg ht he hs h fun L C s' m H' I' q hn f=>?_) fun _ s' hq=>wpAny_pure (wpAny_pure hq))
 show wpAny _ _ (assign (.Name y py) X.env (.ref L)) _ _ _
 refine wpAny_assign_Name (store_ok2 (v:=V.ref L) I' hN hy (.inl hyl) rfl (fun s2 I2 ⟨a,sb,ha⟩=>?_) (.inr hyl))
 obtain⟨f0,f1,f2,f3,f4,f5⟩:=f
 have haC:C≠a:=by
  rcases ha with z | z
  ·rw [z]; exact f1
  ·exact fun e=>f4 y a z e.symm
 refine⟨m,hn.sameBut sb haC,fun h3 sb3=>?_⟩
 exact⟨_,H',I2.turned (t':=s2.toks) (fun b o hb e=>(sb3.2 b hb).trans e) f0 f1 f3 f4 f5,q⟩
theorem sw_true{elt:Expr}{gs:List Comprehension}{scope:Scope}{pos py:Pos}{y:Str}{l:Nat}{env:Env}(hk:env.scope.kind=.function)(hy:env.scope.names.lookup y=some .local)(hl:(py.line == pos.line)=true)
  (ha:(scope.names.any fun(n,k)=>n == y && (k == .local || k == .cell))=false):swapsWith (.ListComp elt gs scope pos) (some (.Name y py)) l env=pure true:=by
 have ky:env.kindOf y=some .local:=hy
 have hb:env.blockKind=.function:=by unfold Env.blockKind; rw [hk]; rfl
 unfold swapsWith
 simp only [hb,ky,ha,Expr.pos,hl]
 rfl
end
theorem gX{lo:Int}{n:Nat}{g:TG}{tt:TT}{te:TE}{vs:List Nat}{σ:St}{H1:Hp}{D:Addr}{Qd:Hp->Prop}(Pv:Nat->Hp->Prop)(h0:Pv 0 (upd H1 D (.lst [])))
  (hs:∀i H,i<n->Pv i H->g (.int (lo+i)) (wipe σ vs) H fun σ2 H2=>wipe σ2 vs=wipe σ vs/\tt σ2 H2 fun b H3=>
   if b=true then te σ2 H3 fun y H4=>∃acc,H4 D=some (.lst acc)/\acc.length<sizeLine/\Pv (i+1) (upd H4 D (.lst (acc++[y]))) else Pv (i+1) H3) (hd:∀H,Pv n H->Qd H) :
  ∃W:Nat->Nat->Hp->Prop,(∃m,W 0 m (upd H1 D (.lst [])))/\∀i m H,W i m H->
   ((Itr lo n).stop i H/\Qd H)\/((Itr lo n).go i H/\∃Nx:Hp->Prop,(∀H',Nx H'->∃m',m'<m/\W (i+1) m' H')/\∀x H',(Itr lo n).yld i H x H'->g x (wipe σ vs) H' fun σ2 H2=>wipe σ2 vs=wipe σ vs/\tt σ2 H2 fun b H3=>
     if b=true then te σ2 H3 fun y H4=>∃acc,H4 D=some (.lst acc)/\acc.length<sizeLine/\Nx (upd H4 D (.lst (acc++[y]))) else Nx H3):=by
 refine⟨fun i m H=>m=n - i/\i<=n/\Pv i H,⟨n,by simp,Nat.zero_le _,h0⟩,?_⟩
 rintro i m H ⟨rfl,hi,p⟩
 by_cases hlt:i<n
 ·refine .inr ⟨hlt,Pv (i+1),fun H' p'=>⟨n - (i+1),by omega,rfl,hlt,p'⟩,fun x H' y=>?_⟩
  obtain⟨e,y⟩:=y
  subst e y
  exact hs i _ hlt p
 ·have e:i=n:=by omega
  subst e
  exact .inl ⟨Nat.le_refl _,hd H p⟩
theorem c4{K:PySem.W.Frag}{a:Addr}{xs:List V}{g:TG}{tt:TT}{te:TE}{vs:List Nat}{σ:St}{H1:Hp}{D:Addr}{Qd:Hp->Prop}(Pv:Nat->Hp->Prop)(h0:Pv 0 (upd H1 D (.lst [])))(hl:∀i H,i<=xs.length->Pv i H->SqL K H a xs)
  (hs:∀i x H,xs[i]? =some x->Pv i H->g x (wipe σ vs) H fun σ2 H2=>wipe σ2 vs=wipe σ vs/\tt σ2 H2 fun b H3=>
   if b=true then te σ2 H3 fun y H4=>∃acc,H4 D=some (.lst acc)/\acc.length<sizeLine/\Pv (i+1) (upd H4 D (.lst (acc++[y]))) else Pv (i+1) H3) (hd:∀H,Pv xs.length H->Qd H) :
  ∃W:Nat->Nat->Hp->Prop,(∃m,W 0 m (upd H1 D (.lst [])))/\∀i m H,W i m H->
   ((Itl K a).stop i H/\Qd H)\/((Itl K a).go i H/\∃Nx:Hp->Prop,(∀H',Nx H'->∃m',m'<m/\W (i+1) m' H')/\∀x H',(Itl K a).yld i H x H'->g x (wipe σ vs) H' fun σ2 H2=>wipe σ2 vs=wipe σ vs/\tt σ2 H2 fun b H3=>
     if b=true then te σ2 H3 fun y H4=>∃acc,H4 D=some (.lst acc)/\acc.length<sizeLine/\Nx (upd H4 D (.lst (acc++[y]))) else Nx H3):=by
 refine⟨fun i m H=>m=xs.length - i/\i<=xs.length/\Pv i H,⟨xs.length,by simp,Nat.zero_le _,h0⟩,?_⟩
 rintro i m H ⟨rfl,hi,p⟩
 have q:=hl i H hi p
 by_cases hlt:i<xs.length
 ·refine .inr ⟨⟨xs,xs[i],q,by simp [hlt]⟩,Pv (i+1),fun H' p'=>⟨xs.length - (i+1),by omega,rfl,hlt,p'⟩,fun x H' y=>?_⟩
  obtain⟨e,y⟩:=y
  subst e
  exact hs i x _ (y xs q) p
 ·have e:i=xs.length:=by omega
  subst e
  exact .inl ⟨⟨xs,q,Nat.le_refl _⟩,hd H p⟩
def blkC(N:List Str)(sc scope:Scope)(own:List (Str × Nat)):Bool:=
 (match scope.kind with | .function=>true | _=>false) && (scope.names.all fun y=>decide (scope.names.lookup y.1=some y.2)) && (own.all fun p=>decide (N[p.2]? =some p.1)) &&
  (scope.names.all fun y=>match y.2 with
   | .free=>(match sc.names.lookup y.1 with | some .cell=>true | some .free=>true | _=>false)
   | .local=>decide (y.1∈own.map (·.1)) || decide (y.1∉N)
   | .cell=>decide (y.1∈own.map (·.1)) || decide (y.1∉N)
   | _=>true)
theorem bq{N:List Str}{sc scope:Scope}{own:List (Str × Nat)}(h:blkC N sc scope own=true):BlkOk N sc scope own:=by
 unfold blkC at h
 simp only [Bool.and_eq_true,List.all_eq_true,decide_eq_true_eq] at h
 obtain⟨⟨⟨h1,h2⟩,h3⟩,h4⟩:=h
 refine⟨?_,h2,h3,fun y hy e=>?_,fun y hy e=>?_⟩
 ·split at h1
  ·assumption
  ·cases h1
 ·have q:=h4 y hy
  simp only [e] at q
  split at q <;> first | exact .inl (by assumption) | exact .inr (by assumption) | cases q
 ·have q:=h4 y hy
  rcases e with e | e <;> (simp only [e,Bool.or_eq_true,decide_eq_true_eq] at q; exact q)
end L2
namespace L2
open PySem PySem.Spec PyProof.Rows
section
variable{prog:Program}{w:World}{A:Around}{R:Result->Shared->Prop}{s:Shared}{elt t0 i0 t1 i1:Expr}{ifs0 ifs1:List Expr}{scope:Scope}{pos:Pos}{it acc:Value}{env:Env}
end
section
variable{X:Cx}
end
end L2
namespace L2
open PySem PySem.Spec PyProof.Rows
section
variable{κ:Type}[DecidableEq κ]
end
section
variable{P:Program}{w:World}{H:Hp}{h:Heap}{a:Addr}
end
section
variable{X:Cx}{pins:List (Addr × Obj)}{σ:St}{H:Hp}{s:Shared}{a:Addr}{y v:V}{u r:Value}{o:Option V}{A:Around}{E:Value->Shared->Prop}
end
section
variable{X:Cx}{pins:List (Addr × Obj)}{σ:St}{H:Hp}{s:Shared}{a:Addr}{kvs:List (Key × V)}{k:Key}{u:Value}{A:Around}{E:Value->Shared->Prop}
end
def NoSl(i:Expr):Prop:=∀ov iv,subscripted i false ov iv=operate [ov,iv] (getItem ov iv)
theorem subD_of{prog:Program}{w:World}{A:Around}{E:Value->Shared->Prop}{s:Shared}{env:Env}{value slice:Expr}{pos:Pos}{T id:String}{Q:Value->Shared->Prop}
  (hl:typeLookup (.type T) "__getitem__"=pure (some (.builtin id))) (hs:NoSl slice)
  (h:wpAny (model prog w) A (eval value env) (fun o s₁=>wpAny (model prog w) A (eval slice env) (fun i s₂=>s₂.TypeIs o T/\wpAny (model prog w) A (getItem o i) Q E s₂) E s₁) E s) :
  wpAny (model prog w) A (eval (.Subscript value slice pos) env) Q E s:=by
 refine Subscript_ (wpAny_mono h (fun o s₁ h₁=>wpAny_mono h₁ (fun i s₂ h₂=>?_) fun _ _ x=>x) fun _ _ x=>x)
 obtain⟨hT,h₂⟩:=h₂
 unfold subscriptTail
 refine wpAny_bind ?_
 rw [getitemInPython_of_ne hT.not_modules]
 refine wpAny_bind (wpAny_specialOf hT hl ?_)
 have fin:wpAny (model prog w) A (subscripted slice false o i) (fun r s₃=>wpAny (model prog w) A (letTemporaryGo value o r >>= fun _=>pure r) Q E s₃) E s₂:=by
  rw [hs o i]
  exact wpAny_operating (wpAny_mono h₂ (fun r s₃ h₃=>wpAny_bind (wpAny_letTemporaryGo (wpAny_pure h₃))) fun _ _ x=>x)
 first
  | exact wpAny_pure (wpAny_bind fin)
  | exact wpAny_bind (wpAny_pure (wpAny_bind fin))
  | exact wpAny_bind fin
section
variable{X:Cx}{o i e value:Expr}{pos pos' tpos:Pos}{td ty tv:TE}
end
section
variable{X:Cx}{pos:Pos}
end
section
variable{X:Cx}{pins:List (Addr × Obj)}{σ:St}{H:Hp}{s:Shared}{a:Addr}{y d:V}{u r:Value}{o:Option V}{A:Around}{E:Value->Shared->Prop}
end
section
variable{X:Cx}{o e f:Expr}{apos cpos:Pos}{td ty tx:TE}
end
section
variable{X:Cx}{pins:List (Addr × Obj)}{σ:St}{H:Hp}{s:Shared}{a:Addr}{kvs:List (Key × V)}{A:Around}{E:Value->Shared->Prop}
end
section
variable{X:Cx}{pins:List (Addr × Obj)}{σ:St}{H:Hp}{s:Shared}{a:Addr}{y:V}{u:Value}{A:Around}{E:Value->Shared->Prop}
end
end L2
namespace L2
open PySem PySem.Spec PyProof.Rows
section
variable{prog:Program}{w:World}{A:Around}{E:Value->Shared->Prop}
end
section
variable{X:Cx}
end
end L2
namespace L2
open PySem PySem.Spec PyProof.Rows
section
variable{X:Cx}{pins:List (Addr × Obj)}{σ:St}{H:Hp}{s:Shared}{h':Heap}
end
section
variable{X:Cx}
theorem pi_one{tg:Expr}{pins:List (Addr × Obj)}{σ:St}{H:Hp}{s:Shared}{R:It->Hp->Prop}{J:It}{tn:Nat->Heap->Prop}{tk:Nat}(I:Inv X pins σ H s)(o:Obj)
  (T:Turn X.prog X.w X.K tg J [s.heap.objs.size] s.heap.objs.size tn) (st:tn 0 (s.heap.push o)) (q:R J H):PIE X pins σ tg R (.ref s.heap.objs.size) {s with heap:=s.heap.push o,toks:=tk}:=by
 refine⟨s.heap.objs.size,[s.heap.objs.size],tn,J,H,rfl,I.kept fun b ob e=>Heap.get?_push_of_some _ e,T,st,fun b hb=>?_,q⟩
 have e:b=s.heap.objs.size:=by simpa using hb
 subst e
 exact I.fpOk (Nat.le_refl _) (I.hok.fresh (Nat.le_refl _))
end
def Itc(lo c:Int)(n:Nat):It:=⟨fun i _=>i<n,fun i H x H'=>H'=H/\x=.int (lo+(i:Nat)*c),fun i _=>n<=i⟩
theorem turn_rangeC{P:Program}{w:World}{K:PySem.W.Frag}{tg:Expr}(it:Addr)(lo c:Int)(n:Nat):Turn P w K tg (Itc lo c n) [it] it (fun i h=>IsRangeIter h it (lo+(i:Nat)*c) ((n:Int) - (i:Nat)) c) where
 mem:=by simp
 obj:=fun i h st b hb=>by
  have e:b=it:=by simpa using hb
  subst e
  exact⟨_,st,fun v z=>nomatch z⟩
 keep:=fun i h h' st k=>k it (by simp) _ st
 item:=by
  intro X hP hw hK hc i pins s σ H E I hf st hg
  subst hP hw hK
  obtain⟨f0,f1,f2,f3,f4,f5⟩:=hf it (by simp)
  have W:=Walks.range (prog:=X.prog) (w:=X.w) (I.ok.hd hc) it lo c n
  refine W.item i s _ _ hg st fun v h' tk hv st' kk=>?_
  obtain⟨t,rfl⟩:=hv
  have I1:Inv X pins σ H {s with heap:=h',toks:=tk}:=I.turned (fun b o hb e=>kk b o (by simpa using hb) e) f0 f1 f3 f4 f5
  exact⟨_,rfl,go_of (s:={s with heap:=h',toks:=tk}) (n:="range_iterator") st' rfl rfl (by decide) ⟨.int (lo+(i:Nat)*c),H,I1,⟨t,rfl⟩,⟨rfl,rfl⟩,st',fun b hb=>(hf b hb).1⟩⟩
 done:=by
  intro X hP hw hK hc i pins s σ H E I hf st hg
  subst hP hw hK
  obtain⟨f0,f1,f2,f3,f4,f5⟩:=hf it (by simp)
  exact wpAny_pyNext_range_end (I.ok.hd hc) st (by have:n<=i:=hg; omega) fun h' eb=>⟨rfl,I.turned (t':=s.toks) (fun b o hb e=>eb b o hb e) f0 f1 f3 f4 f5⟩
 self:=fun A i s Q E st h=>wpAny_pyIter_rangeiter st h
def RgC(i j c:Int)(n:Nat):Prop:=c≠0/\c.natAbs<1073741824/\Builtin.Range.small i j c=true/\Builtin.Range.rangeSize i j c=n
theorem RgC.neg{i j:Int}(ha:-(2^62)<=i)(ha':i<2^62)(hb:-(2^62)<=j)(hb':j<2^62):RgC i j (-1) (i - j).toNat:=
 ⟨by decide,by decide,PySem.W.small_down ha ha' hb hb',PySem.W.rangeSize_downNat i j⟩
def iRng3(ta:TA):TI:=fun σ H R=>ta σ H fun vs H1=>∃(i j c:Int)(n:Nat),vs=[.int i,.int j,.int c]/\RgC i j c n/\R (Itc i c n) H1
section
variable{X:Cx}{tg:Expr}
theorem pi_range3{a b c:Expr}{ta:TA}{p pos:Pos}(hg:Gl X "range")(hm:X.mg "range"=none)(ha:PA X [a,b,c] ta)
  (hs:starEach [a,b,c] X.env=(false,eval a X.env)::starEach [b,c] X.env:=by rfl) (hpl:(backTo pos (starEach [b,c] X.env)).any (·.1)=false:=by rfl) :
  PI X tg (.Call (.Name "range" p) [a,b,c] [] pos) (iRng3 ta):=by
 intro pins s σ H R I h
 refine Call_ (ii I hg hm boot_range (PyProof.Rows.callWith_type1 (thn (ha pos pins s σ H _ I h) fun us s1 ⟨vs,H1,I1,r1,q1⟩=>?_) hs hpl))
 obtain⟨i,j,k,n,e,⟨c0,c1,c2,c3⟩,q⟩:=q1
 subst e
 cases r1 with
 | cons r rr=>
   cases rr with
   | cons r' rr=>
     cases rr with
     | cons r'' rr=>
       cases rr
       obtain⟨t,rfl⟩:=r
       obtain⟨t',rfl⟩:=r'
       obtain⟨t'',rfl⟩:=r''
       refine call_range_3 c0 ?_ (.inl (PyProof.noPylong_small c1))
       refine wpAny_pyIter_range (IsRange.new ..) c2 ?_
       have I2:Inv X pins σ H1 {s1 with heap:=s1.heap.push {cls:=.type "range",data:=.fields #[.int i t,.int j t',.int k t'']}}:=I1.kept (t':=s1.toks) fun b o e=>Heap.get?_push_of_some _ e
       refine pi_one (tk:=s1.toks) I2 _ (turn_rangeC _ i k n) ?_ q
       have e1:i+((0:Nat):Int)*k=i:=by simp
       have e2:(n:Int) - ((0:Nat):Int)=Builtin.Range.rangeSize i j k:=by rw [c3]; simp
       show IsRangeIter _ _ (i+((0:Nat):Int)*k) ((n:Int) - ((0:Nat):Int)) k
       rw [e1,e2]
       exact Heap.get?_push_size _ rfl
end
theorem for_rangeC{lo c:Int}{n:Nat}{g:TG}{tb:TS}{D:Ends}{σ:St}{H:Hp}(Pv:Nat->St->Hp->Prop)(h0:Pv 0 σ H)
  (hs:∀i σ H,i<n->Pv i σ H->g (.int (lo+(i:Nat)*c)) σ H fun σ2 H2=>tb {D with nx:=Pv (i+1),ct:=Pv (i+1),bk:=D.nx} σ2 H2) (hd:∀σ H,Pv n σ H->D.nx σ H) :
  ∃W:Nat->Nat->St->Hp->Prop,(∃m,W 0 m σ H)/\∀i m σ H,W i m σ H->
   ((Itc lo c n).stop i H/\D.nx σ H)\/((Itc lo c n).go i H/\∃N:St->Hp->Prop,(∀σ' H',N σ' H'->∃m',m'<m/\W (i+1) m' σ' H')/\∀x H',(Itc lo c n).yld i H x H'->g x σ H' fun σ2 H2=>tb {D with nx:=N,ct:=N,bk:=D.nx} σ2 H2):=by
 refine⟨fun i m σ H=>m=n - i/\i<=n/\Pv i σ H,⟨n,by simp,Nat.zero_le _,h0⟩,?_⟩
 rintro i m σ H ⟨rfl,hi,p⟩
 by_cases hlt:i<n
 ·refine .inr ⟨hlt,Pv (i+1),fun σ' H' p'=>⟨n - (i+1),by omega,rfl,hlt,p'⟩,fun x H' y=>?_⟩
  obtain⟨e,y⟩:=y
  subst e y
  exact hs i σ _ hlt p
 ·have e:i=n:=by omega
  subst e
  exact .inl ⟨Nat.le_refl _,hd σ H p⟩
section
variable{X:Cx}{tg:Expr}
end
section
variable{prog:Program}{w:World}{A:Around}{E:Value->Shared->Prop}{s:Shared}
end
section
variable{X:Cx}{pins:List (Addr × Obj)}{σ:St}{H:Hp}{s:Shared}{d:Addr}{o:Obj}
end
section
variable{P:Program}{w:World}{K:PySem.W.Frag}{tg:Expr}{d:Addr}{o:Obj}{es:Array DictEntry}{ep:Nat}
end
section
variable{X:Cx}{tg e:Expr}{td:TE}{apos cpos:Pos}
end
end L2
section
namespace Bits
open PySem PyProof.Rows
end Bits
end
section
namespace TL
open PySem PySem.Builtin PySem.Builtin.Str PySem.StrLaws
end TL
end
namespace L2
open PySem PySem.Spec PyProof.Rows
section
variable{X:Cx}{pins:List (Addr × Obj)}{σ:St}{H:Hp}{s:Shared}{Q:VK}
end
section
variable{X:Cx}
end
section
variable{X:Cx}{o e:Expr}{to te:TE}
end
end L2
namespace L2
open PySem PySem.Spec PyProof.Rows
section
variable{X:Cx}
end
end L2
namespace Att
open PySem PySem.W PySem.Calls PyProof.Rows
section
variable{prog:Program}{w:World}{A:Around}{E:Value->Shared->Prop}{s:Shared}{K:Frag}
end
end Att
namespace L2
open PySem PySem.Spec PyProof.Rows
end L2
namespace L2
open PySem PySem.Spec PyProof.Rows
def inClass(s:Stmt)(j:Nat):Stmt:=match s with
 | .ClassDef _ _ _ body _ _ _ _ _ _ _=>body.getD j (.Pass ⟨0,0,0,0⟩)
 | _=>.Pass ⟨0,0,0,0⟩
def aU(s:Stmt):Arguments:=match s with
 | .FunctionDef _ a _ _ _ _ _ _ _ _=>a
 | _=>{posonlyargs:=[],args:=[],vararg:=none,kwonlyargs:=[],kw_defaults:=[],kwarg:=none,defaults:=[]}
def aR(s:Stmt):List Stmt:=match s with
 | .FunctionDef _ _ b _ _ _ _ _ _ _=>b
 | _=>[]
def aC(s:Stmt):Scope:=match s with
 | .FunctionDef _ _ _ _ _ _ sc _ _ _=>sc
 | _=>{kind:=.function,names:=[],isGenerator:=false,isCoroutine:=false}
abbrev CX0:CXT:=fun _ _ _ _ _ _=>False
abbrev E0:XK:=fun _ _ _=>False
theorem aS{X:Cx}:gj CX0 X E0:=fun _ _ _ _ _ _ _ h=>h.elim
structure Fun(K:PySem.W.Frag)(x qual:Str)(st:Stmt)(f:Addr)(fd:FuncData):Prop where
 ex:∃(oc:Value)(od:Option Addr)(kV doc pm:Value)(an:Option Addr)(cdv ct:Value)(osl:Array (Option Value)),
  fd=PySem.W.fnOf x qual (aU st) (aR st) (aC st) .none kV doc pm an cdv ct/\K.lookup f=some ⟨oc,od,.func fd,osl⟩/\PySem.W.codeIn K cdv qual=true
 kp:PySem.W.keepIn K (.ref f)=true
section
variable{P:Program}{w:World}{K:PySem.W.Frag}{mg:Str->Option Value}{base:Heap}
theorem Fun.ok{x qual:Str}{st:Stmt}{f:Addr}{fd:FuncData}{N ps:List Str}{k:Nat}{sp:Sp}(F:Fun K x qual st f fd)(S:FnScope N ps (aC st))(len:∀vs H Q E,sp vs H Q E->vs.length=ps.length)
  (hbody:∀(cdv:Value)(A:Around)(outer:List Env)(s:Shared)(H:Hp)(vs:List V)(Q:VK)(E:XK),Room k (A.deeper (envOfC qual (aC st) s.heap.objs.size f cdv))->sp vs H Q E->
   ∃t,PSs (jM CX0 P w K mg base N qual (aC st) f cdv A outer s H E).nox (aR st) t/\t {nx:=fun _ H'=>Q .non H',rt:=Q} (start N vs) H):FnOk P w K mg base CX0 (k+1) f fd ps sp:=by
 obtain⟨oc,od,kV,doc,pm,an,cdv,ct,osl,rfl,lk,hcd⟩:=F.ex
 refine fn_of lk hcd S len fun A outer s H vs Q E hr hsp=>?_
 obtain⟨t,h,q⟩:=hbody cdv A outer s H vs Q E hr hsp
 exact⟨t,h.nox,q⟩
theorem Fun.binds{x qual:Str}{st:Stmt}{f:Addr}{fd:FuncData}{ps:List Str}(F:Fun K x qual st f fd)
  (h:∀(kV doc pm:Value)(an:Option Addr)(cdv ct:Value)(us:List Value),us.length=ps.length->bindArgs (PySem.W.fnOf x qual (aU st) (aR st) (aC st) .none kV doc pm an cdv ct) ⟨us,[]⟩=pure (ps.zip us)):Binds K fd ps []:=by
 obtain⟨oc,od,kV,doc,pm,an,cdv,ct,osl,rfl,lk,hcd⟩:=F.ex
 exact .all (h kV doc pm an cdv ct)
theorem il{x qual:Str}{st:Stmt}{f:Addr}{oc:Value}{od an:Option Addr}{osl:Array (Option Value)}{kV doc pm cdv ct:Value}(l:K.lookup f=some ⟨oc,od,.func (PySem.W.fnOf x qual (aU st) (aR st) (aC st) .none kV doc pm an cdv ct),osl⟩)
  (c:PySem.W.codeIn K cdv qual=true) (k:PySem.W.keepIn K (.ref f)=true):Fun K x qual st f (PySem.W.fnOf x qual (aU st) (aR st) (aC st) .none kV doc pm an cdv ct):=⟨⟨oc,od,kV,doc,pm,an,cdv,ct,osl,rfl,l,c⟩,k⟩
end
theorem aq{n:Nat}(h:n<=1000):n<sizeLine:=Nat.lt_of_le_of_lt h (by decide)
section
variable{X:Cx}
theorem pv(i:Nat){x:Str}{pos:Pos}(hN:X.N[i]? =some x:=by rfl)(hv:Vis X.env.scope x:=by first | exact Or.inl rfl | exact Or.inr (Or.inl rfl) | exact Or.inr (Or.inr rfl))(hd:(x == ("__debug__":Str))=false:=by decide)
  (hcd:(x == ("__classdict__":Str))=false:=by decide):PE X (.Name x pos) (gv i):=pe_var hN hv hd hcd
end
def Same(H H':Hp):Prop:=∀b o,H b=some o->H' b=some o
theorem Same.refl(H:Hp):Same H H:=fun _ _ h=>h
theorem Same.trans{H H1 H2:Hp}(a:Same H H1)(b:Same H1 H2):Same H H2:=fun c o h=>b c o (a c o h)
theorem Same.free{H H':Hp}(e:Same H H'){l:Addr}(h:H' l=Option.none):H l=Option.none:=by
 cases q:H l with
 | none=>rfl
 | some o=>
   rw [e l o q] at h
   cases h
theorem Same.seq{K:PySem.W.Frag}{H H':Hp}{a:Addr}{xs:List V}(e:Same H H')(h:SqL K H a xs):SqL K H' a xs:=by
 rcases h with(h | ⟨o,h⟩) | h
 ·exact .inl (.inl (e _ _ h))
 ·exact .inl (.inr ⟨o,e _ _ h⟩)
 ·exact .inr h
section
variable{κ:Type}[DecidableEq κ]
end
end L2
section
set_option maxHeartbeats 2000000
namespace L2
open PySem PySem.Spec PyProof.Rows
open PySem.W (WData Codec OpenSpec Well WellAll ReadsW ReadsAllW)
mutual
inductive Dw(K:PySem.W.Frag)(H:Hp):V->WData->Prop
 | non:Dw K H .non .none
 | bl (b:Bool):Dw K H (.bl b) (.bool b)
 | int (i:Int):Dw K H (.int i) (.int i)
 | str (x:Str):Dw K H (.str x) (.str x)
 | byt (b:Array UInt8):Dw K H (.byt b) (.bytes b.toList)
 | lst {a:Addr} {xs:List V} {ds:List WData}:SqL K H a xs->DwAll K H xs ds->Dw K H (.ref a) (.list ds)
 | tup {a:Addr} {xs:List V} {ds:List WData}:SqT K H a xs->DwAll K H xs ds->Dw K H (.ref a) (.tuple ds)
inductive DwAll(K:PySem.W.Frag)(H:Hp):List V->List WData->Prop
 | nil:DwAll K H [] []
 | cons {v:V} {vs:List V} {d:WData} {ds:List WData}:Dw K H v d->DwAll K H vs ds->DwAll K H (v::vs) (d::ds)
end
theorem dw_ints{K:PySem.W.Frag}{H:Hp}:∀ns:List Int,DwAll K H (ns.map V.int) (ns.map WData.int)
 | []=>.nil
 | n::r=>.cons (.int n) (dw_ints r)
theorem ints_dw{K:PySem.W.Frag}{H:Hp}:∀(ns:List Int)(xs:List V),DwAll K H xs (ns.map WData.int)->xs=ns.map V.int
 | [],xs,h=>by
   cases h
   rfl
 | n::r,xs,h=>by
   cases h with
   | cons h1 h2=>
     cases h1
     rw [ints_dw r _ h2] <;> rfl
section
variable{P:Program}{w:World}{K:PySem.W.Frag}{H:Hp}{h:Heap}{R:PySem.W.WRecords}{cl:Str->Option Addr}
theorem sqL_at{a:Addr}{xs:List V}(hok:HOk P w H h)(KX:K.In h)(q:SqL K H a xs):∃(its:List Value)(o:Obj)(n:Nat),ay xs its/\h.get? a=some o/\o.cls=.type "list"/\o.data=.seq its.toArray n:=by
 rcases q with q | ⟨o,its,n,e,hc,_,hd,_,hv⟩
 ·obtain⟨_,its,n,hv,e⟩:=(show dP P w H h a (.lst xs) from q.ok hok)
  exact⟨its,_,n,hv,e,rfl,rfl⟩
 ·exact⟨its.toList,o,n,hv,KX _ _ e,hc,by simp [hd]⟩
theorem sqT_at{a:Addr}{xs:List V}(hok:HOk P w H h)(KX:K.In h)(q:SqT K H a xs):∃(its:List Value)(o:Obj)(n:Nat),ay xs its/\h.get? a=some o/\o.cls=.type "tuple"/\o.data=.seq its.toArray n:=by
 rcases q with q | ⟨o,its,n,e,hc,hd,_,hv⟩
 ·obtain⟨_,its,hv,o,e,hc,n,hd⟩:=(show dP P w H h a (.tup xs) from q.ok hok)
  exact⟨its,o,n,hv,e,hc,hd⟩
 ·exact⟨its.toList,o,n,hv,KX _ _ e,hc,by simp [hd]⟩
mutual
theorem Dw.reads(hok:HOk P w H h)(KX:K.In h):∀(d:WData)(v:V)(u:Value),Dw K H v d->RelV v u->∃as,ReadsW R cl h u d as
 | .none,_,_,x,r=>by
   cases x
   cases r
   exact⟨_,ReadsW.none⟩
 | .bool b,_,_,x,r=>by
   cases x
   cases r
   exact⟨_,ReadsW.bool b⟩
 | .int i,_,_,x,r=>by
   cases x
   obtain⟨t,rfl⟩:=r
   exact⟨_,ReadsW.int i t⟩
 | .str s,_,_,x,r=>by
   cases x
   obtain⟨t,rfl⟩:=r
   exact⟨_,ReadsW.str s t⟩
 | .bytes b,_,_,x,r=>by
   cases x
   obtain⟨t,rfl⟩:=r
   exact⟨_,ReadsW.bytes _ t⟩
 | .list ds,_,_,x,r=>by
   cases x with
   | lst hs ha=>
     cases r
     obtain⟨its,o,n,rv,ho,hc,hd⟩:=sqL_at hok KX hs
     obtain⟨as,hr⟩:=Dw.readsAll hok KX ds _ its ha rv
     exact⟨_,ReadsW.list ho hc hd hr⟩
 | .tuple ds,_,_,x,r=>by
   cases x with
   | tup hs ha=>
     cases r
     obtain⟨its,o,n,rv,ho,hc,hd⟩:=sqT_at hok KX hs
     obtain⟨as,hr⟩:=Dw.readsAll hok KX ds _ its ha rv
     exact⟨_,ReadsW.tuple ho hc hd hr⟩
 | .float _,_,_,x,_=>by cases x
 | .dict _,_,_,x,_=>by cases x
 | .bytearray _,_,_,x,_=>by cases x
 | .set _,_,_,x,_=>by cases x
 | .frozenset _,_,_,x,_=>by cases x
 | .obj _ _,_,_,x,_=>by cases x
theorem Dw.readsAll(hok:HOk P w H h)(KX:K.In h):∀(ds:List WData)(vs:List V)(us:List Value),DwAll K H vs ds->ay vs us->∃as,ReadsAllW R cl h us ds as
 | [],_,_,x,r=>by
   cases x
   cases r
   exact⟨_,ReadsAllW.nil⟩
 | d::ds,_,_,x,r=>by
   cases x with
   | cons h1 h2=>
     cases r with
     | cons r1 r2=>
       obtain⟨as,q1⟩:=Dw.reads hok KX d _ _ h1 r1
       obtain⟨bs,q2⟩:=Dw.readsAll hok KX ds _ _ h2 r2
       exact⟨_,ReadsAllW.cons q1 q2⟩
end
end
mutual
def plW:WData->Bool
 | .none=>true
 | .bool _=>true
 | .int _=>true
 | .str _=>true
 | .bytes _=>true
 | .list xs=>gw xs
 | .tuple xs=>gw xs
 | _=>false
def gw:List WData->Bool
 | []=>true
 | x::r=>plW x && gw r
end
theorem plWs_map{α:Type}{f:α->WData}(h:∀a,plW (f a)=true):∀l:List α,gw (l.map f)=true
 | []=>rfl
 | x::r=>by
   show(plW (f x) && gw (r.map f))=true
   rw [h x,plWs_map h r] <;> rfl
theorem ff:∀(c:Codec)(a:c.denote),plW (c.enc a)=true
 | .unit,_=>rfl
 | .bool,_=>rfl
 | .int _ _,_=>rfl
 | .nat _ _,_=>rfl
 | .u8,_=>rfl
 | .bytes _ _,_=>rfl
 | .text _ _ _ _,_=>rfl
 | .list _ _ c,a=>plWs_map (fun x=>ff c x) a
 | .pair c d,a=>by
   show(plW (c.enc a.1) && (plW (d.enc a.2) && true))=true
   rw [ff c a.1,ff d a.2] <;> rfl
 | .triple c d e,a=>by
   show(plW (c.enc a.1) && (plW (d.enc a.2.1) && (plW (e.enc a.2.2) && true)))=true
   rw [ff c a.1,ff d a.2.1,ff e a.2.2] <;> rfl
 | .option c,none=>rfl
 | .option c,some x=>ff c x
theorem pl_encAll:∀(cs:List Codec)(a:Codec.denoteAll cs),gw (Codec.encAll cs a)=true
 | [],_=>rfl
 | c::cs,a=>by
   show(plW (c.enc a.1) && gw (Codec.encAll cs a.2))=true
   rw [ff c a.1,pl_encAll cs a.2] <;> rfl
theorem weight_mem:∀{xs:List WData}{d:WData},d∈xs->d.weight<=WData.weightAll xs
 | [],d,h=>absurd h (by simp)
 | x::r,d,h=>by
   show d.weight<=x.weight+1+WData.weightAll r
   rcases List.mem_cons.mp h with e | m
   ·rw [e]
    omega
   ·have z:=weight_mem m
    omega
def toV:Value->V
 | .none=>.non
 | .bool b=>.bl b
 | .int i _=>.int i
 | .str x _=>.str x
 | .bytes b _=>.byt b
 | .ref a=>.ref a
 | _=>.non
def OkU(A:List Addr):Value->Prop
 | .none=>True
 | .bool _=>True
 | .int _ _=>True
 | .str _ _=>True
 | .bytes _ _=>True
 | .ref a=>a∈A
 | _=>False
theorem OkU.mono{A B:List Addr}(h:∀a∈A,a∈B):∀{u:Value},OkU A u->OkU B u:=fun{u} x=>by
 cases u with
 | ref a=>exact h a x
 | none=>trivial
 | bool b=>trivial
 | int i t=>trivial
 | str s t=>trivial
 | bytes b t=>trivial
 | _=>exact False.elim x
theorem relV_toV{A:List Addr}{u:Value}(x:OkU A u):RelV (toV u) u:=by
 cases u with
 | ref a=>rfl
 | none=>rfl
 | bool b=>rfl
 | int i t=>exact⟨t,rfl⟩
 | str s t=>exact⟨t,rfl⟩
 | bytes b t=>exact⟨t,rfl⟩
 | _=>exact False.elim x
theorem eK{A:List Addr}:∀{vs:List Value},(∀u∈vs,OkU A u)->ay (vs.map toV) vs
 | [],_=>.nil
 | u::r,h=>.cons (relV_toV (h u (List.mem_cons_self ..))) (eK fun x hx=>h x (List.mem_cons_of_mem _ hx))
def fJ(h:Heap)(A:List Addr)(a:Addr):Prop:=∃vs:List Value,vs.length<=sizeLine/\(∀u∈vs,OkU A u)/\
 (h.get? a=some {cls:=.type "list",data:=.seq vs.toArray}\/h.get? a=some {cls:=.type "tuple",data:=.seq vs.toArray})
theorem fJ.mono{h:Heap}{A B:List Addr}{a:Addr}(k:∀a∈A,a∈B)(x:fJ h A a):fJ h B a:=by
 obtain⟨vs,h1,h2,h3⟩:=x
 exact⟨vs,h1,fun u hu=>(h2 u hu).mono k,h3⟩
theorem dq{P:Params}{h:Heap}:∀{vs:List Value}{ds:List WData},WellAll P h vs ds->vs.length=ds.length
 | _,_,.nil=>rfl
 | _,_,.cons _ b=>by
   show _+1=_+1
   rw [dq b]
theorem well_list{P:Params}{h:Heap}{v:Value}{ds:List WData}(x:Well P h v (.list ds)):∃(a:Addr)(vs:List Value),v=.ref a/\h.get? a=some {cls:=.type "list",data:=.seq vs.toArray}/\WellAll P h vs ds:=by
 cases x with
 | list ho hall=>exact⟨_,_,rfl,ho,hall⟩
theorem well_tuple{P:Params}{h:Heap}{v:Value}{ds:List WData}(x:Well P h v (.tuple ds)):∃(a:Addr)(vs:List Value),v=.ref a/\h.get? a=some {cls:=.type "tuple",data:=.seq vs.toArray}/\WellAll P h vs ds:=by
 cases x with
 | tuple ho hall=>exact⟨_,_,rfl,ho,hall⟩
theorem well_cons{P:Params}{h:Heap}{us:List Value}{d:WData}{ds:List WData}(x:WellAll P h us (d::ds)):∃(v:Value)(vs:List Value),us=v::vs/\Well P h v d/\WellAll P h vs ds:=by
 cases x with
 | cons a b=>exact⟨_,_,rfl,a,b⟩
theorem line_of{n:Nat}(h:n<=1048576):n<=sizeLine:=Nat.le_trans h (by decide)
section
variable{P:Params}{h:Heap}
mutual
theorem area_one:∀(d:WData)(v:Value),Well P h v d->plW d=true->d.weight<=1048576->∃A:List Addr,OkU A v/\∀a∈A,fJ h A a
 | .none,_,x,_,_=>by
   cases x
   exact⟨[],trivial,fun a m=>absurd m (by simp)⟩
 | .bool b,_,x,_,_=>by
   cases x
   exact⟨[],trivial,fun a m=>absurd m (by simp)⟩
 | .int i,_,x,_,_=>by
   cases x
   exact⟨[],trivial,fun a m=>absurd m (by simp)⟩
 | .str s,_,x,_,_=>by
   cases x
   exact⟨[],trivial,fun a m=>absurd m (by simp)⟩
 | .bytes b,_,x,_,_=>by
   cases x
   exact⟨[],trivial,fun a m=>absurd m (by simp)⟩
 | .list ds,_,x,p,z=>by
   obtain⟨a,vs,rfl,ho,hall⟩:=well_list x
   have z2:WData.weightAll ds<=1048576:=z
   obtain⟨A,h1,h2⟩:=g8 ds _ hall p fun d hd=>Nat.le_trans (weight_mem hd) z2
   have k:∀b∈A,b∈a::A:=fun b hb=>List.mem_cons_of_mem _ hb
   refine⟨a::A,List.mem_cons_self ..,fun b hb=>?_⟩
   rcases List.mem_cons.mp hb with e | m
   ·rw [e]
    exact⟨vs,line_of (by rw [dq hall]; exact Nat.le_trans (PySem.W.length_le_weightAllW ds) z2),fun u hu=>(h1 u hu).mono k,.inl ho⟩
   ·exact(h2 b m).mono k
 | .tuple ds,_,x,p,z=>by
   obtain⟨a,vs,rfl,ho,hall⟩:=well_tuple x
   have z2:WData.weightAll ds<=1048576:=z
   obtain⟨A,h1,h2⟩:=g8 ds _ hall p fun d hd=>Nat.le_trans (weight_mem hd) z2
   have k:∀b∈A,b∈a::A:=fun b hb=>List.mem_cons_of_mem _ hb
   refine⟨a::A,List.mem_cons_self ..,fun b hb=>?_⟩
   rcases List.mem_cons.mp hb with e | m
   ·rw [e]
    exact⟨vs,line_of (by rw [dq hall]; exact Nat.le_trans (PySem.W.length_le_weightAllW ds) z2),fun u hu=>(h1 u hu).mono k,.inr ho⟩
   ·exact(h2 b m).mono k
 | .float _,_,_,p,_=>Bool.noConfusion (show false=true from p)
 | .dict _,_,_,p,_=>Bool.noConfusion (show false=true from p)
 | .bytearray _,_,_,p,_=>Bool.noConfusion (show false=true from p)
 | .set _,_,_,p,_=>Bool.noConfusion (show false=true from p)
 | .frozenset _,_,_,p,_=>Bool.noConfusion (show false=true from p)
 | .obj _ _,_,_,p,_=>Bool.noConfusion (show false=true from p)
theorem g8:∀(ds:List WData)(vs:List Value),WellAll P h vs ds->gw ds=true->(∀d∈ds,d.weight<=1048576)->∃A:List Addr,(∀u∈vs,OkU A u)/\∀a∈A,fJ h A a
 | [],_,x,_,_=>by
   cases x
   exact⟨[],fun u m=>absurd m (by simp),fun a m=>absurd m (by simp)⟩
 | d::ds,_,x,p,z=>by
   obtain⟨v,vs,rfl,x1,x2⟩:=well_cons x
   have q:plW d=true/\gw ds=true:=Bool.and_eq_true_iff.mp p
   obtain⟨A,a1,a2⟩:=area_one d v x1 q.1 (z d (List.mem_cons_self ..))
   obtain⟨B,b1,b2⟩:=g8 ds vs x2 q.2 fun e he=>z e (List.mem_cons_of_mem _ he)
   have kA:∀b∈A,b∈A++B:=fun b hb=>List.mem_append.mpr (.inl hb)
   have kB:∀b∈B,b∈A++B:=fun b hb=>List.mem_append.mpr (.inr hb)
   refine⟨A++B,fun u hu=>?_,fun b hb=>?_⟩
   ·rcases List.mem_cons.mp hu with e | m
    ·rw [e]
     exact a1.mono kA
    ·exact(b1 u m).mono kB
   ·rcases List.mem_append.mp hb with m | m
    ·exact(a2 b m).mono kA
    ·exact(b2 b m).mono kB
end
end
def hoOf(o:Obj):Option HO:=match o.data with
 | .seq vs _=>if (o.cls == Value.type "list")=true then some (.frz o (.lst (vs.toList.map toV))) else some (.frz o (.tup (vs.toList.map toV)))
 | _=>none
def eI(K:PySem.W.Frag)(h:Heap)(A:List Addr):Hp:=fun b=>if b∈A then(if (K.lookup b).isNone=true then(h.get? b).bind hoOf else none) else none
def jL(H:Hp):Prop:=∀b,H b=none\/∃o u,H b=some (.frz o u)
theorem hoOf_lst(vs:List Value):hoOf {cls:=.type "list",data:=.seq vs.toArray}=some (.frz {cls:=.type "list",data:=.seq vs.toArray} (.lst (vs.map toV))):=by
 show(if (Value.type "list" == Value.type "list")=true then some (HO.frz {cls:=.type "list",data:=.seq vs.toArray} (.lst (vs.toArray.toList.map toV))) else some (HO.frz {cls:=.type "list",data:=.seq vs.toArray} (.tup (vs.toArray.toList.map toV))))=_
 rw [if_pos (beq_self_eq_true _)]
theorem hoOf_tup(vs:List Value):hoOf {cls:=.type "tuple",data:=.seq vs.toArray}=some (.frz {cls:=.type "tuple",data:=.seq vs.toArray} (.tup (vs.map toV))):=by
 show(if (Value.type "tuple" == Value.type "list")=true then some (HO.frz {cls:=.type "tuple",data:=.seq vs.toArray} (.lst (vs.toArray.toList.map toV))) else some (HO.frz {cls:=.type "tuple",data:=.seq vs.toArray} (.tup (vs.toArray.toList.map toV))))=_
 rw [if_neg (by decide)]
section
variable{P:Program}{w:World}{K:PySem.W.Frag}{h:Heap}{A:List Addr}
theorem iE{b:Addr}{o:Obj}(hb:b∈A)(hk:K.lookup b=none)(e:h.get? b=some o):eI K h A b=hoOf o:=by
 unfold eI
 rw [if_pos hb,hk,if_pos (show(none:Option Obj).isNone=true from rfl),e] <;> rfl
theorem of_argH{b:Addr}{u:HO}(q:eI K h A b=some u):b∈A/\K.lookup b=none:=by
 unfold eI at q
 by_cases hb:b∈A
 ·rw [if_pos hb] at q
  cases hk:K.lookup b with
  | none=>exact⟨hb,rfl⟩
  | some o=>
    rw [hk,if_neg (by simp)] at q
    cases q
 ·rw [if_neg hb] at q
  cases q
theorem g7(ar:∀a∈A,fJ h A a){b:Addr}{u:HO}(q:eI K h A b=some u):K.lookup b=none/\∃vs:List Value,vs.length<=sizeLine/\(∀u∈vs,OkU A u)/\
  ((h.get? b=some {cls:=.type "list",data:=.seq vs.toArray}/\u=.frz {cls:=.type "list",data:=.seq vs.toArray} (.lst (vs.map toV)))\/
   (h.get? b=some {cls:=.type "tuple",data:=.seq vs.toArray}/\u=.frz {cls:=.type "tuple",data:=.seq vs.toArray} (.tup (vs.map toV)))):=by
 obtain⟨hb,hk⟩:=of_argH q
 obtain⟨vs,h1,h2,h3⟩:=ar b hb
 refine⟨hk,vs,h1,h2,?_⟩
 rcases h3 with e | e
 ·rw [iE hb hk e,hoOf_lst] at q
  exact .inl ⟨e,(Option.some.inj q).symm⟩
 ·rw [iE hb hk e,hoOf_tup] at q
  exact .inr ⟨e,(Option.some.inj q).symm⟩
theorem argH_only(ar:∀a∈A,fJ h A a):jL (eI K h A):=fun b=>by
 cases q:eI K h A b with
 | none=>exact .inl rfl
 | some u=>
   obtain⟨_,vs,_,_,⟨_,e⟩ | ⟨_,e⟩⟩:=g7 ar q
   ·exact .inr ⟨_,_,by rw [e]⟩
   ·exact .inr ⟨_,_,by rw [e]⟩
theorem argH_ok(ar:∀a∈A,fJ h A a):HOk P w (eI K h A) h:=fun b u q=>by
 obtain⟨_,vs,h1,h2,⟨e,rfl⟩ | ⟨e,rfl⟩⟩:=g7 ar q
 ·exact⟨e,by rw [List.length_map]; exact h1,vs,_,eK h2,e⟩
 ·exact⟨e,by rw [List.length_map]; exact h1,vs,eK h2,_,e,rfl,_,rfl⟩
theorem gy{c c':Value}{vs us:List Value}(e:(some {cls:=c,data:=.seq vs.toArray}:Option Obj)=some {cls:=c',data:=.seq us.toArray}):c=c'/\vs=us:=by
 have e1:=Option.some.inj e
 have e2:c=c':=congrArg Obj.cls e1
 have e3:Data.seq vs.toArray=Data.seq us.toArray:=congrArg Obj.data e1
 injection e3 with e4
 refine⟨e2,?_⟩
 have e5:=congrArg Array.toList e4
 simpa using e5
theorem argL(KX:K.In h)(ar:∀a∈A,fJ h A a){a:Addr}{vs:List Value}(ha:a∈A)(e:h.get? a=some {cls:=.type "list",data:=.seq vs.toArray}):(∀u∈vs,OkU A u)/\SqL K (eI K h A) a (vs.map toV):=by
 obtain⟨us,h1,h2,h3⟩:=ar a ha
 have hu:us=vs:=by
  rcases h3 with q | q
  ·rw [e] at q
   exact(gy q).2.symm
  ·rw [e] at q
   exact absurd (Value.type.inj (gy q).1) (by decide)
 subst hu
 refine⟨h2,?_⟩
 cases hk:K.lookup a with
 | none=>exact .inl (.inr ⟨_,by rw [iE ha hk e,hoOf_lst]⟩)
 | some o=>
   have e2:=KX a o hk
   rw [e] at e2
   obtain rfl:=Option.some.inj e2
   exact .inr ⟨_,us.toArray,_,hk,rfl,rfl,rfl,by rw [List.size_toArray]; exact h1,by simpa using eK h2⟩
theorem argT(KX:K.In h)(ar:∀a∈A,fJ h A a){a:Addr}{vs:List Value}(ha:a∈A)(e:h.get? a=some {cls:=.type "tuple",data:=.seq vs.toArray}):(∀u∈vs,OkU A u)/\SqT K (eI K h A) a (vs.map toV):=by
 obtain⟨us,h1,h2,h3⟩:=ar a ha
 have hu:us=vs:=by
  rcases h3 with q | q
  ·rw [e] at q
   exact absurd (Value.type.inj (gy q).1) (by decide)
  ·rw [e] at q
   exact(gy q).2.symm
 subst hu
 refine⟨h2,?_⟩
 cases hk:K.lookup a with
 | none=>exact .inl (.inr ⟨_,by rw [iE ha hk e,hoOf_tup]⟩)
 | some o=>
   have e2:=KX a o hk
   rw [e] at e2
   obtain rfl:=Option.some.inj e2
   exact .inr ⟨_,us.toArray,_,hk,rfl,rfl,by rw [List.size_toArray]; exact h1,by simpa using eK h2⟩
mutual
theorem dw_one{Pm:Params}(KX:K.In h)(ar:∀a∈A,fJ h A a):∀(d:WData)(v:Value),Well Pm h v d->plW d=true->OkU A v->Dw K (eI K h A) (toV v) d
 | .none,_,x,_,_=>by
   cases x
   exact .non
 | .bool b,_,x,_,_=>by
   cases x
   exact .bl b
 | .int i,_,x,_,_=>by
   cases x
   exact .int i
 | .str s,_,x,_,_=>by
   cases x
   exact .str s
 | .bytes b,_,x,_,_=>by
   cases x
   have z:=Dw.byt (K:=K) (H:=eI K h A) b.toArray
   exact z
 | .list ds,_,x,p,hu=>by
   obtain⟨a,vs,rfl,ho,hall⟩:=well_list x
   obtain⟨h2,hs⟩:=argL KX ar hu ho
   exact .lst hs (io KX ar ds _ hall p h2)
 | .tuple ds,_,x,p,hu=>by
   obtain⟨a,vs,rfl,ho,hall⟩:=well_tuple x
   obtain⟨h2,hs⟩:=argT KX ar hu ho
   exact .tup hs (io KX ar ds _ hall p h2)
 | .float _,_,_,p,_=>Bool.noConfusion (show false=true from p)
 | .dict _,_,_,p,_=>Bool.noConfusion (show false=true from p)
 | .bytearray _,_,_,p,_=>Bool.noConfusion (show false=true from p)
 | .set _,_,_,p,_=>Bool.noConfusion (show false=true from p)
 | .frozenset _,_,_,p,_=>Bool.noConfusion (show false=true from p)
 | .obj _ _,_,_,p,_=>Bool.noConfusion (show false=true from p)
theorem io{Pm:Params}(KX:K.In h)(ar:∀a∈A,fJ h A a):∀(ds:List WData)(vs:List Value),WellAll Pm h vs ds->gw ds=true->(∀u∈vs,OkU A u)->DwAll K (eI K h A) (vs.map toV) ds
 | [],_,x,_,_=>by
   cases x
   exact .nil
 | d::ds,_,x,p,hu=>by
   obtain⟨v,vs,rfl,x1,x2⟩:=well_cons x
   have q:plW d=true/\gw ds=true:=Bool.and_eq_true_iff.mp p
   exact .cons (dw_one KX ar d v x1 q.1 (hu _ (List.mem_cons_self ..))) (io KX ar ds vs x2 q.2 fun u m=>hu u (List.mem_cons_of_mem _ m))
end
end
theorem spec_call{P:Program}{w:World}{K:PySem.W.Frag}{mg mb:Str->Option Value}{CX:CXT}{k:Nat}{fa:Addr}{fd:FuncData}{ps:List Str}{sp:Sp}{s₁:Shared}{vals:List Value}{ds:List WData}{R:PySem.W.WRecords}{cl:Str->Option Addr}{d0:WData}
  (KX:K.In s₁.heap) (hns:s₁.heap.Ns mainGlobals mg) (hb:s₁.heap.Ns builtinsNs mb) (hbb:∀x:Str,x≠"__name__"->mb x=bootBuiltins x) (hlim:s₁.heap.NoLimit) (hseer:s₁.heap.NoSeer) (hg:s₁.gens= #[])
  (hwl:WellAll w.params s₁.heap vals ds) (hpl:gw ds=true) (hwt:∀d∈ds,d.weight<=1048576) (hr:Room k callerA)
  (F:∀base:Heap,K.In base->base.Ns mainGlobals mg->FnOk P w K mg base CX k fa fd ps sp) (hbind:∀(s:Shared)(us:List Value),us.length=ps.length->BindsTo s fd ⟨us,[]⟩ (ps.zip us)) (hlen:ds.length=ps.length)
  (hsp:∀(H:Hp)(xs:List V),jL H->DwAll K H xs ds->sp xs H (fun v H'=>Dw K H' v d0) fun _ _ _=>False)
  (hCX:∀H e s',CX [] H s₁ (fun _ _ _=>False) e s'->False) :
  codeAny (model P w) callerA (.call (.ref fa) ⟨vals,[]⟩) (fun r s'=>∃u as,r=.ok (.ret u)/\ReadsW R cl s'.heap u d0 as/\OldK s₁.heap s'.heap/\s'.os=s₁.os/\AllBare s'.gens) s₁:=by
 obtain⟨A,ho,ar⟩:=g8 ds vals hwl hpl hwt
 have hO:jL (eI K s₁.heap A):=argH_only ar
 have hok:HOk P w (eI K s₁.heap A) s₁.heap:=argH_ok ar
 have hS:=io KX ar ds vals hwl hpl ho
 have hV:=eK ho
 have hK:∀b u,eI K s₁.heap A b=some u->K.lookup b=none:=fun b u q=>(g7 ar q).1
 have noA:∀{b:Addr}{o:Obj}{es:Array DictEntry}{ep:Nat},s₁.heap.get? b=some o->o.data=.dict es ep->eI K s₁.heap A b=none:=fun{b o es ep} e d=>by
  cases q:eI K s₁.heap A b with
  | none=>rfl
  | some u=>
    obtain⟨_,vs,_,_,⟨e2,_⟩ | ⟨e2,_⟩⟩:=g7 ar q
    ·rw [e2] at e
     cases e
     have d':Data.seq vs.toArray _=Data.dict es ep:=d
     cases d'
    ·rw [e2] at e
     cases e
     have d':Data.seq vs.toArray _=Data.dict es ep:=d
     cases d'
 have noM:∀{b:Addr}{o:Obj},s₁.heap.get? b=some o->o.cls=.type "module"->eI K s₁.heap A b=none:=fun{b o} e d=>by
  cases q:eI K s₁.heap A b with
  | none=>rfl
  | some u=>
    obtain⟨_,vs,_,_,⟨e2,_⟩ | ⟨e2,_⟩⟩:=g7 ar q
    ·rw [e2] at e
     cases e
     exact absurd d (by simp)
    ·rw [e2] at e
     cases e
     exact absurd d (by simp)
 generalize eI K s₁.heap A=H at hO hok hS hK noA noM
 have base_of:∀{b:Addr}{o:Obj},s₁.heap.get? b=some o->H b=none->(ij s₁.heap H).get? b=some o:=fun e n=>hidT_get e n
 have nsK:∀{b:Addr}{m:Str->Option Value},s₁.heap.Ns b m->(ij s₁.heap H).Ns b m:=fun{b m} ⟨o,es,ep,e,d,r⟩=>⟨o,es,ep,base_of e (noA e d),d,r⟩
 have nK:∀b o,K.lookup b=some o->H b=none:=fun b o e=>by
  cases q:H b with
  | none=>rfl
  | some u=>
    rw [hK b u q] at e
    cases e
 have hKb:K.In (ij s₁.heap H):=fun b o e=>base_of (KX b o e) (nK b o e)
 have hM:Mod K mg (ij s₁.heap H):=⟨hKb,nsK hns,⟨mb,nsK hb,hbb⟩,let ⟨mc,h1,h2⟩:=hlim; ⟨mc,nsK h1,h2⟩,
  ⟨(let ⟨mc,a,b⟩:=hseer.statics; ⟨mc,nsK a,b⟩),(let ⟨mc,a,b⟩:=hseer.mods; ⟨mc,nsK a,b⟩),(let ⟨mc,a,b⟩:=hseer.imp; ⟨mc,nsK a,b⟩),(let ⟨mg',bm,ob,a,b,c,d,e⟩:=hseer.main; ⟨mg',bm,ob,nsK a,b,base_of c (noM c d),d,e⟩)⟩⟩
 have e0:Env0 P w K mg (ij s₁.heap H) callerA [] s₁ H:=⟨rfl,hM,fun b o e=>of_hidT e,Nat.le_of_eq (hidT_size _ _),trivial,fun b hb=>absurd (show b∈([]:List Addr) from hb) (by simp),hok,.of_eq hg⟩
 have hl:vals.length=ps.length:=by rw [dq hwl]; exact hlen
 refine codeAny_mono ((F _ hKb (nsK hns)).run callerA [] s₁ H ⟨vals,[]⟩ vals (vals.map toV) _ _ hr e0 (hbind s₁ vals hl) hV (hsp H _ hO hS)) fun r s' x=>?_
 cases r with
 | error e=>exact(hCX H e s' x).elim
 | ok fl=>
   cases fl with
   | next=>exact False.elim x
   | brk=>exact False.elim x
   | cont=>exact False.elim x
   | ret u=>
     obtain⟨v,H',os,bare,un,hok',r',q⟩:=x
     have kept:∀b o,s₁.heap.get? b=some o->s'.heap.get? b=some o:=fun b o e=>by
      cases q2:H b with
      | none=>exact un.keep b o e q2 (by intro z; exact absurd (show b∈([]:List Addr) from z) (by simp)) (by simp)
      | some u2=>
        rcases hO b with z | ⟨ob,u3,z⟩
        ·rw [q2] at z
         cases z
        ·have z2:=un.frzs b ob _ z
         obtain⟨e1,_⟩:=hok b _ z
         obtain⟨e2,_⟩:=hok' b _ z2
         rw [e] at e1
         cases e1
         exact e2
     have KX':K.In s'.heap:=fun b o e=>kept b o (KX b o e)
     obtain⟨as,hrd⟩:=Dw.reads (R:=R) (cl:=cl) hok' KX' d0 v u q r'
     exact⟨u,as,rfl,hrd,OldK.of_keep kept,os,bare⟩
theorem layable_weight{ds:List WData}(h:WData.layableAll ds=true):∀d∈ds,d.weight<=1048576:=fun d hd=>
 (PySem.W.layableW_iff.mp (List.all_eq_true.mp h d hd)).2.2
theorem encAll_len:∀(cs:List Codec)(a:Codec.denoteAll cs),(Codec.encAll cs a).length=cs.length
 | [],_=>rfl
 | c::cs,a=>by
   show(Codec.encAll cs a.2).length+1=cs.length+1
   rw [encAll_len cs a.2]
theorem walk_spec{r:OpenSpec}{k:Nat}{q:Program}{loose:List Str}{XP:(Str->Option Value)->Heap->Prop}{YP:World->Heap->Prop}{d:DefRec}{K:Params->PySem.W.Frag}{CX:World->CXT}{ps:List Str}{sp:World->Sp}
  (himp:PyProof.Rows.importsNone q=true) (hwell:r.wellSaid=true) (hdf:d.params.defaults=[]) (hlen:r.args.length=ps.length) (hr:Room k callerA)
  (hY:∀(w:World)(h:Heap),YP w h->(K w.params).In h)
  (F:∀(w:World)(mg:Str->Option Value)(fa:Addr)(h:Heap),YP w h->(K w.params).In h->h.Ns mainGlobals mg->mg d.name=some (.ref fa)->
   ∃fd:FuncData,(∀(s:Shared)(us:List Value),us.length=ps.length->BindsTo s fd ⟨us,[]⟩ (ps.zip us))/\
    ∀base:Heap,(K w.params).In base->base.Ns mainGlobals mg->FnOk r.prog w (K w.params) mg base (CX w) k fa fd ps (sp w))
  (hsp:∀(w:World)(H:Hp)(xs:List V)(a:Codec.denoteAll r.args),jL H->Codec.withinAll r.args a=true->Codec.app r.args r.asked a=true->DwAll (K w.params) H xs (Codec.encAll r.args a)->
   sp w xs H (fun v H'=>Dw (K w.params) H' v (r.ret.enc (Codec.app r.args r.f a))) fun _ _ _=>False)
  (hCX:∀(w:World)(H:Hp)(s:Shared)(e:Value)(s':Shared),CX w [] H s (fun _ _ _=>False) e s'->False) :
  PySem.W.WalkOS q loose XP YP r d [] (fun f vs=>PySem.call f vs):=by
 intro w s_0 s₁ mg mb G Y fa o pm cd doc dV kV ho hd hcd hD hmg hg args vals as hpre hlay hrd hwl hlo
 obtain⟨a,e1,e2⟩:=PySem.W.os_pre_some hpre
 obtain⟨e3,hwi⟩:=Codec.encAll_of_decAll r.args args a e1
 subst e3
 have KX:=hY w _ Y
 obtain⟨fd,hb,hF⟩:=F w mg fa _ Y KX G.T.g hmg
 refine PySem.W.enter_call (codeAny_mono (spec_call (R:=[]) (cl:=classAt s_0.heap) (d0:=r.ret.enc (Codec.app r.args r.f a)) KX G.T.g G.T.b G.T.builtins G.T.nolimit (G.T.seer himp) hg hwl (pl_encAll _ _) (layable_weight hlay) hr hF hb (by rw [encAll_len]; exact hlen)
  (fun H xs hO hS=>hsp w H xs a hO hwi e2 hS) fun H e s'=>hCX w H s₁ e s') fun r' s' hq=>?_)
 obtain⟨u,as',rfl,h1,h2,h3,h4⟩:=hq
 exact⟨.inl ⟨u,_,as',rfl,fun _=>rfl,h1,(OpenSpec.post_iff hwell hwi _ _).mpr rfl,fun z=>Bool.noConfusion (show false=true from z)⟩,h2,h3,h4⟩
theorem walk_specK{r:OpenSpec}{k:Nat}{q:Program}{loose:List Str}{XP:(Str->Option Value)->Heap->Prop}{YP:World->Heap->Prop}{d:DefRec}{K:Params->PySem.W.Frag}{CX:CXT}{ps:List Str}{sp:PySem.W.Frag->Sp}
  (himp:PyProof.Rows.importsNone q=true) (hwell:r.wellSaid=true) (hdf:d.params.defaults=[]) (hlen:r.args.length=ps.length) (hr:Room k callerA)
  (hY:∀(w:World)(h:Heap),YP w h->(K w.params).In h)
  (F:∀(w:World)(mg:Str->Option Value)(fa:Addr)(h:Heap),YP w h->(K w.params).In h->h.Ns mainGlobals mg->mg d.name=some (.ref fa)->
   ∃fd:FuncData,(∀(s:Shared)(us:List Value),us.length=ps.length->BindsTo s fd ⟨us,[]⟩ (ps.zip us))/\
    ∀base:Heap,(K w.params).In base->base.Ns mainGlobals mg->FnOk r.prog w (K w.params) mg base CX k fa fd ps (sp (K w.params)))
  (hsp:∀(K:PySem.W.Frag)(H:Hp)(xs:List V)(a:Codec.denoteAll r.args),jL H->Codec.withinAll r.args a=true->Codec.app r.args r.asked a=true->DwAll K H xs (Codec.encAll r.args a)->
   sp K xs H (fun v H'=>Dw K H' v (r.ret.enc (Codec.app r.args r.f a))) fun _ _ _=>False)
  (hCX:∀(H:Hp)(s:Shared)(e:Value)(s':Shared),CX [] H s (fun _ _ _=>False) e s'->False) :
  PySem.W.WalkOS q loose XP YP r d [] (fun f vs=>PySem.call f vs):=
 walk_spec (K:=K) (CX:=fun _=>CX) (sp:=fun w=>sp (K w.params)) himp hwell hdf hlen hr hY F (fun w H xs a h1 h2 h3 h4=>hsp (K w.params) H xs a h1 h2 h3 h4) fun _ H s e s'=>hCX H s e s'
end L2
end
end
section
namespace Pw
open PySem PySem.Spec PyProof.Rows L2
variable{P:Program}{w:World}{K:W.Frag}{mg:Str->Option Value}{base:Heap}
def top(i:Nat):Stmt:=PySem.Challenge.pw_wholelattices_s01_answers.main.body.getD i (.Pass ⟨0,0,0,0⟩)
abbrev gR:Stmt:=top 1
theorem ci{X:Cx}:OpR X (binaryOp .Mult) (rI (fun i j=>IntMulOk i j) fun i j=>.int (i*j)):=opI fun _ _ _ _ _ _ _ hc q=>mul_int q hc
def aN(H:Hp)(a:Addr)(v:List Int):Prop:=H a=some (.lst (v.map V.int))
theorem aN.same{H H':Hp}{a:Addr}{v:List Int}(s:Same H H')(h:aN H a v):aN H' a v:=s _ _ h
def fE(v:List Int)(k:Int)(w:List Int):List Int:=Tg.minus v (Tg.times k w)
theorem lessV_len{v w:List Int}{k:Int}(h:v.length=w.length):(fE v k w).length=v.length:=by
 unfold fE; rw [Wl.aY _ _ (by rw [Wl.aI]; exact h)]
theorem lessV_num{v w:List Int}{k:Int}(h:v.length=w.length)(i:Nat):Tg.num (fE v k w) i=Tg.num v i - k*Tg.num w i:=by
 unfold fE; rw [Wl.aw _ _ (by rw [Wl.aI]; exact h),Wl.aM]
theorem dG{v:List Int}{i:Nat}(h:i<v.length):v[i]? =some (Tg.num v i):=by
 simp [Tg.num,h]
theorem ee{v:List Int}{i:Nat}(h:i<v.length):atI (v.map V.int) (0+(i:Int))=some (V.int (Tg.num v i)):=by
 rw [Int.zero_add]
 exact dY (by rw [List.getElem?_map,dG h]; rfl)
theorem num_mem{v:List Int}{i:Nat}(h:i<v.length):Tg.num v i∈v:=List.mem_of_getElem? (dG h)
theorem gQ{l:List Int}{i:Nat}(h:i<l.length):l.take (i+1)=l.take i++[Tg.num l i]:=by
 rw [List.take_add_one,dG h]; rfl
theorem Same.new{H:Hp}{p:Addr}{o:HO}(h:H p=none):Same H (upd H p o):=fun b u e=>by rw [aO (aP e h)]; exact e
def eD:Sp:=fun vs H Q _=>∃(a b:Addr)(k:Int)(v w:List Int),vs=[.ref a,.int k,.ref b]/\aN H a v/\aN H b w/\v.length=w.length/\v.length<1000/\(∀x∈w,IntMulOk k x)/\
 ∀(H':Hp)(p:Addr),H p=none->Same H H'->aN H' p (fE v k w)->Q (.ref p) H'
structure Txt(K:W.Frag)(mg:Str->Option Value):Prop where
 len:mg "len"=none
 range:mg "range"=none
theorem scLess:FnScope ["vector","times","other","place"] ["vector","times","other"] (aC gR):=⟨rfl,rfl,rfl,by decide +kernel,rfl,by decide +kernel,by decide +kernel⟩
def dF(s:Stmt):Scope:=match s with
 | .Return (some (.ListComp _ _ sc _)) _=>sc
 | .Assign _ (.ListComp _ _ sc _) _=>sc
 | _=>{kind:=.function,names:=[],isGenerator:=false,isCoroutine:=false}
def cQ(s:Stmt)(i:Nat):Stmt:=(aR s).getD i (.Pass ⟨0,0,0,0⟩)
theorem blkLess:BlkOk ["vector","times","other","place"] (aC gR) (dF (cQ gR 0)) [("place",3)]:=bq (by decide +kernel)
theorem ixl(K:W.Frag){X:Cx}(h:X.K=K:=by rfl):IxR X (rIxL K):=h ▸ix_list
theorem ok_less{f:Addr}{fd:FuncData}(F:Fun K "less" "less" gR f fd)(T:Txt K mg):FnOk P w K mg base CX0 1 f fd ["vector","times","other"] eD:=by
 refine F.ok scLess (fun vs H Q E h=>?_) (fun cdv A outer s H vs Q E hr h=>?_)
 ·obtain⟨a,b,k,v,w,rfl,_⟩:=h
  rfl
 ·obtain⟨a,b,k,v,w,rfl,ha,hb,hl,hz,hm,hk⟩:=h
  refine⟨_,aK (aV (dN (own:=[("place",3)]) rfl scLess.nd (d6 rfl T.range (aA (ag a8 (by rfl) T.len PySem.boot_len (aA (pv 0) aE)) aE)) blkLess
   (fun s H C cl fp=>b8 (i:=3) scLess.nd rfl (Or.inl rfl)) (fun s H C cl fp=>cU)
   (fun s H C cl fp=>af gh (bj (ixl K) (pv 0) (pv 3) (fun _ _=>rfl)) (af ci (pv 1) (bj (ixl K) (pv 2) (pv 3) (fun _ _=>rfl)))))),?_⟩
  refine⟨_,rfl,a,_,rfl,.inl (SqL.of ha),_,rfl,by rw [List.length_map]; omega,by rw [List.length_map]; omega,fun D hD=>?_⟩
  have hlen:(v.map V.int).length=v.length:=List.length_map _
  refine gX (n:=(v.map V.int).length) (fun i H'=>Same H H'/\aN H' D ((fE v k w).take i)) ⟨Same.new hD,aB⟩ ?_ ?_
  ·rintro i H' hi ⟨hs,hv⟩
   rw [hlen] at hi
   refine⟨rfl,?_⟩
   dsimp only [gH]
   rw [if_pos rfl]
   refine⟨_,rfl,_,rfl,a,_,_,_,rfl,rfl,SqL.of (hs _ _ ha),ee hi,_,rfl,_,rfl,_,rfl,b,_,_,_,rfl,rfl,SqL.of (hs _ _ hb),ee (by omega),_,_,rfl,rfl,hm _ (num_mem (by omega)),_,_,rfl,rfl,_,hv,?_,?_⟩
   ·rw [List.length_map,List.length_take]; exact aq (by omega)
   ·refine⟨fun c o e=>?_,?_⟩
    ·rw [aO (aP e hD)]; exact hs c o e
    ·unfold aN
     rw [aB,gQ (l:=fE v k w) (i:=i) (by rw [lessV_len hl]; exact hi),List.map_append,lessV_num hl]
     rfl
  ·rintro H' ⟨hs,hv⟩
   refine hk H' D hD hs ?_
   rw [hlen,<- lessV_len (k:=k) hl,List.take_length] at hv
   exact hv
section
variable{X:Cx}{pins:List (Addr × Obj)}{σ:L2.St}{H:Hp}{s:Shared}
theorem pyl(I:Inv X pins σ H s)(hd:X.A.depth+100<recursionLimit)(ht:X.prog.given.tree=none):PySem.PylongRoom (model X.prog X.w) X.A s:=by
 obtain⟨e,r,hs,g1,g2,g3,g4⟩:=I.ok.hst
 exact PySem.PylongRoom.of I.nolimit hd (SeerAt.of (I.ok.mod.seer.keeps I.bk) ht (I.ok.frames.trans (congrArg some hs)) g1 g2 g3 g4)
theorem eM(hd:X.A.depth+100<recursionLimit)(ht:X.prog.given.tree=none):OpR X (binaryOp .FloorDiv) (rI (fun _ j=>j≠0) fun i j=>.int (i.fdiv j)):=by
 intro pins s σ H x y v u Q I rx ry h
 obtain⟨i,j,rfl,rfl,hc,q⟩:=h
 obtain⟨t,rfl⟩:=rx
 obtain⟨t',rfl⟩:=ry
 exact floordiv_int hc ⟨.int (i.fdiv j),H,I.tok _,⟨_,rfl⟩,q⟩ (.inr (pyl I hd ht))
end
theorem Room.pyl{k:Nat}{A:Around}(r:Room k A)(h:40<=k):A.depth+100<recursionLimit:=by have:=r.dp; omega
theorem bits_lt{x:Int}{m:Nat}(h:x.natAbs<2^m):Builtin.Int.intBits x<=m:=by
 unfold Builtin.Int.intBits
 split
 ·exact Nat.zero_le _
 ·rename_i h0
  have hn:x.natAbs≠0:=by simpa using h0
  have:=(Nat.log2_lt hn).2 h
  omega
theorem cu{a b:Int}{m n:Nat}(ha:a.natAbs<2^m)(hb:b.natAbs<2^n)(h:m+n<=134217728):IntMulOk a b:=IntMulOk.of_le (bits_lt ha) (bits_lt hb) h
theorem natAbs_fdiv{a b:Int}{m:Nat}(hb:b≠0)(h1:a.natAbs<2^m)(h2:b.natAbs<2^m):(a.fdiv b).natAbs<2^(m+1):=by
 have hr:=(Wl.fdiv_rest (a:=a) hb).1
 have e:((a.fdiv b)*b).natAbs=(a.fdiv b).natAbs*b.natAbs:=Int.natAbs_mul _ _
 have:(a.fdiv b).natAbs*1<=(a.fdiv b).natAbs*b.natAbs:=Nat.mul_le_mul_left _ (by omega)
 rw [Nat.pow_succ]
 omega
abbrev sClr:Stmt:=top 2
theorem i3:FnScope ["lead","vector","place","first","second","rest"] ["lead","vector","place"] (aC sClr):=⟨rfl,rfl,rfl,by decide +kernel,rfl,by decide +kernel,by decide +kernel⟩
def Old(H:Hp)(a b x:Addr):Prop:=x=a\/x=b\/H x=none
def spClr:Sp:=fun vs H Q _=>∃(a b:Addr)(n p A V B:Nat)(va vb:List Int),vs=[.ref a,.ref b,.int p]/\aN H a va/\aN H b vb/\va.length=n/\vb.length=n/\p<n/\n<1000/\
 Wl.Bd A va/\Wl.Bd V vb/\(Tg.num va p).natAbs<2^B/\(Tg.num vb p).natAbs<2^B/\(B+1)+(B+max A V+2)<=134217728/\
 ∀(H':Hp)(t x' y':Addr)(x y:List Int),Same H H'->H' t=some (.tup [.ref x',.ref y'])->aN H' x' x->aN H' y' y->Old H a b x'->Old H a b y'->Wl.Clr n p va vb x y (B+max A V+2)->Q (.ref t) H'
theorem eB{v:List Int}{i:Nat}(h:i<v.length):atI (v.map V.int) (i:Int)=some (V.int (Tg.num v i)):=dY (by rw [List.getElem?_map,dG h]; rfl)
theorem ok_clr{f fL:Addr}{fd fdL:FuncData}(hP:P.given.tree=none)(F:Fun K "cleared" "cleared" sClr f fd)(T:Txt K mg)(FL:Fun K "less" "less" gR fL fdL)(bL:Binds K fdL ["vector","times","other"] [])(mL:mg "less"=some (.ref fL)) :
  FnOk P w K mg base CX0 42 f fd ["lead","vector","place"] spClr:=by
 have GL:FnOk P w K mg base CX0 1 fL fdL ["vector","times","other"] eD:=ok_less FL T
 refine F.ok i3 (fun vs H Q E h=>?_) (fun cdv A outer s H vs Q E hr h=>?_)
 ·obtain⟨a,b,n,p,A,V,B,va,vb,rfl,_⟩:=h
  rfl
 ·obtain⟨a,b,n,p,A,V,B,va,vb,rfl,ha,hb,la,lb,hp,hn,bA,bV,ap,bp,hfit,k⟩:=h
  have hr1:Room 1 _:=hr.mono (by decide)
  have hd:=Room.pyl hr (by decide)
  refine⟨_,aF (aZ (i:=3) i3.nd rfl (Or.inl rfl) (pv 0))
   (aF (aZ (i:=4) i3.nd rfl (Or.inl rfl) (pv 1))
   (aF (fc PassesOwn.never (ad op_ne (bj (ixl K) (pv 4) (pv 2) (fun _ _=>rfl)) aQ (ao _))
    (aF (aZ (i:=5) i3.nd rfl (Or.inl rfl) (aJ GL hr1 rfl mL FL.kp bL .nil aS (aA (pv 3) (aA (af (eM hd hP) (bj (ixl K) (pv 3) (pv 2) (fun _ _=>rfl)) (bj (ixl K) (pv 4) (pv 2) (fun _ _=>rfl))) (aA (pv 4) aE)))))
    (aF (aZ (i:=3) i3.nd rfl (Or.inl rfl) (pv 4)) (aK (aZ (i:=4) i3.nd rfl (Or.inl rfl) (pv 5))))))
   (aK (aV (pe_tup (aA (pv 3) (aA (pv 4) aE))))))),?_⟩
  refine⟨_,rfl,_,rfl,?_⟩
  refine⟨fun m σ H'=>∃(x y:Addr)(f s:List Int)(r:Option L2.V),σ=[some (.ref a),some (.ref b),some (.int p),some (.ref x),some (.ref y),r]/\Same H H'/\aN H' x f/\aN H' y s/\Old H a b x/\Old H a b y/\m=(Tg.num s p).natAbs/\
   ((f=va/\s=vb)\/(Tg.num vb p≠0/\Wl.Run n p va vb f s (2^(B+max A V+2) - 1))),⟨_,a,b,va,vb,none,rfl,Same.refl H,ha,hb,.inl rfl,.inr (.inl rfl),rfl,.inl ⟨rfl,rfl⟩⟩,?_⟩
  rintro m σ H' ⟨x,y,f,s',r,rfl,hs,hx,hy,ox,oy,rfl,st⟩
  have ls:s'.length=n:=by rcases st with⟨_,rfl⟩ | ⟨_,R⟩; exact lb; exact R.ls
  have lf:f.length=n:=by rcases st with⟨rfl,_⟩ | ⟨_,R⟩; exact la; exact R.lf
  refine⟨_,rfl,_,rfl,y,_,_,_,rfl,rfl,SqL.of hy,eB (by omega),rfl,_,rfl,?_⟩
  by_cases h0:Tg.num s' p=0
  ·dsimp only
   rw [if_neg (by rw [h0]; decide)]
   refine⟨_,rfl,_,rfl,by show 2<=sizeLine; decide,fun t ht=>?_⟩
   refine k _ t x y f s' (hs.trans (Same.new ht)) aB ((Same.new ht) _ _ hx) ((Same.new ht) _ _ hy) ox oy ?_
   rcases st with⟨rfl,rfl⟩ | ⟨hb0,R⟩
   ·exact Wl.Clr.same la lb bA bV h0
   ·exact Wl.Clr.run R hb0 h0
  ·dsimp only
   rw [if_pos (by simpa using h0)]
   have sp':(Tg.num s' p).natAbs<2^B:=by
    rcases st with⟨_,rfl⟩ | ⟨_,R⟩
    ·exact bp
    ·have:=R.lt; have:=R.fp; omega
   have fp':(Tg.num f p).natAbs<2^B:=by
    rcases st with⟨rfl,_⟩ | ⟨_,R⟩
    ·exact ap
    ·have:=R.fp; omega
   have sB:Wl.Bd (B+max A V+2) s':=by
    rcases st with⟨_,rfl⟩ | ⟨_,R⟩
    ·exact bV.mono (by omega)
    ·intro j; have:=R.sb j; have:=Nat.two_pow_pos (B+max A V+2); omega
   have hq:=natAbs_fdiv h0 fp' sp'
   refine⟨fun σ' H''=>∃(z:Addr),σ'=[some (.ref a),some (.ref b),some (.int p),some (.ref y),some (.ref z),some (.ref z)]/\Same H' H''/\H' z=none/\aN H'' z (fE f ((Tg.num f p).fdiv (Tg.num s' p)) s'),?_,?_⟩
   ·rintro σ' H'' ⟨z,rfl,hs2,hf2,hz⟩
    have R':Wl.Run n p va vb s' (fE f ((Tg.num f p).fdiv (Tg.num s' p)) s') (2^(B+max A V+2) - 1):=by
     rcases st with⟨rfl,rfl⟩ | ⟨hb0,R⟩
     ·exact Wl.Run.start la lb h0 (Wl.run_bound bA bV ap bp)
     ·exact R.step h0
    have hb0:Tg.num vb p≠0:=by
     rcases st with⟨_,rfl⟩ | ⟨hb0,_⟩
     ·exact h0
     ·exact hb0
    exact⟨_,R'.lt,y,z,s',_,_,rfl,hs.trans hs2,hs2 _ _ hy,hz,oy,.inr (.inr (hs.free hf2)),rfl,.inr ⟨hb0,R'⟩⟩
   ·refine⟨_,rfl,_,rfl,_,rfl,x,_,_,_,rfl,rfl,SqL.of hx,eB (by omega),_,rfl,_,rfl,y,_,_,_,rfl,rfl,SqL.of hy,eB (by omega),_,_,rfl,rfl,h0,_,rfl,?_⟩
    refine⟨x,y,_,f,s',rfl,hx,hy,by omega,by omega,?_,fun H2 z hf2 hs2 hz=>?_⟩
    ·intro u hu
     obtain⟨i,hi,rfl⟩:=List.mem_iff_getElem.1 hu
     have e:s'[i]=Tg.num s' i:=by
      have:=dG hi
      rw [List.getElem?_eq_getElem hi] at this
      exact Option.some.inj this
     rw [e]
     exact cu hq (sB i) hfit
    ·exact⟨_,rfl,_,rfl,z,rfl,hs2,hf2,hz⟩
def aL(H:Hp):List Addr->List (List Int)->Prop
 | [],[]=>True
 | a::as,r::rs=>aN H a r/\aL H as rs
 | _,_=>False
theorem aL.same{H H':Hp}:∀{as:List Addr}{rs:List (List Int)},(∀a∈as,∀o,H a=some o->H' a=some o)->aL H as rs->aL H' as rs
 | [],[],_,_=>trivial
 | a::as,r::rs,s,h=>⟨s a List.mem_cons_self _ h.1,aL.same (fun b hb=>s b (List.mem_cons_of_mem _ hb)) h.2⟩
 | [],_::_,_,h=>h.elim
 | _::_,[],_,h=>h.elim
theorem aL.keep{H H':Hp}{as:List Addr}{rs:List (List Int)}(s:Same H H')(h:aL H as rs):aL H' as rs:=h.same fun a _ o=>s a o
theorem aL.len{H:Hp}:∀{as:List Addr}{rs:List (List Int)},aL H as rs->as.length=rs.length
 | [],[],_=>rfl
 | a::as,r::rs,h=>by simp [aL.len h.2]
 | [],_::_,h=>h.elim
 | _::_,[],h=>h.elim
theorem aL.get{H:Hp}:∀{as:List Addr}{rs:List (List Int)}{i:Nat}{a:Addr},aL H as rs->as[i]? =some a->∃r,rs[i]? =some r/\aN H a r
 | a::as,r::rs,0,b,h,e=>by
   have e:a=b:=by simpa using e
   subst e
   exact⟨r,rfl,h.1⟩
 | a::as,r::rs,i+1,b,h,e=>by
   obtain⟨q,hq,ha⟩:=aL.get (i:=i) h.2 (by simpa using e)
   exact⟨q,by simpa using hq,ha⟩
 | [],[],_,_,_,e=>by simp at e
 | [],_::_,_,_,h,_=>h.elim
 | _::_,[],_,_,h,_=>h.elim
theorem aL.mem{H:Hp}{as:List Addr}{rs:List (List Int)}{a:Addr}(h:aL H as rs)(ha:a∈as):∃r,r∈rs/\aN H a r:=by
 obtain⟨i,hi,e⟩:=List.mem_iff_getElem.1 ha
 obtain⟨r,hr,hv⟩:=h.get (i:=i) (a:=a) (by rw [List.getElem?_eq_getElem hi,e])
 exact⟨r,List.mem_of_getElem? hr,hv⟩
theorem aL.append{H:Hp}:∀{as bs:List Addr}{rs qs:List (List Int)},aL H as rs->aL H bs qs->aL H (as++bs) (rs++qs)
 | [],bs,[],qs,_,k=>k
 | a::as,bs,r::rs,qs,h,k=>⟨h.1,aL.append h.2 k⟩
 | [],_,_::_,_,h,_=>h.elim
 | _::_,_,[],_,h,_=>h.elim
theorem aL.one{H:Hp}{a:Addr}{r:List Int}(h:aN H a r):aL H [a] [r]:=⟨h,trivial⟩
theorem aL.take{H:Hp}:∀{as:List Addr}{rs:List (List Int)}(i:Nat),aL H as rs->aL H (as.take i) (rs.take i)
 | [],[],i,_=>by simp [aL]
 | a::as,r::rs,0,_=>by simp [aL]
 | a::as,r::rs,i+1,h=>⟨h.1,aL.take i h.2⟩
 | [],_::_,_,h=>h.elim
 | _::_,[],_,h=>h.elim
def ak(H:Hp)(a:Addr)(rs:List (List Int)):Prop:=∃as:List Addr,H a=some (.lst (as.map V.ref))/\aL H as rs
theorem ak.keep{H H':Hp}{a:Addr}{rs:List (List Int)}(s:Same H H')(h:ak H a rs):ak H' a rs:=
 let ⟨as,h1,h2⟩:=h; ⟨as,s _ _ h1,h2.keep s⟩
theorem vec_ne{H:Hp}{x q:Addr}{v:List Int}{as:List Addr}(hx:aN H x v)(hv:v≠[])(hq:H q=some (.lst (as.map V.ref))):x≠q:=by
 intro e
 subst e
 unfold aN at hx
 rw [hq] at hx
 injection hx with hx
 injection hx with hx
 cases v with
 | nil=>exact hv rfl
 | cons z v=>
   cases as with
   | nil=>simp at hx
   | cons a as=>simp at hx
theorem vecs_ne{H:Hp}{q:Addr}{as bs:List Addr}{rs:List (List Int)}(h:aL H bs rs)(hr:∀r∈rs,r≠[])(hq:H q=some (.lst (as.map V.ref))):∀b∈bs,b≠q:=by
 intro b hb
 obtain⟨r,hr',hv⟩:=h.mem hb
 exact vec_ne hv (hr r hr') hq
theorem aL.upd{H:Hp}{q:Addr}{o:HO}{as bs:List Addr}{rs:List (List Int)}(h:aL H bs rs)(hr:∀r∈rs,r≠[])(hq:H q=some (.lst (as.map V.ref))):aL (upd H q o) bs rs:=
 h.same fun b hb u e=>by rw [aO (vecs_ne h hr hq b hb)]; exact e
theorem aN.upd{H:Hp}{q x:Addr}{o:HO}{as:List Addr}{v:List Int}(h:aN H x v)(hv:v≠[])(hq:H q=some (.lst (as.map V.ref))):aN (upd H q o) x v:=by
 unfold aN
 rw [aO (vec_ne h hv hq)]; exact h
theorem gN{n:Nat}{v:List Int}(h:v.length=n)(hn:0<n):v≠[]:=by
 intro e; rw [e] at h; simp at h; omega
theorem rep_zero(n:Nat):(List.replicate n [V.int 0]).flatten=(Tg.zero n).map V.int:=by
 induction n with
 | zero=>rfl
 | succ n ih=>
   rw [List.replicate_succ,List.flatten_cons,ih]
   rfl
abbrev sGat:Stmt:=top 3
theorem iZ:FnScope ["vectors","n","place","lead","others","vector","pair"] ["vectors","n","place"] (aC sGat):=⟨rfl,rfl,rfl,by decide +kernel,rfl,by decide +kernel,by decide +kernel⟩
def fY(H:Hp)(as:List Addr)(x:Addr):Prop:=x∈as\/H x=none
def spGat:Sp:=fun vs H Q _=>∃(a:Addr)(as:List Addr)(n p B:Nat)(rows:List (List Int)),vs=[.ref a,.int n,.int p]/\H a=some (.lst (as.map V.ref))/\aL H as rows/\Wl.Len n rows/\p<n/\n<1000/\rows.length<1000/\
 Wl.Bds B rows/\(B+1)+Wl.gr (Wl.cp p rows+1) B<=134217728/\
 ∀(H':Hp)(t x y:Addr)(bs:List Addr)(lead:List Int)(others:List (List Int)),Same H H'->H' t=some (.tup [.ref x,.ref y])->aN H' x lead->H' y=some (.lst (bs.map V.ref))->aL H' bs others->fY H as x->H y=none->(∀b∈bs,fY H as b)->Wl.Gat n p rows lead others B (Wl.gr (Wl.cp p rows) B)->Q (.ref t) H'
theorem br{α:Type}{l:List α}{i:Nat}{x:α}(h:l[i]? =some x):l.take (i+1)=l.take i++[x]:=by
 rw [List.take_add_one,h]; rfl
theorem cp_take(p:Nat)(rows:List (List Int))(i:Nat):Wl.cp p (rows.take i)<=Wl.cp p rows:=by
 unfold Wl.cp
 exact(List.Sublist.filter _ (List.take_sublist i rows)).length_le
theorem ixt(K:W.Frag){X:Cx}(h:X.K=K:=by rfl):IxR X (rIxT K):=h ▸ix_tup
theorem ok_gat{f fC:Addr}{fd fdC:FuncData}(F:Fun K "gathered" "gathered" sGat f fd)(GC:FnOk P w K mg base CX0 42 fC fdC ["lead","vector","place"] spClr)(kC:W.keepIn K (.ref fC)=true)(bC:Binds K fdC ["lead","vector","place"] [])(mC:mg "cleared"=some (.ref fC)) :
  FnOk P w K mg base CX0 43 f fd ["vectors","n","place"] spGat:=by
 refine F.ok iZ (fun vs H Q E h=>?_) (fun cdv A outer s H vs Q E hr h=>?_)
 ·obtain⟨a,as,n,p,B,rows,rfl,_⟩:=h
  rfl
 ·obtain⟨a,as,n,p,B,rows,rfl,ha,hav,L,hp,hn,hN,hB,hfit,k⟩:=h
  have hlen:=hav.len
  refine⟨_,aF (aZ (i:=3) iZ.nd rfl (Or.inl rfl) (af ib (bJ (aA aQ aE)) (pv 1)))
   (aF (aZ (i:=4) iZ.nd rfl (Or.inl rfl) (bJ aE))
   (aF (fe PassesOwn.never rfl (cD (pv 0)) (b8 (i:=5) iZ.nd rfl (Or.inl rfl))
    (aF (aZ (i:=6) iZ.nd rfl (Or.inl rfl) (aJ GC hr rfl mC kC bC .nil aS (aA (pv 3) (aA (pv 5) (aA (pv 2) aE)))))
    (aF (aZ (i:=3) iZ.nd rfl (Or.inl rfl) (bj (ixt K) (pv 6) aQ (fun _ _=>rfl)))
    (aK (e7 (iM PySem.F.plainAttrs_list PySem.F.slot_list_append PySem.F.type_list_append fz (pv 4) (aA (bj (ixt K) (pv 6) aQ (fun _ _=>rfl)) aE)))))))
   (aK (aV (pe_tup (aA (pv 3) (aA (pv 4) aE))))))),?_⟩
  refine⟨by show 1<=sizeLine; decide,fun l0 hl0=>?_⟩
  refine⟨_,rfl,l0,_,_,rfl,rfl,aB,by omega,by omega,?_,fun l1 hl1=>?_⟩
  ·show 1*((n:Int)).toNat<=sizeLine
   have:n<sizeLine:=aq (by omega)
   simp; omega
  refine⟨Nat.zero_le _,fun q hq=>?_⟩
  have s1:Same H (upd H l0 (.lst [V.int 0])):=Same.new hl0
  have s2:=s1.trans (Same.new (o:=.lst (List.replicate ((n:Int)).toNat [V.int 0]).flatten) hl1)
  have s3:=s2.trans (Same.new (o:=.lst []) hq)
  refine⟨_,rfl,a,rfl,⟨_,SqL.of (s3 _ _ ha)⟩,fj (K:=K) (a:=a) (xs:=as.map V.ref) (fun i σ H'=>∃(x:Addr)(bs:List Addr)(lead:List Int)(others:List (List Int))(v5 v6:Option L2.V),
   σ=[some (.ref a),some (.int n),some (.int p),some (.ref x),some (.ref q),v5,v6]/\Same H H'/\aN H' x lead/\H' q=some (.lst (bs.map V.ref))/\aL H' bs others/\fY H as x/\(∀b∈bs,fY H as b)/\Wl.Gat n p (rows.take i) lead others B (Wl.gr (Wl.cp p (rows.take i)) B)) ?_ ?_ ?_ ?_⟩
  ·refine⟨l1,[],Tg.zero n,[],none,none,rfl,s3,?_,aB,trivial,.inr (s1.free hl1),by simp,?_⟩
   ·unfold aN
    rw [aO (aP aB hq),aB,<- rep_zero]
    rfl
   ·exact Wl.Gat.start
  ·rintro i σ H' hi ⟨x,bs,lead,others,v5,v6,rfl,hs,_⟩
   exact SqL.of (hs _ _ ha)
  ·rintro i y σ H' hi ⟨x,bs,lead,others,v5,v6,rfl,hs,hx,hq',hbs,ox,obs,G⟩
   rw [List.getElem?_map] at hi
   obtain⟨b,hb,rfl⟩:=Option.map_eq_some_iff.1 hi
   obtain⟨v,hv,hvb⟩:=hav.get hb
   have hvm:v∈rows:=List.mem_of_getElem? hv
   have hi':i<rows.length:=(List.getElem?_eq_some_iff.1 hv).1
   have lv:=L v hvm
   have g1:B+max (Wl.gr (Wl.cp p (rows.take i)) B) B+2=Wl.gr (Wl.cp p (rows.take i)+1) B:=Wl.gr_step _ B
   have g2:Wl.gr (Wl.cp p (rows.take i)+1) B<=Wl.gr (Wl.cp p rows+1) B:=Wl.gr_mono B (by have:=cp_take p rows i; omega)
   have eT:rows.take (i+1)=rows.take i++[v]:=br hv
   refine⟨_,rfl,_,rfl,_,rfl,x,b,n,p,Wl.gr (Wl.cp p (rows.take i)) B,B,B,lead,v,rfl,hx,hs _ _ hvb,G.ll,lv,hp,hn,G.bl,hB v hvm,G.lp,hB v hvm p,by rw [g1]; omega,fun H2 t x2 y2 x' y' s4 ht hx2 hy2 ox2 oy2 C=>?_⟩
   rw [g1] at C
   have am:∀{z:Addr},Old H' x b z->fY H as z:=fun{z} o=>by
    rcases o with e | e | e
    ·rw [e]; exact ox
    ·rw [e]; exact .inl (List.mem_of_getElem? hb)
    ·exact .inr (hs.free e)
   refine⟨_,rfl,t,_,_,_,rfl,rfl,SqT.of ht,rfl,_,rfl,.inl ⟨rfl,_,SqL.of (s4 _ _ hq')⟩,_,rfl,t,_,_,_,rfl,rfl,SqT.of ht,rfl,q,_,_,rfl,rfl,s4 _ _ hq',?_,?_⟩
   ·rw [List.length_map,hbs.len]
    have:=G.cnt
    rw [List.length_take] at this
    exact aq (by omega)
   ·have hq2:H2 q=some (.lst (bs.map V.ref)):=s4 _ _ hq'
    have nx:x'≠[]:=gN C.pair.lx (by omega)
    have ny:y'≠[]:=gN C.pair.ly (by omega)
    refine⟨x2,bs++[y2],x',others++[y'],_,_,rfl,?_,hx2.upd nx hq2,?_,?_,am ox2,?_,?_⟩
    ·intro c o e
     have:c≠q:=aP (s2 _ _ e) hq
     rw [aO this]
     exact s4 _ _ (hs _ _ e)
    ·rw [aB,List.map_append]; rfl
    ·refine aL.append ((hbs.keep s4).upd (fun r hr=>gN (G.lo r hr) (by omega)) hq2) (aL.one (hy2.upd ny hq2))
    ·intro d hd
     rcases List.mem_append.1 hd with h | h
     ·exact obs d h
     ·simp only [List.mem_cons,List.not_mem_nil,or_false] at h; rw [h]; exact am oy2
    ·rw [eT,Wl.cp_snoc]
     have Lt:Wl.Len n (rows.take i):=fun r hr=>L r (List.mem_of_mem_take hr)
     by_cases h0:Tg.num v p=0
     ·rw [if_pos h0]
      obtain⟨e1,e2⟩:=C.keep h0
      subst e1 e2
      exact G.step Lt lv (hB _ hvm p) (Wl.Clr.same0 G.ll lv G.bl ((hB _ hvm).mono (Wl.le_gr _ _)) h0) (Nat.le_refl _)
     ·rw [if_neg h0]
      refine G.step Lt lv (hB v hvm p) C ?_
      rw [<- g1]; omega
  ·rintro σ H' ⟨x,bs,lead,others,v5,v6,rfl,hs,hx,hq',hbs,ox,obs,G⟩
   rw [List.length_map,hlen,List.take_length] at G
   refine⟨_,rfl,_,rfl,by show 2<=sizeLine; decide,fun t ht=>?_⟩
   have s5:Same H' (upd H' t (.tup [.ref x,.ref q])):=Same.new ht
   exact k _ t x q bs lead others (hs.trans s5) aB (hx.same s5) (s5 _ _ hq') (hbs.keep s5) ox (s2.free hq) obs G
abbrev sUp:Stmt:=top 4
theorem scUp:FnScope ["lead","place","number"] ["lead","place"] (aC sUp):=⟨rfl,rfl,rfl,by decide +kernel,rfl,by decide +kernel,by decide +kernel⟩
theorem blkUp:BlkOk ["lead","place","number"] (aC sUp) (dF (cQ sUp 1)) [("number",2)]:=bq (by decide +kernel)
def upV(v:List Int)(p:Nat):List Int:=if 0<Tg.num v p then v else Tg.times (-1) v
def spUp:Sp:=fun vs H Q _=>∃(a:Addr)(p:Nat)(v:List Int),vs=[.ref a,.int p]/\aN H a v/\p<v.length/\v.length<1000/\
 ∀(H':Hp)(x:Addr),Same H H'->(x=a\/H x=none)->aN H' x (upV v p)->Q (.ref x) H'
theorem ok_up{f:Addr}{fd:FuncData}(F:Fun K "upright" "upright" sUp f fd):FnOk P w K mg base CX0 1 f fd ["lead","place"] spUp:=by
 refine F.ok scUp (fun vs H Q E h=>?_) (fun cdv A outer s H vs Q E hr h=>?_)
 ·obtain⟨a,p,v,rfl,_⟩:=h
  rfl
 ·obtain⟨a,p,v,rfl,ha,hp,hz,k⟩:=h
  refine⟨_,aF (cC (ad jU (bj (ixl K) (pv 0) (pv 1) (fun _ _=>rfl)) aQ (ao _)) (aK (aV (pv 0))) bE)
   (aK (aV (dN (own:=[("number",2)]) rfl scUp.nd (cD (pv 0)) blkUp
    (fun s H C cl fp=>b8 (i:=2) scUp.nd rfl (Or.inl rfl)) (fun s H C cl fp=>cU) (fun s H C cl fp=>gu f8 (pv 2))))),?_⟩
  refine⟨_,rfl,_,rfl,a,_,_,_,rfl,rfl,SqL.of ha,eB hp,_,_,rfl,rfl,_,rfl,?_⟩
  dsimp only
  by_cases h0:0<Tg.num v p
  ·rw [if_pos (by simpa using h0)]
   refine⟨_,rfl,?_⟩
   refine k H a (Same.refl H) (.inl rfl) ?_
   unfold upV
   rw [if_pos h0]; exact ha
  ·rw [if_neg (by simpa using h0)]
   refine⟨_,rfl,a,rfl,⟨_,SqL.of ha⟩,fun D hD=>?_⟩
   refine c4 (K:=K) (a:=a) (xs:=v.map V.int) (fun i H'=>Same H H'/\aN H' D ((Tg.times (-1) v).take i)) ⟨Same.new hD,aB⟩ (fun i H' _ h=>SqL.of (h.1 _ _ ha)) ?_ ?_
   ·rintro i x H' hi ⟨hs,hv⟩
    rw [List.getElem?_map] at hi
    obtain⟨z,hz',rfl⟩:=Option.map_eq_some_iff.1 hi
    have hil:i<v.length:=(List.getElem?_eq_some_iff.1 hz').1
    refine⟨rfl,?_⟩
    dsimp only [gH]
    rw [if_pos rfl]
    refine⟨_,rfl,_,rfl,_,hv,?_,?_⟩
    ·rw [List.length_map,List.length_take]; exact aq (by omega)
    ·refine⟨fun c o e=>?_,?_⟩
     ·rw [aO (aP e hD)]; exact hs c o e
     ·unfold aN
      rw [aB,gQ (l:=Tg.times (-1) v) (i:=i) (by rw [Wl.aI]; exact hil),List.map_append,Wl.aM]
      have e:Tg.num v i=z:=by
       have:=dG hil
       rw [hz'] at this
       exact(Option.some.inj this).symm
      rw [e,Int.neg_one_mul]
      rfl
   ·rintro H' ⟨hs,hv⟩
    refine k H' D hs (.inr hD) ?_
    unfold upV
    rw [if_neg h0]
    rw [List.length_map,<- Wl.aI (-1) v,List.take_length] at hv
    exact hv
abbrev gp:Stmt:=top 5
theorem eZ:FnScope ["vectors","n","rows","rest","place","pair","lead","row"] ["vectors","n"] (aC gp):=⟨rfl,rfl,rfl,by decide +kernel,rfl,by decide +kernel,by decide +kernel⟩
def inFor(s:Stmt)(i:Nat):Stmt:=match s with
 | .For _ _ b _ _=>b.getD i (.Pass ⟨0,0,0,0⟩)
 | .If _ b _ _=>b.getD i (.Pass ⟨0,0,0,0⟩)
 | .While _ b _ _=>b.getD i (.Pass ⟨0,0,0,0⟩)
 | _=>.Pass ⟨0,0,0,0⟩
theorem blkForm:BlkOk ["vectors","n","rows","rest","place","pair","lead","row"] (aC gp) (dF (inFor (inFor (cQ gp 2) 2) 1)) [("row",7)]:=bq (by decide +kernel)
def iG:Sp:=fun vs H Q _=>∃(a:Addr)(as:List Addr)(n B:Nat)(vecs:List (List Int)),vs=[.ref a,.int n]/\H a=some (.lst (as.map V.ref))/\aL H as vecs/\Wl.Len n vecs/\n<1000/\vecs.length<1000/\
 Wl.Bds B vecs/\4*Wl.gq vecs.length B n+8<=134217728/\
 ∀(H':Hp)(r:Addr)(bs:List Addr),Same H H'->H' r=some (.lst (bs.map V.ref))->aL H' bs (Tg.form n vecs)->H r=none->(∀b∈bs,fY H as b)->Q (.ref r) H'
theorem up_turned{n p:Nat}{q:List Int}(lq:q.length=n)(h:Tg.num q p≠0):Wl.Turned n p q (upV q p):=by
 unfold upV
 split
 ·rename_i h0; exact Wl.Turned.up lq h0
 ·rename_i h0; exact Wl.Turned.down lq h h0
theorem up_bd{m p:Nat}{q:List Int}(b:Wl.Bd m q):Wl.Bd m (upV q p):=by
 unfold upV
 split
 ·exact b
 ·exact b.times_neg
theorem less_clear{n j:Nat}{p r:List Int}(h:0<Tg.num p j):fE r ((Tg.num r j).fdiv (Tg.num p j)) p=Wl.clear j p r:=by
 unfold fE Wl.clear
 rw [Int.fdiv_eq_ediv_of_nonneg _ (by omega)]
theorem natAbs_ediv{a b:Int}{m:Nat}(hb:0<b)(h:a.natAbs<2^m):(a.fdiv b).natAbs<2^m:=by
 rw [Int.fdiv_eq_ediv_of_nonneg _ (by omega)]
 exact Nat.lt_of_le_of_lt (Int.natAbs_ediv_le_natAbs a b) h
structure PartB(n j N B:Nat)(all done rest:List (List Int)):Prop where
 part:Wl.Part n j all done rest
 rb:Wl.Bds (Wl.gq N B done.length) rest
 db:Wl.Bds (2*Wl.gq N B done.length) done
 cnt:Wl.nzv rest+done.length<=N
 len:rest.length=all.length
 dl:done.length<=j
theorem PartB.cp{n j N B:Nat}{all done rest:List (List Int)}(P:PartB n j N B all done rest)(p:Nat):Wl.cp p rest<=N - done.length:=by
 have:=Wl.cp_le_nzv p rest
 have:=P.cnt
 omega
theorem PartB.skip{n j N B:Nat}{all done rest others:List (List Int)}{lead:List Int}(P:PartB n j N B all done rest)(G:Wl.Gat n j rest lead others (Wl.gq N B done.length) (Wl.gr (Wl.cp j rest) (Wl.gq N B done.length)))(h:Tg.num lead j=0):PartB n (j+1) N B all done others:=by
 have g0:Wl.gr (Wl.cp j rest) (Wl.gq N B done.length)=Wl.gq N B done.length:=by
  rw [G.z0 h]; simp [Wl.gr]
 have bo:=G.bo
 rw [g0] at bo
 refine⟨P.part.skip (G.none h),bo,P.db,?_,by rw [G.cnt]; exact P.len,by have:=P.dl; omega⟩
 have:=G.nz
 have:=P.cnt
 rw [if_pos h] at *
 omega
theorem PartB.take{n j N B:Nat}{all done rest others:List (List Int)}{lead:List Int}(P:PartB n j N B all done rest)(G:Wl.Gat n j rest lead others (Wl.gq N B done.length) (Wl.gr (Wl.cp j rest) (Wl.gq N B done.length)))(h:Tg.num lead j≠0) :
  PartB n (j+1) N B all (done.map (Wl.clear j (upV lead j))++[upV lead j]) others:=by
 have T:=up_turned G.ll h
 have hcp:=P.cp j
 have nz:=G.nz
 rw [if_neg h] at nz
 have cn:=P.cnt
 have hN:1<=N - done.length:=by omega
 have hgr:Wl.gr (Wl.cp j rest) (Wl.gq N B done.length)<=Wl.gr (N - done.length) (Wl.gq N B done.length):=Wl.gr_mono _ hcp
 have bl:=(up_bd (p:=j) G.bl).mono hgr
 have hl:(done.map (Wl.clear j (upV lead j))++[upV lead j]).length=done.length+1:=by simp
 have hg:2*Wl.gq N B done.length+2<=Wl.gr (N - done.length) (Wl.gq N B done.length):=by
  have a:=Wl.gr_val (N - done.length) (Wl.gq N B done.length)
  have:2*(Wl.gq N B done.length+2)<=(N - done.length+1)*(Wl.gq N B done.length+2):=Nat.mul_le_mul_right _ (by omega)
  omega
 refine⟨P.part.take (G.some h) T,?_,?_,by rw [hl]; omega,by rw [G.cnt]; exact P.len,by rw [hl]; have:=P.dl; omega⟩
 ·rw [hl]
  exact G.bo.mono hgr
 ·rw [hl]
  show Wl.Bds (2*Wl.gr (N - done.length) (Wl.gq N B done.length)) _
  refine Wl.Bds.append ?_ (Wl.Bds.one (bl.mono (by omega)))
  intro v hv
  obtain⟨r,hr,rfl⟩:=List.mem_map.1 hv
  have b:=Wl.Bd.minus (Tg.num r j/Tg.num (upV lead j) j) (P.part.form.len r hr) T.len (P.db r hr) bl (t:=2*Wl.gq N B done.length) (by
   have:=natAbs_ediv (a:=Tg.num r j) T.pos (P.db r hr j)
   rwa [Int.fdiv_eq_ediv_of_nonneg _ (by have:=T.pos; omega)] at this)
  exact b.mono (by omega)
theorem ok_form{f fL fG fU:Addr}{fd fdL fdG fdU:FuncData}(hP:P.given.tree=none)(F:Fun K "form_of" "form_of" gp f fd)(T:Txt K mg)
  (GL:FnOk P w K mg base CX0 1 fL fdL ["vector","times","other"] eD) (kL:W.keepIn K (.ref fL)=true) (bL:Binds K fdL ["vector","times","other"] []) (mL:mg "less"=some (.ref fL))
  (GG:FnOk P w K mg base CX0 43 fG fdG ["vectors","n","place"] spGat) (kG:W.keepIn K (.ref fG)=true) (bG:Binds K fdG ["vectors","n","place"] []) (mG:mg "gathered"=some (.ref fG))
  (GU:FnOk P w K mg base CX0 1 fU fdU ["lead","place"] spUp) (kU:W.keepIn K (.ref fU)=true) (bU:Binds K fdU ["lead","place"] []) (mU:mg "upright"=some (.ref fU)) :
  FnOk P w K mg base CX0 44 f fd ["vectors","n"] iG:=by
 refine F.ok eZ (fun vs H Q E h=>?_) (fun cdv A outer s H vs Q E hr h=>?_)
 ·obtain⟨a,as,n,B,vecs,rfl,_⟩:=h
  rfl
 ·obtain⟨a,as,n,B,vecs,rfl,ha,hav0,L,hn,hN,hB,hfit,k⟩:=h
  have hr1:Room 1 _:=hr.mono (by decide)
  have hd:=Room.pyl hr (by decide)
  refine⟨_,aF (aZ (i:=2) eZ.nd rfl (Or.inl rfl) (bJ aE))
   (aF (aZ (i:=3) eZ.nd rfl (Or.inl rfl) (pv 0))
   (aF (fe PassesOwn.never rfl (d6 rfl T.range (aA (pv 1) aE)) (b8 (i:=4) eZ.nd rfl (Or.inr rfl))
    (aF (aZ (i:=5) eZ.nd rfl (Or.inl rfl) (aJ GG hr rfl mG kG bG .nil aS (aA (pv 3) (aA (pv 1) (aA (pv 4) aE)))))
    (aF (aZ (i:=3) eZ.nd rfl (Or.inl rfl) (bj (ixt K) (pv 5) aQ (fun _ _=>rfl)))
    (aK (cC (ad op_ne (bj (ixl K) (bj (ixt K) (pv 5) aQ (fun _ _=>rfl)) (pv 4) (fun _ _=>rfl)) aQ (ao _))
     (aF (aZ (i:=6) eZ.nd rfl (Or.inr rfl) (aJ GU hr1 rfl mU kU bU .nil aS (aA (bj (ixt K) (pv 5) aQ (fun _ _=>rfl)) (aA (pv 4) aE))))
     (aF (ps_setLc (i:=2) (own:=[("row",7)]) rfl eZ.nd rfl rfl (sw_true rfl rfl rfl rfl) (cD (pv 2)) blkForm
      (fun s H C cl fp=>b8 (i:=7) eZ.nd rfl (Or.inl rfl)) (fun s H C cl fp=>cU)
      (fun s H C cl fp=>aJ GL hr1 rfl mL kL bL .nil aS (aA (pv 7) (aA (af (eM hd hP) (bj (ixl K) (pv 7) (pv 4) (fun _ _=>rfl)) (bj (ixl K) (pv 6) (pv 4) (fun _ _=>rfl))) (aA (pv 6) aE)))))
     (aK (e7 (iM PySem.F.plainAttrs_list PySem.F.slot_list_append PySem.F.type_list_append fz (pv 2) (aA (pv 6) aE))))))
     bE)))))
   (aK (aV (pv 2))))),?_⟩
  refine⟨Nat.zero_le _,fun r0 hr0=>?_⟩
  have s1:Same H (upd H r0 (.lst [])):=Same.new hr0
  refine⟨_,rfl,_,rfl,_,rfl,by omega,by omega,for_range (lo:=0) (n:=((n:Int)).toNat) (fun i σ H'=>∃(r e:Addr)(rs es:List Addr)(done rest:List (List Int))(v4 v5 v6:Option L2.V),
   σ=[some (.ref a),some (.int n),some (.ref r),some (.ref e),v4,v5,v6,none]/\Same H H'/\(H' r=some (.lst (rs.map V.ref))/\aL H' rs done/\H r=none/\∀b∈rs,fY H as b)/\(H' e=some (.lst (es.map V.ref))/\aL H' es rest/\∀b∈es,fY H as b)/\PartB n i vecs.length B vecs done rest) ?_ ?_ ?_⟩
  ·refine⟨r0,a,[],as,[],vecs,none,none,none,rfl,s1,⟨aB,trivial,hr0,by simp⟩,⟨s1 _ _ ha,hav0.keep s1,fun b hb=>.inl hb⟩,⟨⟨Wl.Form.nil,by simp,L,by intro r _ i h; omega,by simpa using Wl.Same.refl⟩,hB,Wl.Bds.nil,by have:=Wl.nzv_le_len vecs; simp; exact this,rfl,by simp⟩⟩
  ·rintro i σ H' hi ⟨r,e,rs,es,done,rest,v4,v5,v6,rfl,hs,⟨hr',hrv,hrf,hra⟩,⟨he,hev,hea⟩,PB⟩
   have hi:i<n:=by simpa using hi
   have dl0:=PB.dl
   have g1:Wl.gq vecs.length B (done.length+1)<=Wl.gq vecs.length B n:=Wl.jV _ _ (by omega)
   have g0:Wl.gq vecs.length B done.length<=Wl.gq vecs.length B (done.length+1):=Wl.jV _ _ (by omega)
   have g2:Wl.gq vecs.length B (done.length+1)=Wl.gr (vecs.length - done.length) (Wl.gq vecs.length B done.length):=rfl
   have hcp:Wl.gr (Wl.cp i rest) (Wl.gq vecs.length B done.length)<=Wl.gq vecs.length B (done.length+1):=Wl.gr_mono _ (PB.cp i)
   have hcp1:Wl.gr (Wl.cp i rest+1) (Wl.gq vecs.length B done.length)=Wl.gr (Wl.cp i rest) (Wl.gq vecs.length B done.length)+Wl.gq vecs.length B done.length+2:=by
    rw [<- Wl.gr_step,Nat.max_eq_left (Wl.le_gr _ _)]; omega
   have hcnt:=PB.len
   refine⟨_,rfl,_,rfl,_,rfl,e,es,n,i,Wl.gq vecs.length B done.length,rest,by rw [Int.zero_add]; rfl,he,hev,PB.part.rlen,hi,hn,by omega,PB.rb,by rw [hcp1]; omega,fun H2 t x y ys lead others s2 ht hx hy hyv ax hyf hya G=>?_⟩
   have am:∀{z:Addr},fY H' es z->fY H as z:=fun{z} o=>by
    rcases o with h | h
    ·exact hea z h
    ·exact .inr (hs.free h)
   refine⟨_,rfl,t,_,_,_,rfl,rfl,SqT.of ht,rfl,?_⟩
   refine⟨_,rfl,t,_,_,_,rfl,rfl,SqT.of ht,rfl,_,rfl,x,_,_,_,rfl,rfl,SqL.of hx,ee (by rw [G.ll]; omega),rfl,_,rfl,?_⟩
   dsimp only
   by_cases h0:Tg.num lead i=0
   ·rw [if_neg (by rw [h0]; decide)]
    exact⟨r,y,rs,ys,done,others,_,_,_,rfl,hs.trans s2,⟨s2 _ _ hr',hrv.keep s2,hrf,hra⟩,⟨hy,hyv,fun b hb=>am (hya b hb)⟩,PB.skip G h0⟩
   ·rw [if_pos (by simpa using h0)]
    have TT:=up_turned G.ll h0
    have bl:=(up_bd (p:=i) G.bl).mono hcp
    refine⟨_,rfl,t,_,_,_,rfl,rfl,SqT.of ht,rfl,_,rfl,x,i,lead,by rw [Int.zero_add]; rfl,hx,by rw [G.ll]; omega,by rw [G.ll]; omega,fun H3 z s3 oz hz=>?_⟩
    have hr3:H3 r=some (.lst (rs.map V.ref)):=s3 _ _ (s2 _ _ hr')
    have hav:aL H3 rs done:=(hrv.keep s2).keep s3
    have az:fY H as z:=by
     rcases oz with e1 | e1
     ·rw [e1]; exact am ax
     ·exact .inr (hs.free (s2.free e1))
    refine⟨_,rfl,r,rfl,⟨_,SqL.of hr3⟩,fun D hD=>?_⟩
    refine c4 (K:=K) (a:=r) (xs:=rs.map V.ref) (fun k H'=>Same H3 H'/\∃bs:List Addr,H' D=some (.lst (bs.map V.ref))/\aL H' bs ((done.take k).map (Wl.clear i (upV lead i)))/\∀b∈bs,fY H as b) ⟨Same.new hD,[],aB,by simp [aL],by simp⟩ (fun k H' _ h=>SqL.of (h.1 _ _ hr3)) ?_ ?_
    ·rintro j y' H' hj ⟨hs3,bs,hD',hbs,hba⟩
     rw [List.getElem?_map] at hj
     obtain⟨b,hb,rfl⟩:=Option.map_eq_some_iff.1 hj
     obtain⟨row,hrow,hbv⟩:=hav.get hb
     have hrm:row∈done:=List.mem_of_getElem? hrow
     have lrow:=PB.part.form.len row hrm
     refine⟨rfl,?_⟩
     dsimp only [gH]
     rw [if_pos rfl]
     refine⟨_,rfl,_,rfl,_,rfl,b,_,_,_,rfl,rfl,SqL.of (hs3 _ _ hbv),ee (by omega),_,rfl,_,rfl,z,_,_,_,rfl,rfl,SqL.of (hs3 _ _ hz),ee (by rw [TT.len]; omega),_,_,rfl,rfl,by have:=TT.pos; omega,_,rfl,?_⟩
     refine⟨b,z,_,row,upV lead i,rfl,hs3 _ _ hbv,hs3 _ _ hz,by rw [lrow,TT.len],by omega,?_,fun H4 u hf4 s4 hu=>?_⟩
     ·intro c hc
      obtain⟨m,hm,rfl⟩:=List.mem_iff_getElem.1 hc
      have e1:(upV lead i)[m]=Tg.num (upV lead i) m:=by
       have:=dG hm
       rw [List.getElem?_eq_getElem hm] at this
       exact Option.some.inj this
      rw [e1]
      exact cu (natAbs_ediv TT.pos (PB.db row hrm i)) (bl m) (by omega)
     ·rw [less_clear (n:=n) TT.pos] at hu
      have hD4:H4 D=some (.lst (bs.map V.ref)):=s4 _ _ hD'
      have nu:Wl.clear i (upV lead i) row≠[]:=gN (Wl.d7 TT.len lrow) (by omega)
      have hj':j<done.length:=(List.getElem?_eq_some_iff.1 hrow).1
      refine⟨_,hD4,?_,?_,bs++[u],?_,?_,?_⟩
      ·rw [List.length_map,hbs.len,List.length_map,List.length_take]
       have:=PB.dl
       exact aq (by omega)
      ·intro c o e1
       rw [aO (aP e1 hD)]
       exact s4 _ _ (hs3 _ _ e1)
      ·rw [aB,List.map_append]; rfl
      ·rw [br hrow,List.map_append]
       refine aL.append ((hbs.keep s4).upd ?_ hD4) (aL.one (hu.upd nu hD4))
       intro v hv
       obtain⟨q,hq,rfl⟩:=List.mem_map.1 hv
       exact gN (Wl.d7 TT.len (PB.part.form.len q (List.mem_of_mem_take hq))) (by omega)
      ·intro d hd
       rcases List.mem_append.1 hd with h | h
       ·exact hba d h
       ·simp only [List.mem_cons,List.not_mem_nil,or_false] at h; rw [h]
        exact .inr (hs.free (s2.free (s3.free (hs3.free hf4))))
    ·rintro H' ⟨hs3,bs,hD',hbs,hba⟩
     rw [List.length_map,hav.len,List.take_length] at hbs
     have dl:=PB.dl
     refine⟨_,rfl,.inl ⟨rfl,_,SqL.of hD'⟩,_,rfl,D,_,_,rfl,rfl,hD',?_,?_⟩
     ·rw [List.length_map,hbs.len,List.length_map]; exact aq (by omega)
     ·have nl:upV lead i≠[]:=gN TT.len (by omega)
      have hz':aN H' z (upV lead i):=hs3 _ _ hz
      have sD:∀c o,H3 c=some o->(upd H' D (.lst (bs.map V.ref++[V.ref z]))) c=some o:=fun c o e1=>by
       rw [aO (aP e1 hD)]; exact hs3 _ _ e1
      refine⟨D,y,bs++[z],ys,_,others,_,_,_,rfl,fun c o e1=>sD c o (s3 _ _ (s2 _ _ (hs _ _ e1))),⟨?_,?_,hs.free (s2.free (s3.free hD)),?_⟩,⟨sD _ _ (s3 _ _ hy),(hyv.keep s3).keep sD,fun b hb=>am (hya b hb)⟩,PB.take G h0⟩
      ·rw [aB,List.map_append]; rfl
      ·refine aL.append (hbs.upd ?_ hD') (aL.one (hz'.upd nl hD'))
       intro v hv
       obtain⟨q,hq,rfl⟩:=List.mem_map.1 hv
       exact gN (Wl.d7 TT.len (PB.part.form.len q hq)) (by omega)
      ·intro d hd
       rcases List.mem_append.1 hd with h | h
       ·exact hba d h
       ·simp only [List.mem_cons,List.not_mem_nil,or_false] at h; rw [h]; exact az
  ·rintro σ H' ⟨r,e,rs,es,done,rest,v4,v5,v6,rfl,hs,⟨hr',hrv,hrf,hra⟩,_,PB⟩
   have PB:PartB n n vecs.length B vecs done rest:=PB
   refine⟨_,rfl,?_⟩
   refine k H' r rs hs hr' ?_ hrf hra
   rw [Wl.form_eq L PB.part.form PB.part.last]
   exact hrv
abbrev j2:Stmt:=top 6
theorem scPiv:FnScope ["row","place"] ["row"] (aC j2):=⟨rfl,rfl,rfl,by decide +kernel,rfl,by decide +kernel,by decide +kernel⟩
def jQ:Sp:=fun vs H Q _=>∃(a:Addr)(v:List Int),vs=[.ref a]/\aN H a v/\Tg.num v (Tg.lead v)≠0/\Q (.int (Tg.lead v)) H
theorem ok_piv{f:Addr}{fd:FuncData}(F:Fun K "pivot_place" "pivot_place" j2 f fd):FnOk P w K mg base CX0 1 f fd ["row"] jQ:=by
 refine F.ok scPiv (fun vs H Q E h=>?_) (fun cdv A outer s H vs Q E hr h=>?_)
 ·obtain⟨a,v,rfl,_⟩:=h
  rfl
 ·obtain⟨a,v,rfl,ha,hv,k⟩:=h
  have hlt:=Wl.lead_lt_of_ne hv
  refine⟨_,aF (aZ (i:=1) scPiv.nd rfl (Or.inl rfl) aQ)
   (aF (fc PassesOwn.never (ad cV (bj (ixl K) (pv 0) (pv 1) (fun _ _=>rfl)) aQ (ao _))
    (aK (aZ (i:=1) scPiv.nd rfl (Or.inl rfl) (af cq (pv 1) aQ))))
   (aK (aV (pv 1)))),?_⟩
  refine⟨fun m σ H'=>H'=H/\∃i:Nat,σ=[some (.ref a),some (.int i)]/\i<=Tg.lead v/\m=Tg.lead v - i,⟨_,rfl,0,rfl,Nat.zero_le _,rfl⟩,?_⟩
  rintro m σ H' ⟨rfl,i,rfl,hi,rfl⟩
  refine⟨_,rfl,_,rfl,a,_,_,_,rfl,rfl,SqL.of ha,eB (by omega),rfl,_,rfl,?_⟩
  dsimp only
  by_cases h0:Tg.num v i=0
  ·rw [if_pos (by rw [h0]; decide)]
   have hi2:i<Tg.lead v:=by
    rcases Nat.lt_or_ge i (Tg.lead v) with h | h
    ·exact h
    ·have e:i=Tg.lead v:=by omega
     rw [e] at h0; exact absurd h0 hv
   refine⟨fun σ' H''=>H''=H'/\σ'=[some (.ref a),some (.int ((i+1:Nat):Int))],?_,?_⟩
   ·rintro σ' H'' ⟨rfl,rfl⟩
    exact⟨_,by omega,rfl,i+1,rfl,by omega,rfl⟩
   ·exact⟨_,rfl,_,_,rfl,rfl,rfl,rfl⟩
  ·rw [if_neg (by simpa using h0)]
   have e:i=Tg.lead v:=by
    rcases Nat.lt_or_ge i (Tg.lead v) with h | h
    ·exact absurd (Wl.a5 h) h0
    ·omega
   subst e
   exact⟨_,rfl,k⟩
abbrev sDiv:Stmt:=top 7
theorem iH:FnScope ["vector","rows","times","rest","row","place","often"] ["vector","rows"] (aC sDiv):=⟨rfl,rfl,rfl,by decide +kernel,rfl,by decide +kernel,by decide +kernel⟩
def jR:Sp:=fun vs H Q _=>∃(a b:Addr)(n B M:Nat)(v:List Int)(h:List (List Int)),vs=[.ref a,.ref b]/\aN H a v/\ak H b h/\Wl.Ech n h/\v.length=n/\n<1000/\h.length<1000/\Wl.Bd B v/\Wl.Bds M h/\B+h.length*(M+1)+M+1<=134217728/\
 ∀(H':Hp)(t x y:Addr),Same H H'->H' t=some (.tup [.ref x,.ref y])->aN H' x (Tg.divided h v).1->aN H' y (Tg.divided h v).2->Q (.ref t) H'
theorem ok_div{f fL fV:Addr}{fd fdL fdV:FuncData}(hP:P.given.tree=none)(F:Fun K "divided" "divided" sDiv f fd)
  (GL:FnOk P w K mg base CX0 1 fL fdL ["vector","times","other"] eD) (kL:W.keepIn K (.ref fL)=true) (bL:Binds K fdL ["vector","times","other"] []) (mL:mg "less"=some (.ref fL))
  (GV:FnOk P w K mg base CX0 1 fV fdV ["row"] jQ) (kV:W.keepIn K (.ref fV)=true) (bV:Binds K fdV ["row"] []) (mV:mg "pivot_place"=some (.ref fV)) :
  FnOk P w K mg base CX0 42 f fd ["vector","rows"] jR:=by
 refine F.ok iH (fun vs H Q E h=>?_) (fun cdv A outer s H vs Q E hr h=>?_)
 ·obtain⟨a,b,n,B,M,v,h,rfl,_⟩:=h
  rfl
 ·obtain⟨a,b,n,B,M,v,h,rfl,ha,⟨as,hb,hav⟩,EH,lv,hn,hh,bv,bh,hfit,k⟩:=h
  have hr1:Room 1 _:=hr.mono (by decide)
  have hd:=Room.pyl hr (by decide)
  refine⟨_,aF (aZ (i:=2) iH.nd rfl (Or.inl rfl) (bJ aE))
   (aF (aZ (i:=3) iH.nd rfl (Or.inl rfl) (pv 0))
   (aF (fe PassesOwn.never rfl (cD (pv 1)) (b8 (i:=4) iH.nd rfl (Or.inl rfl))
    (aF (aZ (i:=5) iH.nd rfl (Or.inl rfl) (aJ GV hr1 rfl mV kV bV .nil aS (aA (pv 4) aE)))
    (aF (aZ (i:=6) iH.nd rfl (Or.inl rfl) (af (eM hd hP) (bj (ixl K) (pv 3) (pv 5) (fun _ _=>rfl)) (bj (ixl K) (pv 4) (pv 5) (fun _ _=>rfl))))
    (aF (e7 (iM PySem.F.plainAttrs_list PySem.F.slot_list_append PySem.F.type_list_append fz (pv 2) (aA (pv 6) aE)))
    (aK (aZ (i:=3) iH.nd rfl (Or.inl rfl) (aJ GL hr1 rfl mL kL bL .nil aS (aA (pv 3) (aA (pv 6) (aA (pv 4) aE))))))))))
   (aK (aV (pe_tup (aA (pv 2) (aA (pv 3) aE))))))),?_⟩
  refine⟨Nat.zero_le _,fun q hq=>?_⟩
  have s1:Same H (upd H q (.lst [])):=Same.new hq
  refine⟨_,rfl,_,rfl,b,rfl,⟨_,SqL.of (s1 _ _ hb)⟩,fj (K:=K) (a:=b) (xs:=as.map V.ref) (fun i σ H'=>∃(y:Addr)(ts w:List Int)(v4 v5 v6:Option L2.V),
   σ=[some (.ref a),some (.ref b),some (.ref q),some (.ref y),v4,v5,v6]/\Same H H'/\aN H' q ts/\aN H' y w/\y≠q/\ts.length=i/\w.length=n/\Wl.Bd (B+i*(M+1)) w/\
    Tg.divided h v=(ts++(Tg.divided (h.drop i) w).1,(Tg.divided (h.drop i) w).2)) ?_ ?_ ?_ ?_⟩
  ·refine⟨a,[],v,none,none,none,rfl,s1,aB,ha.same s1,aP ha hq,rfl,lv,bv.mono (by omega),?_⟩
   simp
  ·rintro i σ H' hi ⟨y,ts,w,v4,v5,v6,rfl,hs,_⟩
   exact SqL.of (hs _ _ hb)
  ·rintro i y' σ H' hi ⟨y,ts,w,v4,v5,v6,rfl,hs,hq',hy,nyq,lts,lw,bw,hdv⟩
   rw [List.getElem?_map] at hi
   obtain⟨c,hc,rfl⟩:=Option.map_eq_some_iff.1 hi
   obtain⟨row,hrow,hcv⟩:=hav.get hc
   have hrm:row∈h:=List.mem_of_getElem? hrow
   have hil:i<h.length:=(List.getElem?_eq_some_iff.1 hrow).1
   have lrow:=EH.len row hrm
   have pos:=EH.pos row hrm
   have ll:=EH.lead_lt hrm
   have hcv':aN H' c row:=hs _ _ hcv
   have hmul:(i+1)*(M+1)<=h.length*(M+1):=Nat.mul_le_mul_right _ hil
   have hmul2:(i+1)*(M+1)=i*(M+1)+(M+1):=by grind
   have hqq:=natAbs_ediv (a:=Tg.num w (Tg.lead row)) pos (bw (Tg.lead row))
   refine⟨_,rfl,c,row,rfl,hcv',by omega,?_⟩
   refine⟨_,rfl,_,rfl,y,_,_,_,rfl,rfl,SqL.of hy,eB (by omega),_,rfl,_,rfl,c,_,_,_,rfl,rfl,SqL.of hcv',eB (by omega),_,_,rfl,rfl,by omega,?_⟩
   refine⟨_,rfl,.inl ⟨rfl,_,SqL.of hq'⟩,_,rfl,q,_,_,rfl,rfl,hq',by rw [List.length_map]; exact aq (by omega),?_⟩
   have sq:∀d o,H d=some o->(upd H' q (.lst (ts.map V.int++[V.int ((Tg.num w (Tg.lead row)).fdiv (Tg.num row (Tg.lead row)))]))) d=some o:=fun d o e=>by
    rw [aO (aP e hq)]; exact hs _ _ e
   have hy2:aN (upd H' q (.lst (ts.map V.int++[V.int ((Tg.num w (Tg.lead row)).fdiv (Tg.num row (Tg.lead row)))]))) y w:=by
    unfold aN; rw [aO nyq]; exact hy
   have hc2:aN (upd H' q (.lst (ts.map V.int++[V.int ((Tg.num w (Tg.lead row)).fdiv (Tg.num row (Tg.lead row)))]))) c row:=sq _ _ hcv
   refine⟨_,rfl,_,rfl,_,rfl,y,c,_,w,row,rfl,hy2,hc2,by omega,by omega,?_,fun H2 z hf2 s2 hz=>?_⟩
   ·intro u hu
    obtain⟨m,hm,rfl⟩:=List.mem_iff_getElem.1 hu
    have e1:row[m]=Tg.num row m:=by
     have:=dG hm
     rw [List.getElem?_eq_getElem hm] at this
     exact Option.some.inj this
    rw [e1]
    exact cu hqq (bh row hrm m) (by omega)
   ·refine⟨z,ts++[(Tg.num w (Tg.lead row)).fdiv (Tg.num row (Tg.lead row))],_,_,_,_,rfl,fun d o e=>s2 _ _ (sq _ _ e),?_,hz,(fun e=>by rw [e,aB] at hf2; cases hf2),by simp [lts],by rw [lessV_len (by omega)]; exact lw,?_,?_⟩
    ·refine s2 _ _ ?_
     rw [aB,List.map_append]; rfl
    ·have:=Wl.Bd.minus ((Tg.num w (Tg.lead row)).fdiv (Tg.num row (Tg.lead row))) lw lrow bw (bh row hrm) hqq
     exact this.mono (by omega)
    ·rw [hdv]
     have ed:h.drop i=row::h.drop (i+1):=by
      rw [List.drop_eq_getElem_cons hil]
      congr 1
      have:=List.getElem?_eq_getElem hil
      rw [hrow] at this
      exact(Option.some.inj this).symm
     rw [ed,Tg.divided,Int.fdiv_eq_ediv_of_nonneg _ (by omega)]
     show _=(ts++[_]++(Tg.divided _ (Tg.minus w (Tg.times _ row))).1,(Tg.divided _ (Tg.minus w (Tg.times _ row))).2)
     rw [List.append_assoc]
     rfl
  ·rintro σ H' ⟨y,ts,w,v4,v5,v6,rfl,hs,hq',hy,nyq,lts,lw,bw,hdv⟩
   rw [List.length_map,hav.len,List.drop_length] at hdv
   refine⟨_,rfl,_,rfl,by show 2<=sizeLine; decide,fun t ht=>?_⟩
   have s5:Same H' (upd H' t (.tup [.ref q,.ref y])):=Same.new ht
   have e1:(Tg.divided h v).1=ts:=by rw [hdv]; simp [Tg.divided]
   have e2:(Tg.divided h v).2=w:=by rw [hdv]; simp [Tg.divided]
   exact k _ t q y (hs.trans s5) aB (by rw [e1]; exact hq'.same s5) (by rw [e2]; exact hy.same s5)
theorem truth_ints{prog:Program}{w:World}{A:Around}{ns:List Int}{its:List Value}(r:ay (ns.map V.int) its) :
  TruthOf prog w A (fun i v=>its.toArray[i]? =some v) (fun i=>ns.getD i 0 != 0):=fun i v s Q E hv hq=>by
 have hv':its[i]? =some v:=by simpa using hv
 have hl:=r.length
 have hi:i<(ns.map V.int).length:=by rw [hl]; exact(List.getElem?_eq_some_iff.1 hv').1
 obtain⟨u,hu,ru⟩:=r.get (List.getElem?_eq_getElem hi)
 rw [hv'] at hu
 have e:=Option.some.inj hu
 subst e
 rw [List.getElem_map] at ru
 obtain⟨t,rfl⟩:=ru
 refine PyProof.Rows.truthy_int ?_
 have hg:ns.getD i 0=ns[i]'(by simpa using hi):=by
  rw [List.getD_eq_getElem?_getD,List.getElem?_eq_getElem (by simpa using hi)]; rfl
 have hq':Q (ns.getD i 0 != 0) s:=hq
 rw [hg] at hq'
 exact hq'
theorem any_rangeI:∀ns:List Int,(List.range ns.length).any (fun i=>ns.getD i 0 != 0)= !Tg.isZero ns
 | []=>rfl
 | b::bs=>by
   have ih:=any_rangeI bs
   rw [List.length_cons,List.range_succ_eq_map,List.any_cons,List.any_map]
   have e:((fun i=>(b::bs).getD i 0 != 0) ∘ Nat.succ)=fun i=>bs.getD i 0 != 0:=by
    funext i; rfl
   rw [e,ih]
   simp only [Tg.isZero,List.all_cons]
   have e2:((b::bs).getD 0 0 != 0)= !(b == 0):=rfl
   rw [e2]
   cases (b == 0) <;> simp
section
variable{X:Cx}
def rAnyI(K:W.Frag):List V->Hp->VK->Prop:=fun vs H Q=>∃(a:Addr)(ns:List Int),vs=[V.ref a]/\SqL K H a (ns.map V.int)/\Q (.bl (!Tg.isZero ns)) H
theorem cr_anyI(hc:X.calm=true):ft X (.builtin "any") (rAnyI X.K):=by
 intro pins s σ H vs us Q I r h
 obtain⟨a,ns,rfl,hs,q⟩:=h
 obtain⟨its,rv,hl,_⟩:=I.list hs
 rw [ay.ref1 r]
 have hlen:=rv.length
 rw [List.length_map] at hlen
 refine call_any_walk (iter_any hl.isList fun s₂ e2 st hne=>?_)
 subst e2
 refine⟨_,_,_,_,_,_,_,rfl,Walks.list (A:=X.A.in1) (I.ok.hd hc) _ a hne its.toArray,st,truth_ints rv,fun h' tk hk=>?_⟩
 refine⟨.bl _,H,I.kept fun b o eo=>hk b o (fun hmem=>?_) (Heap.get?_push_of_some _ eo),?_,q⟩
 ·rcases List.mem_cons.mp hmem with e1 | hmem
  ·exact absurd (e1 ▸Heap.lt_size eo) (Nat.lt_irrefl _)
  ·cases hmem
 ·show Value.bool _=Value.bool _
  rw [<- any_rangeI,List.size_toArray,hlen]
theorem anyI(K:W.Frag)(hc:X.calm=true:=by rfl)(h:X.K=K:=by rfl):ft X (.builtin "any") (rAnyI K):=h ▸cr_anyI hc
end
abbrev sAll:Stmt:=top 8
theorem scAll:FnScope ["vectors","rows","vector"] ["vectors","rows"] (aC sAll):=⟨rfl,rfl,rfl,by decide +kernel,rfl,by decide +kernel,by decide +kernel⟩
def spAll:Sp:=fun vs H Q _=>∃(a b:Addr)(n B M:Nat)(l h:List (List Int)),vs=[.ref a,.ref b]/\ak H a l/\ak H b h/\Wl.Ech n h/\Wl.Len n l/\n<1000/\h.length<1000/\Wl.Bds B l/\Wl.Bds M h/\B+h.length*(M+1)+M+1<=134217728/\
 ∀(H':Hp),Same H H'->Q (.bl (l.all (Tg.has h))) H'
theorem ok_all{f fD:Addr}{fd fdD:FuncData}(F:Fun K "all_in" "all_in" sAll f fd)(anyN:mg "any"=none)
  (GD:FnOk P w K mg base CX0 42 fD fdD ["vector","rows"] jR) (kD:W.keepIn K (.ref fD)=true) (bD:Binds K fdD ["vector","rows"] []) (mD:mg "divided"=some (.ref fD)) :
  FnOk P w K mg base CX0 43 f fd ["vectors","rows"] spAll:=by
 refine F.ok scAll (fun vs H Q E h=>?_) (fun cdv A outer s H vs Q E hr h=>?_)
 ·obtain⟨a,b,n,B,M,l,h,rfl,_⟩:=h
  rfl
 ·obtain⟨a,b,n,B,M,l,h,rfl,⟨as,ha,hav⟩,hb,EH,L,hn,hh,bl,bh,hfit,k⟩:=h
  refine⟨_,aF (fe PassesOwn.never rfl (cD (pv 0)) (b8 (i:=2) scAll.nd rfl (Or.inl rfl))
    (aK (cC (gg (ag (anyI K) (by rfl) anyN PyProof.Rows.boot_any (aA (bj (ixt K) (aJ GD hr rfl mD kD bD .nil aS (aA (pv 2) (aA (pv 1) aE))) aQ (fun _ _=>rfl)) aE)))
     (aK (aV pe_bl)) bE)))
   (aK (aV pe_bl)),?_⟩
  refine⟨_,rfl,a,rfl,⟨_,SqL.of ha⟩,fj (K:=K) (a:=a) (xs:=as.map V.ref) (fun i σ H'=>∃v2:Option L2.V,σ=[some (.ref a),some (.ref b),v2]/\Same H H'/\(l.take i).all (Tg.has h)=true) ?_ ?_ ?_ ?_⟩
  ·exact⟨none,rfl,Same.refl H,by simp⟩
  ·rintro i σ H' hi ⟨v2,rfl,hs,_⟩
   exact SqL.of (hs _ _ ha)
  ·rintro i y σ H' hi ⟨v2,rfl,hs,hall⟩
   rw [List.getElem?_map] at hi
   obtain⟨c,hc,rfl⟩:=Option.map_eq_some_iff.1 hi
   obtain⟨v,hv,hcv⟩:=hav.get hc
   have hvm:v∈l:=List.mem_of_getElem? hv
   refine⟨_,rfl,_,rfl,c,b,n,B,M,v,h,rfl,hs _ _ hcv,hb.keep hs,EH,L v hvm,hn,hh,bl v hvm,bh,hfit,fun H2 t x y s2 ht hx hy=>?_⟩
   refine⟨t,_,_,_,rfl,rfl,SqT.of ht,rfl,y,_,rfl,SqL.of hy,_,rfl,?_⟩
   dsimp only
   cases e:Tg.has h v with
   | true=>
     have e':Tg.isZero (Tg.divided h v).2=true:=e
     rw [e',if_neg (by decide)]
     refine⟨_,rfl,hs.trans s2,?_⟩
     rw [br hv,List.all_append,hall]
     simp [e]
   | false=>
     have e':Tg.isZero (Tg.divided h v).2=false:=e
     rw [e',if_pos (by decide)]
     have:l.all (Tg.has h)=false:=by
      rw [List.all_eq_false]
      exact⟨v,hvm,by simp [e]⟩
     have q:=k H2 (hs.trans s2)
     rw [this] at q
     exact q
  ·rintro σ H' ⟨v2,rfl,hs,hall⟩
   rw [List.length_map,hav.len,List.take_length] at hall
   have q:=k H' hs
   rw [hall] at q
   exact q
abbrev gn:Stmt:=top 9
def g6(s:Stmt):Scope:=match s with
 | .Return (some (.Call _ [.ListComp _ _ sc _] _ _)) _=>sc
 | _=>{kind:=.function,names:=[],isGenerator:=false,isCoroutine:=false}
theorem scProd:FnScope ["first","second","place"] ["first","second"] (aC gn):=⟨rfl,rfl,rfl,by decide +kernel,rfl,by decide +kernel,by decide +kernel⟩
theorem blkProd:BlkOk ["first","second","place"] (aC gn) (g6 (cQ gn 0)) [("place",2)]:=bq (by decide +kernel)
def spProd:Sp:=fun vs H Q _=>∃(a b:Addr)(v w:List Int),vs=[.ref a,.ref b]/\aN H a v/\aN H b w/\v.length=w.length/\v.length<1000/\(∀x∈v,∀y∈w,IntMulOk x y)/\
 ∀(H':Hp),Same H H'->Q (.int (Tg.dot v w)) H'
def iN(v w:List Int):List Int:=(v.zip w).map fun x=>x.1*x.2
theorem mulV_len{v w:List Int}(h:v.length=w.length):(iN v w).length=v.length:=by simp [iN,h]
theorem mulV_num{v w:List Int}(h:v.length=w.length){i:Nat}(hi:i<v.length):Tg.num (iN v w) i=Tg.num v i*Tg.num w i:=by
 have hw:i<w.length:=by omega
 have e:(v.zip w)[i]? =some (v[i],w[i]):=by
  rw [List.getElem?_eq_getElem (by simp; omega),List.getElem_zip]
 simp only [Tg.num,iN,List.getD_eq_getElem?_getD,List.getElem?_map,e,List.getElem?_eq_getElem hi,List.getElem?_eq_getElem hw]
 rfl
theorem mulV_sum:∀(v w:List Int),(iN v w).sum=Tg.dot v w
 | [],w=>by simp [iN,Wl.dH]
 | x::v,[]=>by simp [iN,Wl.cP]
 | x::v,y::w=>by
   rw [Wl.b9,<- mulV_sum v w]
   simp [iN]
theorem sumK{X:Cx}(K:W.Frag)(hc:X.calm=true:=by rfl)(h:X.K=K:=by rfl):ft X (.builtin "sum") (rSum K):=h ▸cr_sum hc
theorem ok_prod{f:Addr}{fd:FuncData}(F:Fun K "product" "product" gn f fd)(T:Txt K mg)(sumN:mg "sum"=none):FnOk P w K mg base CX0 1 f fd ["first","second"] spProd:=by
 refine F.ok scProd (fun vs H Q E h=>?_) (fun cdv A outer s H vs Q E hr h=>?_)
 ·obtain⟨a,b,v,w,rfl,_⟩:=h
  rfl
 ·obtain⟨a,b,v,w,rfl,ha,hb,hl,hz,hm,k⟩:=h
  refine⟨_,aK (aV (ag (sumK K) (by rfl) sumN PyProof.Rows.boot_sum (aA (dN (own:=[("place",2)]) rfl scProd.nd (d6 rfl T.range (aA (ag a8 (by rfl) T.len PySem.boot_len (aA (pv 0) aE)) aE)) blkProd
   (fun s H C cl fp=>b8 (i:=2) scProd.nd rfl (Or.inl rfl)) (fun s H C cl fp=>cU)
   (fun s H C cl fp=>af ci (bj (ixl K) (pv 0) (pv 2) (fun _ _=>rfl)) (bj (ixl K) (pv 1) (pv 2) (fun _ _=>rfl)))) aE))),?_⟩
  refine⟨_,rfl,a,_,rfl,.inl (SqL.of ha),_,rfl,by rw [List.length_map]; omega,by rw [List.length_map]; omega,fun D hD=>?_⟩
  have hlen:(v.map V.int).length=v.length:=List.length_map _
  refine gX (n:=(v.map V.int).length) (fun i H'=>Same H H'/\aN H' D ((iN v w).take i)) ⟨Same.new hD,aB⟩ ?_ ?_
  ·rintro i H' hi ⟨hs,hv⟩
   rw [hlen] at hi
   refine⟨rfl,?_⟩
   dsimp only [gH]
   rw [if_pos rfl]
   refine⟨_,rfl,_,rfl,a,_,_,_,rfl,rfl,SqL.of (hs _ _ ha),ee hi,_,rfl,_,rfl,b,_,_,_,rfl,rfl,SqL.of (hs _ _ hb),ee (by omega),_,_,rfl,rfl,hm _ (num_mem hi) _ (num_mem (by omega)),_,hv,?_,?_⟩
   ·rw [List.length_map,List.length_take]; exact aq (by omega)
   ·refine⟨fun c o e=>?_,?_⟩
    ·rw [aO (aP e hD)]; exact hs c o e
    ·unfold aN
     rw [aB,gQ (l:=iN v w) (i:=i) (by rw [mulV_len hl]; exact hi),List.map_append,mulV_num hl hi]
     rfl
  ·rintro H' ⟨hs,hv⟩
   rw [hlen,<- mulV_len hl,List.take_length] at hv
   refine⟨D,iN v w,rfl,SqL.of hv,?_⟩
   rw [mulV_sum]
   exact k H' hs
abbrev sWo:Stmt:=top 10
theorem scWo:FnScope ["matrix","column","row"] ["matrix","column"] (aC sWo):=⟨rfl,rfl,rfl,by decide +kernel,rfl,by decide +kernel,by decide +kernel⟩
theorem blkWo:BlkOk ["matrix","column","row"] (aC sWo) (dF (cQ sWo 0)) [("row",2)]:=bq (by decide +kernel)
def spWo:Sp:=fun vs H Q _=>∃(a:Addr)(n c:Nat)(M:List (List Int)),vs=[.ref a,.int c]/\ak H a M/\M.length=n+1/\Wl.Len (n+1) M/\c<n+1/\n<100/\
 ∀(H':Hp)(r:Addr),Same H H'->ak H' r (Wl.cut M c)->Q (.ref r) H'
theorem hU(n d k:Nat):HT.sIx n d (some (k:Int))=min k n:=by
 simp only [HT.sIx]
 rw [if_neg (by omega)]
 simp
theorem cut_lo(l:List L2.V)(c:Nat):cH l none (some (c:Int))=l.take c:=by
 unfold cH
 rw [hU,HT.sIx_none,List.drop_zero]
 simp
theorem ir(l:List L2.V)(c:Nat):cH l (some (c:Int)) none=l.drop c:=by
 unfold cH
 rw [hU,HT.sIx_none]
 rcases Nat.le_total c l.length with h | h
 ·rw [Nat.min_eq_left h,List.take_of_length_le (by simp)]
 ·rw [Nat.min_eq_right h,List.drop_length,List.drop_of_length_le h]; simp
theorem sll(K:W.Frag){X:Cx}(h:X.K=K:=by rfl):SlR X (rSlL K):=h ▸sl_list
theorem aL.updN{H:Hp}{q:Addr}{o:HO}{bs:List Addr}{rs:List (List Int)}(h:aL H bs rs)(hq:∀b∈bs,b≠q):aL (L2.upd H q o) bs rs:=
 h.same fun b hb u e=>by rw [aO (hq b hb)]; exact e
theorem aL.drop{H:Hp}:∀{as:List Addr}{rs:List (List Int)}(i:Nat),aL H as rs->aL H (as.drop i) (rs.drop i)
 | as,rs,0,h=>h
 | [],[],i+1,_=>by simp [aL]
 | a::as,r::rs,i+1,h=>aL.drop i h.2
 | [],_::_,_+1,h=>h.elim
 | _::_,[],_+1,h=>h.elim
theorem ok_wo{f:Addr}{fd:FuncData}(F:Fun K "without" "without" sWo f fd):FnOk P w K mg base CX0 1 f fd ["matrix","column"] spWo:=by
 refine F.ok scWo (fun vs H Q E h=>?_) (fun cdv A outer s H vs Q E hr h=>?_)
 ·obtain⟨a,n,c,M,rfl,_⟩:=h
  rfl
 ·obtain⟨a,n,c,M,rfl,⟨as,ha,hav⟩,hM,L,hc,hn,k⟩:=h
  have hlen:=hav.len
  refine⟨_,aK (aV (dN (own:=[("row",2)]) rfl scWo.nd (cD (cE (sll K) (pv 0) (cJ aQ) cg)) blkWo
   (fun s H C cl fp=>b8 (i:=2) scWo.nd rfl (Or.inl rfl)) (fun s H C cl fp=>cU)
   (fun s H C cl fp=>af cR (cE (sll K) (pv 2) cg (cJ (pv 1))) (cE (sll K) (pv 2) (cJ (af cq (pv 1) aQ)) cg)))),?_⟩
  refine⟨_,rfl,_,rfl,a,_,rfl,SqL.of ha,fun l hl=>?_⟩
  have s1:Same H (upd H l (.lst (cH (as.map V.ref) (some 1) none))):=Same.new hl
  have ecut:cH (as.map V.ref) (some 1) none=(as.drop 1).map V.ref:=by
   have:=ir (as.map V.ref) 1
   rw [<- List.map_drop] at this
   exact this
  refine⟨l,rfl,⟨_,SqL.of aB⟩,fun D hD=>?_⟩
  refine c4 (K:=K) (a:=l) (xs:=(as.drop 1).map V.ref) (fun i H'=>Same (upd H l (.lst (cH (as.map V.ref) (some 1) none))) H'/\∃bs:List Addr,H' D=some (.lst (bs.map V.ref))/\(∀b∈bs,b≠D)/\aL H' bs ((Wl.cut M c).take i)) ⟨Same.new hD,[],aB,by simp,by simp [aL]⟩ ?_ ?_ ?_
  ·rintro i H' hi ⟨hs,_⟩
   refine SqL.of (hs _ _ ?_)
   rw [aB,ecut]
  ·rintro i y H' hi ⟨hs,bs,hD',hbD,hbs⟩
   rw [List.getElem?_map] at hi
   obtain⟨b,hb,rfl⟩:=Option.map_eq_some_iff.1 hi
   obtain⟨row,hrow,hbv⟩:=((hav.drop 1).keep (s1.trans hs)).get hb
   have hrm:row∈M:=List.mem_of_mem_drop (List.mem_of_getElem? hrow)
   have lrow:=L row hrm
   refine⟨rfl,?_⟩
   dsimp only [gH]
   rw [if_pos rfl]
   refine⟨_,rfl,_,rfl,_,rfl,b,_,rfl,SqL.of hbv,fun p1 hp1=>?_⟩
   have t1:Same H' (upd H' p1 (.lst (cH (row.map V.int) none (some (c:Int))))):=Same.new hp1
   refine⟨_,rfl,_,rfl,_,_,rfl,rfl,_,rfl,b,_,rfl,SqL.of (t1 _ _ hbv),fun p2 hp2=>?_⟩
   have t2:=t1.trans (Same.new (o:=.lst (cH (row.map V.int) (some ((c:Int)+1)) none)) hp2)
   have ne12:p1≠p2:=aP aB hp2
   refine⟨p1,p2,cH (row.map V.int) none (some (c:Int)),cH (row.map V.int) (some ((c:Int)+1)) none,rfl,rfl,?_,aB,?_,fun p3 hp3=>?_⟩
   ·rw [aO ne12,aB]
   ·have h1:=cutV_length (row.map V.int) none (some (c:Int))
    have h2:=cutV_length (row.map V.int) (some ((c:Int)+1)) none
    rw [List.length_map] at h1 h2
    have:(1000:Nat)<sizeLine:=aq (by omega)
    omega
   ·have t3:=t2.trans (Same.new (o:=.lst (cH (row.map V.int) none (some (c:Int))++cH (row.map V.int) (some ((c:Int)+1)) none)) hp3)
    have hD3:=t3 _ _ hD'
    have n3D:p3≠D:=fun e=>by rw [e] at hp3; rw [t2 _ _ hD'] at hp3; cases hp3
    have hi':i<(Wl.cut M c).length:=by
     have:=(List.getElem?_eq_some_iff.1 hrow).1
     simp [Wl.cut] at this ⊢; omega
    refine⟨_,hD3,?_,?_,bs++[p3],?_,?_,?_⟩
    ·rw [List.length_map,hbs.len,List.length_take,Wl.iD hM]
     exact aq (by omega)
    ·intro d o e
     have:d≠D:=aP e hD
     rw [aO this]
     exact t3 _ _ (hs _ _ e)
    ·rw [aB,List.map_append]; rfl
    ·intro d hd
     rcases List.mem_append.1 hd with h | h
     ·exact hbD d h
     ·simp only [List.mem_cons,List.not_mem_nil,or_false] at h; rw [h]; exact n3D
    ·have ecr:(Wl.cut M c)[i]? =some (row.take c++row.drop (c+1)):=by
      unfold Wl.cut
      rw [List.getElem?_map,hrow]; rfl
     rw [br ecr]
     refine aL.append ((hbs.keep t3).updN hbD) (aL.one ?_)
     unfold aN
     rw [aO n3D,aB,cut_lo,show((c:Int)+1)=((c+1:Nat):Int) by omega,ir,List.map_append,List.map_take,List.map_drop]
  ·rintro H' ⟨hs,bs,hD',hbD,hbs⟩
   have e:((as.drop 1).map V.ref).length=(Wl.cut M c).length:=by
    rw [List.length_map,List.length_drop,hlen,Wl.iD hM,hM]; omega
   rw [e,List.take_length] at hbs
   exact k H' D (s1.trans hs) ⟨bs,hD',hbs⟩
abbrev sDet:Stmt:=top 11
theorem iI:FnScope ["matrix","total","sign","column"] ["matrix"] (aC sDet):=⟨rfl,rfl,rfl,by decide +kernel,rfl,by decide +kernel,by decide +kernel⟩
def spDet(n:Nat):Sp:=fun vs H Q _=>∃(a:Addr)(B:Nat)(M:List (List Int)),vs=[.ref a]/\ak H a M/\M.length=n/\Wl.Len n M/\n<100/\Wl.Bds B M/\B+1+Wl.db B n<=134217728/\
 ∀(H':Hp),Same H H'->Q (.int (Tg.det n (Wl.mat M))) H'
theorem mat_bd{B n:Nat}{M:List (List Int)}(hM:M.length=n)(b:Wl.Bds B M)(i j:Nat):(Wl.mat M i j).natAbs<2^B:=by
 unfold Wl.mat
 rw [List.getD_eq_getElem?_getD]
 cases e:M[i]? with
 | none=>simp [Wl.hZ,Nat.two_pow_pos]
 | some r=>exact b r (List.mem_of_getElem? e) j
theorem cut_bd{B:Nat}{M:List (List Int)}{c n:Nat}(L:Wl.Len (n+1) M)(hc:c<n+1)(b:Wl.Bds B M):Wl.Bds B (Wl.cut M c):=by
 intro v hv
 obtain⟨r,hr,rfl⟩:=List.mem_map.1 hv
 have hr:=List.mem_of_mem_drop hr
 intro j
 rw [Wl.num_cut (by rw [L r hr]; exact hc)]
 exact b r hr _
theorem ok_det{f fW:Addr}{fd fdW:FuncData}(F:Fun K "determinant" "determinant" sDet f fd)(T:Txt K mg)(b:Binds K fd ["matrix"] [])(m:mg "determinant"=some (.ref f))
  (GW:FnOk P w K mg base CX0 1 fW fdW ["matrix","column"] spWo) (kW:W.keepIn K (.ref fW)=true) (bW:Binds K fdW ["matrix","column"] []) (mW:mg "without"=some (.ref fW)) :
  ∀n:Nat,FnOk P w K mg base CX0 (n+2) f fd ["matrix"] (spDet n):=by
 intro n
 induction n with
 | zero=>
   refine F.ok iI (fun vs H Q E h=>?_) (fun cdv A outer s H vs Q E hr h=>?_)
   ·obtain⟨a,B,M,rfl,_⟩:=h
    rfl
   ·obtain⟨a,B,M,rfl,⟨as,ha,hav⟩,hM,L,hn,hB,hfit,k⟩:=h
    refine⟨_,aF (cC (ad cV (ag a8 (by rfl) T.len PySem.boot_len (aA (pv 0) aE)) aQ (ao _)) (aK (aV aQ)) bE) pss_never,?_⟩
    refine⟨_,rfl,a,_,rfl,.inl (SqL.of ha),rfl,_,rfl,?_⟩
    dsimp only
    rw [if_pos (by rw [List.length_map,hav.len,hM]; decide)]
    exact k H (Same.refl H)
 | succ n ih=>
   refine F.ok iI (fun vs H Q E h=>?_) (fun cdv A outer s H vs Q E hr h=>?_)
   ·obtain⟨a,B,M,rfl,_⟩:=h
    rfl
   ·obtain⟨a,B,M,rfl,⟨as,ha,hav⟩,hM,L,hn,hB,hfit,k⟩:=h
    have hr1:Room 1 _:=hr.mono (by omega)
    have hlen:(as.map V.ref).length=n+1:=by rw [List.length_map,hav.len,hM]
    refine⟨_,aF (cC (ad cV (ag a8 (by rfl) T.len PySem.boot_len (aA (pv 0) aE)) aQ (ao _)) (aK (aV aQ)) bE)
     (aF (aZ (i:=1) iI.nd rfl (Or.inl rfl) aQ)
     (aF (aZ (i:=2) iI.nd rfl (Or.inl rfl) aQ)
     (aF (fe PassesOwn.never rfl (d6 rfl T.range (aA (ag a8 (by rfl) T.len PySem.boot_len (aA (pv 0) aE)) aE)) (b8 (i:=3) iI.nd rfl (Or.inl rfl))
      (aF (aZ (i:=1) iI.nd rfl (Or.inl rfl) (af cq (pv 1) (af ci (af ci (pv 2) (bj (ixl K) (bj (ixl K) (pv 0) aQ (fun _ _=>rfl)) (pv 3) (fun _ _=>rfl)))
       (aJ ih hr rfl m F.kp b .nil aS (aA (aJ GW hr1 rfl mW kW bW .nil aS (aA (pv 0) (aA (pv 3) aE))) aE)))))
      (aK (aZ (i:=2) iI.nd rfl (Or.inl rfl) (gu f8 (pv 2))))))
     (aK (aV (pv 1)))))),?_⟩
    refine⟨_,rfl,a,_,rfl,.inl (SqL.of ha),rfl,_,rfl,?_⟩
    dsimp only
    rw [if_neg (by rw [hlen]; simp; omega)]
    refine⟨_,rfl,a,_,rfl,.inl (SqL.of ha),_,rfl,by rw [hlen]; omega,by rw [hlen]; omega,?_⟩
    refine for_range (lo:=0) (n:=(((as.map V.ref).length:Nat):Int).toNat) (fun i σ H'=>∃v3:Option L2.V,σ=[some (.ref a),some (.int (Wl.jJ n (Wl.mat M) i)),some (.int (if i%2=0 then 1 else -1)),v3]/\Same H H') ⟨none,rfl,Same.refl H⟩ ?_ ?_
    ·rintro i σ H' hi ⟨v3,rfl,hs⟩
     have hi:i<n+1:=by rw [hlen] at hi; simpa using hi
     obtain⟨a0,ha0⟩:∃a0,as[0]? =some a0:=⟨as[0]'(by have:=hav.len; omega),List.getElem?_eq_getElem _⟩
     obtain⟨r0,hr0,hv0⟩:=hav.get ha0
     have l0:=L r0 (List.mem_of_getElem? hr0)
     have em:Tg.num r0 i=Wl.mat M 0 i:=by
      unfold Wl.mat
      rw [List.getD_eq_getElem?_getD,hr0]; rfl
     have b0:=mat_bd hM hB 0 i
     have hd:(Tg.det n (Wl.mat (Wl.cut M i))).natAbs<2^Wl.db B n:=Wl.eR n (fun a b _ _=>mat_bd (Wl.iD hM i) (cut_bd L hi hB) a b)
     have es:(if i%2=0 then(1:Int) else -1).natAbs=1:=by split <;> rfl
     have hdb:Wl.db B (n+1)=B+Wl.db B n+(n+1):=rfl
     refine⟨_,rfl,_,rfl,_,rfl,a,_,_,_,rfl,rfl,SqL.of (hs _ _ ha),dY (j:=0) (by rw [List.getElem?_map,ha0]; rfl),_,rfl,a0,_,_,_,rfl,rfl,SqL.of (hs _ _ hv0),ee (by omega),_,_,rfl,rfl,?_,_,rfl,_,rfl,?_⟩
     ·refine cu (m:=1) (n:=B) (by rw [es]; decide) (by rw [em]; exact b0) (by omega)
     refine⟨a,n,i,M,by rw [Int.zero_add]; rfl,⟨as,hs _ _ ha,hav.keep hs⟩,hM,L,hi,by omega,fun H2 r s2 hrr=>?_⟩
     refine⟨r,B,Wl.cut M i,rfl,hrr,Wl.iD hM i,Wl.cut_row L hi,by omega,cut_bd L hi hB,by omega,fun H3 s3=>?_⟩
     refine⟨_,_,rfl,rfl,?_,_,_,rfl,rfl,?_⟩
     ·refine cu (m:=B) (n:=Wl.db B n) ?_ hd (by omega)
      rw [Int.natAbs_mul,es,Nat.one_mul,em]; exact b0
     ·refine⟨_,rfl,_,rfl,some (V.int (0+(i:Int))),?_,(hs.trans s2).trans s3⟩
      rw [Wl.detTo_succ,<- Wl.det_cut hM L hi,em]
      have e2:-(if i%2=0 then(1:Int) else -1)=if (i+1)%2=0 then 1 else -1:=by
       rcases Nat.mod_two_eq_zero_or_one i with e | e
       ·rw [if_pos e,if_neg (by omega)]
       ·rw [if_neg (by omega),if_pos (by omega)]; rfl
      rw [<- e2]
      rfl
    ·rintro σ H' ⟨v3,rfl,hs⟩
     refine⟨_,rfl,?_⟩
     have e:(((as.map V.ref).length:Nat):Int).toNat=n+1:=by rw [hlen]; rfl
     rw [e,Wl.detTo_all]
     exact k H' hs
abbrev gm:Stmt:=top 12
theorem scPros:FnScope ["vector","rows","row"] ["vector","rows"] (aC gm):=⟨rfl,rfl,rfl,by decide +kernel,rfl,by decide +kernel,by decide +kernel⟩
theorem blkPros:BlkOk ["vector","rows","row"] (aC gm) (dF (cQ gm 0)) [("row",2)]:=bq (by decide +kernel)
def spPros:Sp:=fun vs H Q _=>∃(a b:Addr)(n B:Nat)(v:List Int)(h:List (List Int)),vs=[.ref a,.ref b]/\aN H a v/\ak H b h/\v.length=n/\Wl.Len n h/\n<1000/\h.length<1000/\Wl.Bd B v/\Wl.Bds B h/\B+B<=134217728/\
 ∀(H':Hp)(r:Addr),H r=none->Same H H'->aN H' r (h.map (Tg.dot v))->Q (.ref r) H'
theorem cO{v:List Int}{B:Nat}(b:Wl.Bd B v):∀x∈v,x.natAbs<2^B:=by
 intro x hx
 obtain⟨m,hm,rfl⟩:=List.mem_iff_getElem.1 hx
 have e1:v[m]=Tg.num v m:=by
  have:=dG hm
  rw [List.getElem?_eq_getElem hm] at this
  exact Option.some.inj this
 rw [e1]; exact b m
theorem ok_pros{f fP:Addr}{fd fdP:FuncData}(F:Fun K "products" "products" gm f fd)
  (GP:FnOk P w K mg base CX0 1 fP fdP ["first","second"] spProd) (kP:W.keepIn K (.ref fP)=true) (bP:Binds K fdP ["first","second"] []) (mP:mg "product"=some (.ref fP)) :
  FnOk P w K mg base CX0 2 f fd ["vector","rows"] spPros:=by
 refine F.ok scPros (fun vs H Q E h=>?_) (fun cdv A outer s H vs Q E hr h=>?_)
 ·obtain⟨a,b,n,B,v,h,rfl,_⟩:=h
  rfl
 ·obtain⟨a,b,n,B,v,h,rfl,ha,⟨as,hb,hav⟩,lv,L,hn,hh,bv,bh,hfit,k⟩:=h
  refine⟨_,aK (aV (dN (own:=[("row",2)]) rfl scPros.nd (cD (pv 1)) blkPros
   (fun s H C cl fp=>b8 (i:=2) scPros.nd rfl (Or.inl rfl)) (fun s H C cl fp=>cU)
   (fun s H C cl fp=>aJ GP hr rfl mP kP bP .nil aS (aA (pv 0) (aA (pv 2) aE))))),?_⟩
  refine⟨_,rfl,b,rfl,⟨_,SqL.of hb⟩,fun D hD=>?_⟩
  refine c4 (K:=K) (a:=b) (xs:=as.map V.ref) (fun i H'=>Same H H'/\aN H' D ((h.map (Tg.dot v)).take i)) ⟨Same.new hD,aB⟩ (fun i H' _ q=>SqL.of (q.1 _ _ hb)) ?_ ?_
  ·rintro i y H' hi ⟨hs,hv⟩
   rw [List.getElem?_map] at hi
   obtain⟨c,hc,rfl⟩:=Option.map_eq_some_iff.1 hi
   obtain⟨row,hrow,hcv⟩:=hav.get hc
   have hrm:row∈h:=List.mem_of_getElem? hrow
   have hil:i<h.length:=(List.getElem?_eq_some_iff.1 hrow).1
   refine⟨rfl,?_⟩
   dsimp only [gH]
   rw [if_pos rfl]
   refine⟨_,rfl,_,rfl,a,c,v,row,rfl,hs _ _ ha,hs _ _ hcv,by rw [lv,L row hrm],by omega,fun x hx y hy=>cu (cO bv x hx) (cO (bh row hrm) y hy) hfit,fun H2 s2=>?_⟩
   refine⟨_,s2 _ _ hv,?_,?_⟩
   ·rw [List.length_map,List.length_take,List.length_map]; exact aq (by omega)
   ·refine⟨fun d o e=>?_,?_⟩
    ·rw [aO (aP e hD)]; exact s2 _ _ (hs d o e)
    ·unfold aN
     rw [aB,br (l:=h.map (Tg.dot v)) (x:=Tg.dot v row) (by rw [List.getElem?_map,hrow]; rfl),List.map_append]
     rfl
  ·rintro H' ⟨hs,hv⟩
   rw [List.length_map,hav.len,<- List.length_map (Tg.dot v),List.take_length] at hv
   exact k H' D hD hs hv
def between(h g:List (List Int)):Int:=Tg.det h.length fun(i j:Nat)=>Tg.dot (h.getD i []) (g.getD j [])
abbrev jE:Stmt:=top 13
theorem scBtw:FnScope ["rows","others","row"] ["rows","others"] (aC jE):=⟨rfl,rfl,rfl,by decide +kernel,rfl,by decide +kernel,by decide +kernel⟩
theorem blkBtw:BlkOk ["rows","others","row"] (aC jE) (g6 (cQ jE 0)) [("row",2)]:=bq (by decide +kernel)
def jA:Sp:=fun vs H Q _=>∃(a b:Addr)(n B:Nat)(h g:List (List Int)),vs=[.ref a,.ref b]/\ak H a h/\ak H b g/\Wl.Len n h/\Wl.Len n g/\g.length=h.length/\n<100/\h.length<=3/\Wl.Bds B h/\Wl.Bds B g/\16*(2*B+n+2)<=134217728/\
 ∀(H':Hp),Same H H'->Q (.int (between h g)) H'
def iQ(h g:List (List Int)):List (List Int):=h.map fun r=>g.map (Tg.dot r)
theorem gram_len(h g:List (List Int)):(iQ h g).length=h.length:=by simp [iQ]
theorem gram_rows(h g:List (List Int)):Wl.Len g.length (iQ h g):=by
 intro r hr
 obtain⟨s,hs,rfl⟩:=List.mem_map.1 hr
 simp
theorem gram_num{h g:List (List Int)}{i j:Nat}(hi:i<h.length)(hj:j<g.length):Wl.mat (iQ h g) i j=Tg.dot (h.getD i []) (g.getD j []):=by
 unfold Wl.mat iQ
 simp only [Tg.num,List.getD_eq_getElem?_getD,List.getElem?_map,List.getElem?_eq_getElem hi,List.getElem?_eq_getElem hj,Option.map_some,Option.getD_some]
theorem gram_size(h g:List (List Int))(e:g.length=h.length):Tg.det h.length (Wl.mat (iQ h g))=between h g:=Wl.gE _ fun i j hi hj=>gram_num hi (by omega)
theorem gram_bd{n B:Nat}{h g:List (List Int)}(L:Wl.Len n h)(b:Wl.Bds B h)(b':Wl.Bds B g):Wl.Bds (B+B+n) (iQ h g):=by
 intro v hv
 obtain⟨r,hr,rfl⟩:=List.mem_map.1 hv
 intro j
 show(Tg.num (g.map (Tg.dot r)) j).natAbs<_
 simp only [Tg.num,List.getD_eq_getElem?_getD,List.getElem?_map]
 cases e:g[j]? with
 | none=>simp [Nat.two_pow_pos]
 | some s=>exact Wl.eQ (L r hr) (b r hr) (b' s (List.mem_of_getElem? e))
theorem ok_btw{f fP fD:Addr}{fd fdP fdD:FuncData}(F:Fun K "size_between" "size_between" jE f fd)
  (GP:FnOk P w K mg base CX0 2 fP fdP ["vector","rows"] spPros) (kP:W.keepIn K (.ref fP)=true) (bP:Binds K fdP ["vector","rows"] []) (mP:mg "products"=some (.ref fP))
  (GD:∀n:Nat,FnOk P w K mg base CX0 (n+2) fD fdD ["matrix"] (spDet n)) (kD:W.keepIn K (.ref fD)=true) (bD:Binds K fdD ["matrix"] []) (mD:mg "determinant"=some (.ref fD)) :
  FnOk P w K mg base CX0 10 f fd ["rows","others"] jA:=by
 refine F.ok scBtw (fun vs H Q E h=>?_) (fun cdv A outer s H vs Q E hr h=>?_)
 ·obtain⟨a,b,n,B,h,g,rfl,_⟩:=h
  rfl
 ·obtain⟨a,b,n,B,h,g,rfl,⟨as,ha,hav⟩,hg,L,Lg,eg,hn,hh,bh,bg,hfit,k⟩:=h
  have hr2:Room 2 _:=hr.mono (by decide)
  have hr3:Room (h.length+2) _:=hr.mono (by omega)
  have hlen:=hav.len
  refine⟨_,aK (aV (aJ (GD h.length) hr3 rfl mD kD bD .nil aS (aA (dN (own:=[("row",2)]) rfl scBtw.nd (cD (pv 0)) blkBtw
   (fun s H C cl fp=>b8 (i:=2) scBtw.nd rfl (Or.inl rfl)) (fun s H C cl fp=>cU)
   (fun s H C cl fp=>aJ GP hr2 rfl mP kP bP .nil aS (aA (pv 2) (aA (pv 1) aE)))) aE))),?_⟩
  refine⟨_,rfl,a,rfl,⟨_,SqL.of ha⟩,fun D hD=>?_⟩
  refine c4 (K:=K) (a:=a) (xs:=as.map V.ref) (fun i H'=>Same H H'/\∃bs:List Addr,H' D=some (.lst (bs.map V.ref))/\(∀b∈bs,b≠D)/\aL H' bs ((iQ h g).take i)) ⟨Same.new hD,[],aB,by simp,by simp [aL]⟩ (fun i H' _ q=>SqL.of (q.1 _ _ ha)) ?_ ?_
  ·rintro i y H' hi ⟨hs,bs,hD',hbD,hbs⟩
   rw [List.getElem?_map] at hi
   obtain⟨c,hc,rfl⟩:=Option.map_eq_some_iff.1 hi
   obtain⟨row,hrow,hcv⟩:=hav.get hc
   have hrm:row∈h:=List.mem_of_getElem? hrow
   have hil:i<h.length:=(List.getElem?_eq_some_iff.1 hrow).1
   refine⟨rfl,?_⟩
   dsimp only [gH]
   rw [if_pos rfl]
   refine⟨_,rfl,_,rfl,c,b,n,B,row,g,rfl,hs _ _ hcv,hg.keep hs,L row hrm,Lg,by omega,by omega,bh row hrm,bg,by omega,fun H2 r hf s2 hrv=>?_⟩
   have hD2:=s2 _ _ hD'
   have nrD:r≠D:=fun e=>by rw [e] at hf; rw [hD'] at hf; cases hf
   refine⟨_,hD2,?_,?_,bs++[r],?_,?_,?_⟩
   ·rw [List.length_map,hbs.len,List.length_take,gram_len]; exact aq (by omega)
   ·intro d o e
    rw [aO (aP e hD)]; exact s2 _ _ (hs d o e)
   ·rw [aB,List.map_append]; rfl
   ·intro d hd
    rcases List.mem_append.1 hd with q | q
    ·exact hbD d q
    ·simp only [List.mem_cons,List.not_mem_nil,or_false] at q; rw [q]; exact nrD
   ·rw [br (l:=iQ h g) (x:=g.map (Tg.dot row)) (by unfold iQ; rw [List.getElem?_map,hrow]; rfl)]
    refine aL.append ((hbs.keep s2).updN hbD) (aL.one ?_)
    unfold aN
    rw [aO nrD]; exact hrv
  ·rintro H' ⟨hs,bs,hD',hbD,hbs⟩
   rw [List.length_map,hlen,<- gram_len h g,List.take_length] at hbs
   refine⟨D,B+B+n,iQ h g,rfl,⟨bs,hD',hbs⟩,gram_len h g,by rw [<- eg]; exact gram_rows h g,by omega,gram_bd L bh bg,?_,fun H2 s2=>?_⟩
   ·have:∀m≤3,Wl.db (B+B+n) m<=3*(B+B+n)+7:=by
     intro m hm
     match m,hm with
     | 0,_=>simp [Wl.db]
     | 1,_=>simp [Wl.db]; omega
     | 2,_=>simp [Wl.db]; omega
     | 3,_=>simp [Wl.db]; omega
    have:=this h.length hh
    omega
   ·rw [gram_size h g eg]
    exact k H2 (hs.trans s2)
abbrev i4:Stmt:=top 14
theorem scSize:FnScope ["rows"] ["rows"] (aC i4):=⟨rfl,rfl,rfl,by decide +kernel,rfl,by decide +kernel,by decide +kernel⟩
def gL:Sp:=fun vs H Q _=>∃(a:Addr)(n B:Nat)(h:List (List Int)),vs=[.ref a]/\ak H a h/\Wl.Len n h/\n<100/\h.length<=3/\Wl.Bds B h/\16*(2*B+n+2)<=134217728/\
 ∀(H':Hp),Same H H'->Q (.int (Tg.sizeOf h)) H'
theorem ok_size{f fB:Addr}{fd fdB:FuncData}(F:Fun K "size_of" "size_of" i4 f fd)
  (GB:FnOk P w K mg base CX0 10 fB fdB ["rows","others"] jA) (kB:W.keepIn K (.ref fB)=true) (bB:Binds K fdB ["rows","others"] []) (mB:mg "size_between"=some (.ref fB)) :
  FnOk P w K mg base CX0 11 f fd ["rows"] gL:=by
 refine F.ok scSize (fun vs H Q E h=>?_) (fun cdv A outer s H vs Q E hr h=>?_)
 ·obtain⟨a,n,B,h,rfl,_⟩:=h
  rfl
 ·obtain⟨a,n,B,h,rfl,ha,L,hn,hh,bh,hfit,k⟩:=h
  refine⟨_,aK (aV (aJ GB hr rfl mB kB bB .nil aS (aA (pv 0) (aA (pv 0) aE)))),?_⟩
  exact⟨_,rfl,_,rfl,a,a,n,B,h,h,rfl,ha,ha,L,L,rfl,hn,hh,bh,bh,hfit,k⟩
abbrev sPp:Stmt:=top 15
theorem scPp:FnScope ["rows","total","row"] ["rows"] (aC sPp):=⟨rfl,rfl,rfl,by decide +kernel,rfl,by decide +kernel,by decide +kernel⟩
def spPp:Sp:=fun vs H Q _=>∃(a:Addr)(n B:Nat)(h:List (List Int)),vs=[.ref a]/\ak H a h/\Wl.Ech n h/\n<1000/\h.length<1000/\Wl.Bds B h/\(h.length+1)*B+1<=134217728/\Q (.int (Wl.cX h)) H
theorem ok_pp{f fV:Addr}{fd fdV:FuncData}(F:Fun K "pivot_product" "pivot_product" sPp f fd)
  (GV:FnOk P w K mg base CX0 1 fV fdV ["row"] jQ) (kV:W.keepIn K (.ref fV)=true) (bV:Binds K fdV ["row"] []) (mV:mg "pivot_place"=some (.ref fV)) :
  FnOk P w K mg base CX0 2 f fd ["rows"] spPp:=by
 refine F.ok scPp (fun vs H Q E h=>?_) (fun cdv A outer s H vs Q E hr h=>?_)
 ·obtain⟨a,n,B,h,rfl,_⟩:=h
  rfl
 ·obtain⟨a,n,B,h,rfl,⟨as,ha,hav⟩,EH,hn,hh,bh,hfit,k⟩:=h
  refine⟨_,aF (aZ (i:=1) scPp.nd rfl (Or.inl rfl) aQ)
   (aF (fe PassesOwn.never rfl (cD (pv 0)) (b8 (i:=2) scPp.nd rfl (Or.inl rfl))
    (aK (aZ (i:=1) scPp.nd rfl (Or.inl rfl) (af ci (pv 1) (bj (ixl K) (pv 2) (aJ GV hr rfl mV kV bV .nil aS (aA (pv 2) aE)) (fun _ _=>rfl))))))
   (aK (aV (pv 1)))),?_⟩
  refine⟨_,rfl,a,rfl,⟨_,SqL.of ha⟩,fj (K:=K) (a:=a) (xs:=as.map V.ref) (fun i σ H'=>H'=H/\∃(t:Int)(v2:Option L2.V),σ=[some (.ref a),some (.int t),v2]/\t*Wl.cX (h.drop i)=Wl.cX h/\t.natAbs<2^(i*B+1)) ?_ ?_ ?_ ?_⟩
  ·exact⟨rfl,1,none,rfl,by simp,by simp⟩
  ·rintro i σ H' hi ⟨rfl,_⟩
   exact SqL.of ha
  ·rintro i y σ H' hi ⟨rfl,t,v2,rfl,ht,hb⟩
   rw [List.getElem?_map] at hi
   obtain⟨c,hc,rfl⟩:=Option.map_eq_some_iff.1 hi
   obtain⟨row,hrow,hcv⟩:=hav.get hc
   have hrm:row∈h:=List.mem_of_getElem? hrow
   have hil:i<h.length:=(List.getElem?_eq_some_iff.1 hrow).1
   have pos:=EH.pos row hrm
   have ll:=EH.lead_lt hrm
   have lrow:=EH.len row hrm
   have b0:=bh row hrm (Tg.lead row)
   have hm1:(i+1)*B<=h.length*B:=Nat.mul_le_mul_right _ hil
   have hm2:(i+1)*B=i*B+B:=by grind
   have hm3:(h.length+1)*B=h.length*B+B:=by grind
   refine⟨_,rfl,_,rfl,_,rfl,c,row,rfl,hcv,by omega,c,_,_,_,rfl,rfl,SqL.of hcv,eB (by omega),_,_,rfl,rfl,cu hb b0 (by omega),?_⟩
   refine⟨rfl,_,_,rfl,?_,?_⟩
   ·have ed:h.drop i=row::h.drop (i+1):=by
     rw [List.drop_eq_getElem_cons hil]
     congr 1
     have:=List.getElem?_eq_getElem hil
     rw [hrow] at this
     exact(Option.some.inj this).symm
    rw [ed,Wl.cX] at ht
    rw [Int.mul_assoc]; exact ht
   ·rw [Int.natAbs_mul]
    have e:(i+1)*B+1=(i*B+1)+B:=by omega
    rw [e,Nat.pow_add]
    exact Nat.mul_lt_mul'' hb b0
  ·rintro σ H' ⟨rfl,t,v2,rfl,ht,hb⟩
   refine⟨_,rfl,?_⟩
   rw [List.length_map,hav.len,List.drop_length] at ht
   have e:t=Wl.cX h:=by rw [<- ht]; simp [Wl.cX]
   rw [e]; exact k
abbrev sIdx:Stmt:=top 16
theorem scIdx:FnScope ["part","rows"] ["part","rows"] (aC sIdx):=⟨rfl,rfl,rfl,by decide +kernel,rfl,by decide +kernel,by decide +kernel⟩
def spIdx:Sp:=fun vs H Q _=>∃(a b:Addr)(n B:Nat)(g h:List (List Int)),vs=[.ref b,.ref a]/\ak H a g/\ak H b h/\Wl.Ech n g/\Wl.Ech n h/\h.length=g.length/\(∀r∈h,Wl.Sp n g r)/\n<1000/\h.length<1000/\Wl.Bds B g/\Wl.Bds B h/\(h.length+1)*B+1<=134217728/\Q (.int (Tg.index g h)) H
theorem ok_idx{f fV:Addr}{fd fdV:FuncData}(hP:P.given.tree=none)(F:Fun K "index_of" "index_of" sIdx f fd)
  (GV:FnOk P w K mg base CX0 2 fV fdV ["rows"] spPp) (kV:W.keepIn K (.ref fV)=true) (bV:Binds K fdV ["rows"] []) (mV:mg "pivot_product"=some (.ref fV)) :
  FnOk P w K mg base CX0 42 f fd ["part","rows"] spIdx:=by
 refine F.ok scIdx (fun vs H Q E h=>?_) (fun cdv A outer s H vs Q E hr h=>?_)
 ·obtain⟨a,b,n,B,g,h,rfl,_⟩:=h
  rfl
 ·obtain⟨a,b,n,B,g,h,rfl,hg,hh,EG,EH,hl,hs,hn,hlh,bg,bh,hfit,k⟩:=h
  have hr2:Room 2 _:=hr.mono (by decide)
  have hd:=Room.pyl hr (by decide)
  have pg:=EG.pivots_pos
  refine⟨_,aK (aV (af (eM hd hP) (aJ GV hr2 rfl mV kV bV .nil aS (aA (pv 0) aE)) (aJ GV hr2 rfl mV kV bV .nil aS (aA (pv 1) aE)))),?_⟩
  refine⟨_,rfl,b,n,B,h,rfl,hh,EH,hn,hlh,bh,hfit,_,rfl,a,n,B,g,rfl,hg,EG,hn,by omega,bg,by rw [<- hl]; exact hfit,_,_,rfl,rfl,by omega,?_⟩
  rw [Wl.index_eq EG EH hl hs] at k
  rw [<- Int.fdiv_eq_ediv_of_nonneg (b:=Wl.cX g) _ (by omega)] at k
  exact k
def keysB(es:Array DictEntry):Bool:=es.toList.all fun e=>match e.key with
 | .int i _=>e.hash == hashInt i
 | _=>false
theorem keysB_of{P:Program}{w:World}{es:Array DictEntry}(h:keysB es=true):KeysOf (iB P w) es:=by
 intro e he
 have:=List.all_eq_true.1 h e (by simpa using he)
 split at this
 ·rename_i i t ek
  refine⟨Sum.inl i,?_,?_⟩
  ·show gJ (.inl i) e.key=true
   rw [ek]; exact keyIs_int i t
  ·show e.hash=hashInt i
   simpa using this
 ·cases this
structure ModD(K:W.Frag)(a:Addr)(es:Array DictEntry):Prop where
 at_:∃ep,K.lookup a=some ⟨.type "dict",none,.dict es ep,#[]⟩
 keys:keysB es=true
theorem ModD.mapOf{X:Cx}{pins:List (Addr × Obj)}{σ:L2.St}{H:Hp}{s:Shared}{a:Addr}{es:Array DictEntry}(I:Inv X pins σ H s)(M:ModD X.K a es):s.heap.MapOf (iB X.prog X.w) a (findBy gJ es):=by
 obtain⟨ep,e⟩:=M.at_
 exact⟨_,es,ep,I.kIn _ _ e,⟨rfl,rfl,rfl⟩,rfl,keysB_of M.keys,fun _=>rfl⟩
def tMGet(K:W.Frag)(td ty:TE):TE:=fun σ H Q=>td σ H fun x H1=>ty σ H1 fun y H2=>∃(a:Addr)(k:Int)(es:Array DictEntry)(u:Value)(v:L2.V),x=.ref a/\y=.int k/\ModD K a es/\findBy gJ es (.inl k)=some u/\RelV v u/\Q v H2
theorem pe_mget{X:Cx}{o i:Expr}{pos:Pos}{td ty:TE}(ho:PE X o td)(hi:PE X i ty)(hs:NoSl i):PE X (.Subscript o i pos) (tMGet X.K td ty):=by
 intro pins s σ H Q I h
 refine subD_of PySem.F.slot_dict_getitem.lookup hs (thn (ho pins s σ H _ I h) fun u s1 ⟨x,H1,I1,rx,q1⟩=>thn (hi pins s1 σ H1 _ I1 q1) fun iv s2 ⟨y,H2,I2,ry,a,k,es,u',v,ex,ey,M,hf,rv,q2⟩=>?_)
 subst ex ey
 obtain rfl:u=Value.ref a:=rx
 obtain⟨t,rfl⟩:=ry
 have mo:=M.mapOf I2
 exact⟨mo.typeIs,wpAny_getItem_of (keyIs_int k t) mo hf ⟨v,H2,I2.tok _,rv,q2⟩⟩
theorem SqT.top{K:W.Frag}{H:Hp}{a:Addr}{xs:List L2.V}{its:Array Value}{n:Nat}{d:Option Addr}{sl:Array (Option Value)}(h:K.lookup a=some ⟨.type "tuple",d,.seq its n,sl⟩)(hz:its.size<=sizeLine)(hv:ay xs its.toList):SqT K H a xs:=
 .inr ⟨_,its,n,h,rfl,rfl,hz,hv⟩
theorem lc_rangeC{lo c:Int}{n:Nat}{g:TG}{tt:TT}{te:TE}{vs:List Nat}{σ:L2.St}{H1:Hp}{D:Addr}{Qd:Hp->Prop}(Pv:Nat->Hp->Prop)(h0:Pv 0 (upd H1 D (.lst [])))
  (hs:∀i H,i<n->Pv i H->g (.int (lo+(i:Nat)*c)) (wipe σ vs) H fun σ2 H2=>wipe σ2 vs=wipe σ vs/\tt σ2 H2 fun b H3=>
   if b=true then te σ2 H3 fun y H4=>∃acc,H4 D=some (.lst acc)/\acc.length<sizeLine/\Pv (i+1) (upd H4 D (.lst (acc++[y]))) else Pv (i+1) H3) (hd:∀H,Pv n H->Qd H) :
  ∃W:Nat->Nat->Hp->Prop,(∃m,W 0 m (upd H1 D (.lst [])))/\∀i m H,W i m H->
   ((Itc lo c n).stop i H/\Qd H)\/((Itc lo c n).go i H/\∃Nx:Hp->Prop,(∀H',Nx H'->∃m',m'<m/\W (i+1) m' H')/\∀x H',(Itc lo c n).yld i H x H'->g x (wipe σ vs) H' fun σ2 H2=>wipe σ2 vs=wipe σ vs/\tt σ2 H2 fun b H3=>
     if b=true then te σ2 H3 fun y H4=>∃acc,H4 D=some (.lst acc)/\acc.length<sizeLine/\Nx (upd H4 D (.lst (acc++[y]))) else Nx H3):=by
 refine⟨fun i m H=>m=n - i/\i<=n/\Pv i H,⟨n,by simp,Nat.zero_le _,h0⟩,?_⟩
 rintro i m H ⟨rfl,hi,p⟩
 by_cases hlt:i<n
 ·refine .inr ⟨hlt,Pv (i+1),fun H' p'=>⟨n - (i+1),by omega,rfl,hlt,p'⟩,fun x H' y=>?_⟩
  obtain⟨e,y⟩:=y
  subst e y
  exact hs i _ hlt p
 ·have e:i=n:=by omega
  subst e
  exact .inl ⟨Nat.le_refl _,hd H p⟩
def aj(x:Str):Stmt:=(PySem.Challenge.pw_wholelattices_s01_answers.main.body.find? fun s=>match s with
 | .FunctionDef n _ _ _ _ _ _ _ _ _=>n == x
 | .ClassDef n _ _ _ _ _ _ _ _ _ _=>n == x
 | _=>false).getD (.Pass ⟨0,0,0,0⟩)
abbrev jD:Stmt:=aj "form_of_row"
theorem scFor:FnScope ["row","n","start"] ["row","n"] (aC jD):=⟨rfl,rfl,rfl,by decide +kernel,rfl,by decide +kernel,by decide +kernel⟩
def argScope2(s:Stmt):Scope:=match s with
 | .Return (some (.Call _ (.ListComp _ _ sc _::_) _ _)) _=>sc
 | _=>{kind:=.function,names:=[],isGenerator:=false,isCoroutine:=false}
theorem blkFor:BlkOk ["row","n","start"] (aC jD) (argScope2 (cQ jD 0)) [("start",2)]:=bq (by decide +kernel)
def spFor:Sp:=fun vs H Q _=>∃(a:Addr)(n B:Nat)(l:List Int),vs=[.ref a,.int n]/\aN H a l/\1<=n/\n<=3/\l.length%n=0/\l.length<=12*n/\(∀x∈l,x.natAbs<2^B)/\B<=5000/\
 ∀(H':Hp)(r:Addr)(bs:List Addr),Same H H'->H' r=some (.lst (bs.map V.ref))->aL H' bs (Tg.form n (Wl.ca n (l.length/n) l))->H r=none->(∀b∈bs,H b=none)->Q (.ref r) H'
theorem gY{N M V:Nat}(h:N<=M):Wl.gr N V+2<=(M+1)*(V+2):=by
 rw [Wl.gr_val]; exact Nat.mul_le_mul_right _ (by omega)
theorem gq_fit3{N B n:Nat}(hN:N<=15)(hB:B<=8000)(hn:n<=3):4*Wl.gq N B n+8<=134217728:=by
 have h1:Wl.gq N B n<=Wl.gq N B 3:=Wl.jV N B hn
 have h2:Wl.gq N B 3+2<=3360*(B+2):=by
  show Wl.gr (N - 2) (Wl.gr (N - 1) (Wl.gr (N - 0) B))+2<=_
  have a:=gY (N:=N - 0) (M:=15) (V:=B) (by omega)
  have b:=gY (N:=N - 1) (M:=14) (V:=Wl.gr (N - 0) B) (by omega)
  have c:=gY (N:=N - 2) (M:=13) (V:=Wl.gr (N - 1) (Wl.gr (N - 0) B)) (by omega)
  omega
 omega
theorem gq_fit6{N B n:Nat}(hN:N<=6)(hB:B<=5000)(hn:n<=6):4*Wl.gq N B n+8<=134217728:=by
 have h1:Wl.gq N B n<=Wl.gq N B 6:=Wl.jV N B hn
 have h2:Wl.gq N B 6+2<=5040*(B+2):=by
  have a:Wl.gq N B 1+2<=7*(B+2):=gY (N:=N - 0) (M:=6) (V:=B) (by omega)
  have b:Wl.gq N B 2+2<=6*(Wl.gq N B 1+2):=gY (N:=N - 1) (M:=5) (by omega)
  have c:Wl.gq N B 3+2<=5*(Wl.gq N B 2+2):=gY (N:=N - 2) (M:=4) (by omega)
  have d:Wl.gq N B 4+2<=4*(Wl.gq N B 3+2):=gY (N:=N - 3) (M:=3) (by omega)
  have e:Wl.gq N B 5+2<=3*(Wl.gq N B 4+2):=gY (N:=N - 4) (M:=2) (by omega)
  have f:Wl.gq N B 6+2<=2*(Wl.gq N B 5+2):=gY (N:=N - 5) (M:=1) (by omega)
  omega
 omega
theorem fitsLong{x:Int}(h1:-1000000<=x)(h2:x<=1000000):Builtin.Range.rangeFitsLong x=true:=by
 unfold Builtin.Range.rangeFitsLong
 simp
 omega
theorem rgc_of{m n:Nat}(hn:1<=n)(hn3:n<=3)(hm:m<=1000)(hd:m%n=0):RgC 0 (m:Int) (n:Int) (m/n):=by
 have hsz:Builtin.Range.rangeSize 0 (m:Int) (n:Int)=((m/n:Nat):Int):=by
  unfold Builtin.Range.rangeSize
  rw [if_pos (by omega)]
  split
  ·have h3:n=1\/n=2\/n=3:=by omega
   rcases h3 with rfl | rfl | rfl <;> omega
  ·have:m=0:=by omega
   subst this
   simp
 refine⟨by omega,by omega,?_,hsz⟩
 unfold Builtin.Range.small
 rw [hsz]
 have:m/n<=m:=Nat.div_le_self _ _
 have hdv:(0:Int)<=((m/n:Nat):Int)/\((m/n:Nat):Int)<=1000:=⟨Int.natCast_nonneg _,by have:m/n<=1000:=by omega
                                                                                    exact_mod_cast this⟩
 generalize ((m/n:Nat):Int)=q at hdv
 simp only [Bool.and_eq_true,Bool.or_eq_true]
 refine⟨⟨⟨⟨fitsLong (by omega) (by omega),fitsLong (by omega) (by omega)⟩,fitsLong (by omega) (by omega)⟩,fitsLong (by omega) (by omega)⟩,.inr ?_⟩
 rw [if_pos (by omega)]
 exact fitsLong (by omega) (by omega)
theorem cut_mid(l:List L2.V)(i n:Nat):cH l (some (i:Int)) (some ((i:Int)+(n:Int)))=(l.drop i).take n:=by
 have e:((i:Int)+(n:Int))=((i+n:Nat):Int):=by omega
 unfold cH
 rw [e,hU,hU]
 rcases Nat.le_total i l.length with h | h
 ·rw [Nat.min_eq_left h]
  rcases Nat.le_total (i+n) l.length with h2 | h2
  ·rw [Nat.min_eq_left h2,show i+n - i=n by omega]
  ·rw [Nat.min_eq_right h2,List.take_of_length_le (by simp),List.take_of_length_le (by simp; omega)]
 ·rw [Nat.min_eq_right h,List.drop_of_length_le (Nat.le_refl _),List.drop_of_length_le h]; simp
theorem ok_for{f fF:Addr}{fd fdF:FuncData}(F:Fun K "form_of_row" "form_of_row" jD f fd)(T:Txt K mg)
  (GF:FnOk P w K mg base CX0 44 fF fdF ["vectors","n"] iG) (kF:W.keepIn K (.ref fF)=true) (bF:Binds K fdF ["vectors","n"] []) (mF:mg "form_of"=some (.ref fF)) :
  FnOk P w K mg base CX0 45 f fd ["row","n"] spFor:=by
 refine F.ok scFor (fun vs H Q E h=>?_) (fun cdv A outer s H vs Q E hr h=>?_)
 ·obtain⟨a,n,B,l,rfl,_⟩:=h
  rfl
 ·obtain⟨a,n,B,l,rfl,ha,hn1,hn3,hm,hl,hb,hB,k⟩:=h
  refine⟨_,aK (aV (aJ GF hr rfl mF kF bF .nil aS (aA (dN (own:=[("start",2)]) rfl scFor.nd
   (pi_range3 rfl T.range (aA aQ (aA (ag a8 (by rfl) T.len PySem.boot_len (aA (pv 0) aE)) (aA (pv 1) aE)))) blkFor
   (fun s H C cl fp=>b8 (i:=2) scFor.nd rfl (Or.inl rfl)) (fun s H C cl fp=>cU)
   (fun s H C cl fp=>cE (sll K) (pv 0) (cJ (pv 2)) (cJ (af cq (pv 2) (pv 1))))) (aA (pv 1) aE)))),?_⟩
  have hlen:(l.map V.int).length=l.length:=List.length_map _
  refine⟨_,rfl,a,_,rfl,.inl (SqL.of ha),_,rfl,_,_,_,l.length/n,rfl,by rw [hlen]; exact rgc_of hn1 hn3 (by omega) hm,fun D hD=>?_⟩
  have hdn:l.length/n*n=l.length:=Nat.div_mul_cancel (Nat.dvd_of_mod_eq_zero hm)
  have hcnt:l.length/n<=12:=Nat.div_le_of_le_mul (by rw [Nat.mul_comm]; exact hl)
  refine lc_rangeC (fun i H'=>Same H H'/\∃bs:List Addr,H' D=some (.lst (bs.map V.ref))/\(∀b∈bs,b≠D/\H b=none)/\aL H' bs ((Wl.ca n (l.length/n) l).take i)) ⟨Same.new hD,[],aB,by simp,by simp [aL]⟩ ?_ ?_
  ·rintro i H' hi ⟨hs,bs,hD',hbD,hbs⟩
   refine⟨rfl,?_⟩
   dsimp only [gH]
   rw [if_pos rfl]
   refine⟨_,rfl,_,rfl,_,rfl,_,rfl,_,rfl,_,_,rfl,rfl,_,rfl,a,_,rfl,SqL.of (hs _ _ ha),fun p hp=>?_⟩
   have es:(0:Int)+(i:Nat)*(n:Int)=((i*n:Nat):Int):=by simp
   rw [es,cut_mid]
   have t1:Same H' (upd H' p (.lst (((l.map V.int).drop (i*n)).take n))):=Same.new hp
   have npD:p≠D:=fun e=>by rw [e,hD'] at hp; cases hp
   refine⟨_,t1 _ _ hD',?_,?_,bs++[p],?_,?_,?_⟩
   ·rw [List.length_map,hbs.len,List.length_take,Wl.dg]; exact aq (by omega)
   ·intro d o e
    rw [aO (aP e hD)]; exact t1 _ _ (hs d o e)
   ·rw [aB,List.map_append]; rfl
   ·intro d hd
    rcases List.mem_append.1 hd with h | h
    ·exact hbD d h
    ·simp only [List.mem_cons,List.not_mem_nil,or_false] at h; rw [h]; exact⟨npD,hs.free hp⟩
   ·rw [br (Wl.chunks_get (n:=n) (l.length/n) l i hi)]
    refine aL.append ((hbs.keep t1).updN fun b hb=>(hbD b hb).1) (aL.one ?_)
    unfold aN
    rw [aO npD,aB,List.map_take,List.map_drop]
  ·rintro H' ⟨hs,bs,hD',hbD,hbs⟩
   have hL:=Wl.chunks_rows (n:=n) (l.length/n) l (by rw [hdn]; exact Nat.le_refl _)
   have hBs:=Wl.chunks_bd (n:=n) (l.length/n) l hb
   rw [List.take_of_length_le (by rw [Wl.dg]; exact Nat.le_refl _)] at hbs
   refine⟨_,rfl,D,bs,n,B,Wl.ca n (l.length/n) l,rfl,hD',hbs,hL,by omega,by rw [Wl.dg]; omega,hBs,?_,fun H2 r cs s2 hr2 hcs hrf hca=>k H2 r cs (hs.trans s2) hr2 hcs (hs.free hrf) fun b hb=>?_⟩
   rotate_left
   ·rcases hca b hb with h | h
    ·exact(hbD b h).2
    ·exact hs.free h
   rw [Wl.dg]
   exact gq_fit3 (by omega) (by omega) hn3
theorem cut_last(l:List L2.V):cH l none (some (-1))=l.dropLast:=by
 unfold cH
 rw [HT.sIx_none,List.drop_zero,List.dropLast_eq_take]
 congr 1
 simp only [HT.sIx]
 rw [if_pos (by decide)]
 omega
theorem at_last{α:Type}(l:List α)(x:α):atI (l++[x]) (-1)=some x:=by
 unfold atI ixN
 rw [if_neg (by decide),if_pos (by simp; omega)]
 have e:(-1+((l++[x]).length:Int)).toNat=l.length:=by simp; omega
 rw [Option.bind_some,e]
 simp
abbrev sLen:Stmt:=aj "length"
theorem scLen:FnScope ["vector"] ["vector"] (aC sLen):=⟨rfl,rfl,rfl,by decide +kernel,rfl,by decide +kernel,by decide +kernel⟩
def iF:Sp:=fun vs H Q _=>∃(a:Addr)(B:Nat)(v:List Int),vs=[.ref a]/\aN H a v/\v.length<1000/\Wl.Bd B v/\B+B<=134217728/\
 ∀(H':Hp),Same H H'->Q (.int (Tg.dot v v)) H'
theorem ok_len{f fP:Addr}{fd fdP:FuncData}(F:Fun K "length" "length" sLen f fd)
  (GP:FnOk P w K mg base CX0 1 fP fdP ["first","second"] spProd) (kP:W.keepIn K (.ref fP)=true) (bP:Binds K fdP ["first","second"] []) (mP:mg "product"=some (.ref fP)) :
  FnOk P w K mg base CX0 2 f fd ["vector"] iF:=by
 refine F.ok scLen (fun vs H Q E h=>?_) (fun cdv A outer s H vs Q E hr h=>?_)
 ·obtain⟨a,B,v,rfl,_⟩:=h
  rfl
 ·obtain⟨a,B,v,rfl,ha,hl,hB,hf,k⟩:=h
  refine⟨_,aK (aV (aJ GP hr rfl mP kP bP .nil aS (aA (pv 0) (aA (pv 0) aE)))),?_⟩
  exact⟨_,rfl,_,rfl,a,a,v,v,rfl,ha,ha,rfl,hl,fun x hx y hy=>cu (cO hB x hx) (cO hB y hy) hf,k⟩
def MostOk(mo:L2.V)(n:Nat)(bound:Int):Prop:=mo=.non\/∃m:Int,mo=.int m/\∀l:List (List Int),l.Nodup->(∀v∈l,v.length=n/\Tg.dot v v<=bound)->(l.length:Int)<=m
def eY(k:Nat):Sp:=fun vs H Q _=>∃(a r:Addr)(bound:Int)(mo:L2.V)(n B R:Nat)(S:Nat->Nat)(p:List Int)(g:List (List Int)),vs=[.ref a,.ref r,.int bound,mo]/\aN H a p/\ak H r g/\p.length=n/\g.length=k/\Wl.SeekOk n g bound S/\
 Wl.Bd B p/\Wl.Bds R g/\R<=B/\16*(2*(B+k*(4*R+40))+5)<=134217728/\MostOk mo n bound/\
 ∀(H':Hp)(q:Addr)(l:List (List Int)),H q=none->Same H H'->ak H' q l->Wl.Reach n g p bound (Wl.Cnt S k) l->Q (.ref q) H'
def spSteps(k:Nat):Sp:=fun vs H Q _=>∃(a r:Addr)(st bound:Int)(mo:L2.V)(n B R:Nat)(S:Nat->Nat)(p b:List Int)(g:List (List Int)),vs=[.ref a,.ref r,.int st,.int bound,mo]/\aN H a p/\ak H r (g++[b])/\p.length=n/\g.length=k/\Wl.SeekOk n (g++[b]) bound S/\
 (st=1\/st= -1)/\st*Wl.bil g b p<=0/\Wl.Bd B p/\Wl.Bds R (g++[b])/\R<=B/\16*(2*(B+28+k*(4*R+40))+5)<=134217728/\MostOk mo n bound/\
 ∀(H':Hp)(q:Addr)(l:List (List Int)),H q=none->Same H H'->ak H' q l->(∀v,v∈l↔∃j:Nat,Wl.Cos n g (Wl.lss p b (j*st)) v/\Tg.dot v v<=bound)->l.Nodup->l.length<=(S k+1)*Wl.Cnt S k->Q (.ref q) H'
theorem bd_lss{n B:Nat}{p b:List Int}{k:Int}(hp:p.length=n)(hb:b.length=n)(Bp:Wl.Bd B p)(Bb:Wl.Bd B b)(hk:k.natAbs<2^26):Wl.Bd (B+28) (Wl.lss p b k):=by
 intro j
 show(Tg.num (Wl.lss p b k) j).natAbs<_
 rw [Wl.dy k hp hb]
 have h1:=Bp j
 have h2:=Bb j
 have h3:(k*Tg.num b j).natAbs<=2^26*2^B:=by
  rw [Int.natAbs_mul]; exact Nat.mul_le_mul (by omega) (by omega)
 have e:2^(B+28)=4*(2^26*2^B):=by rw [Nat.pow_add]; grind
 have h4:1*2^B<=2^26*2^B:=Nat.mul_le_mul_right _ (by decide)
 omega
abbrev gM:Stmt:=aj "reached_by_steps"
theorem fx:FnScope ["start","rows","step","bound","most","before","limit","found","rest"] ["start","rows","step","bound","most"] (aC gM):=⟨rfl,rfl,rfl,by decide +kernel,rfl,by decide +kernel,by decide +kernel⟩
theorem aL.split{H:Hp}{as:List Addr}{g:List (List Int)}{b:List Int}(h:aL H as (g++[b])):∃as' ab,as=as'++[ab]/\aL H as' g/\aN H ab b:=by
 have hl:=h.len
 rw [List.length_append,List.length_singleton] at hl
 have h1:=h.take g.length
 rw [List.take_left] at h1
 have hi:g.length<as.length:=by omega
 obtain⟨r,e1,e2⟩:=h.get (List.getElem?_eq_getElem hi)
 rw [List.getElem?_append_right (Nat.le_refl _),Nat.sub_self] at e1
 cases e1
 refine⟨as.take g.length,as[g.length],?_,h1,e2⟩
 have:=List.take_append_drop g.length as
 rw [List.drop_eq_getElem_cons hi,List.drop_of_length_le (by omega)] at this
 exact this.symm
def stepsW(a r bf q:Addr)(st bound:Int)(mo:L2.V)(H2:Hp)(n k:Nat)(S:Nat->Nat)(p b:List Int)(g:List (List Int)):Nat->L2.St->Hp->Prop:=fun m σ H'=>∃(J:Nat)(l:List (List Int))(ra:Addr)(bs:List Addr),σ=[some (.ref a),some (.ref r),some (.int st),some (.int bound),some mo,some (.ref bf),some (.int (bound*Tg.sizeOf g)),some (.ref q),some (.ref ra)]/\Same H2 H'/\H' q=some (.lst (bs.map V.ref))/\aL H' bs l/\
   aN H' ra (Wl.lss p b (J*st))/\Wl.StepsAt n g b p st bound (Wl.Cnt S k) J l/\J<=S k+1/\m=S k+1 - J
theorem steps_len{n k:Nat}{st bound:Int}{p b:List Int}{g:List (List Int)}{S:Nat->Nat}{J:Nat}(SO:Wl.SeekOk n (g++[b]) bound S)(hk:g.length=k)(lp:p.length=n)(lb:b.length=n)(hst:st=1\/st= -1)(h0:st*Wl.bil g b p<=0)
  (hq:Wl.bil g (Wl.lss p b (J*st)) (Wl.lss p b (J*st))<=bound*Tg.sizeOf g):J<=S k:=by
 subst hk
 exact(SO.ch.last.1).steps_le lp lb SO.ch.last.2 hst h0 SO.last hq
theorem ok_steps{k c:Nat}{f fS fL fR:Addr}{fd fdS fdL fdR:FuncData}(hc:11<=c)(F:Fun K "reached_by_steps" "reached_by_steps" gM f fd)(T:Txt K mg)
  (GS:FnOk P w K mg base CX0 11 fS fdS ["rows"] gL) (kS:W.keepIn K (.ref fS)=true) (bS:Binds K fdS ["rows"] []) (mS:mg "size_of"=some (.ref fS))
  (GL:FnOk P w K mg base CX0 1 fL fdL ["vector","times","other"] eD) (kL:W.keepIn K (.ref fL)=true) (bL:Binds K fdL ["vector","times","other"] []) (mL:mg "less"=some (.ref fL))
  (GR:FnOk P w K mg base CX0 c fR fdR ["point","rows","bound","most"] (eY k)) (kR:W.keepIn K (.ref fR)=true) (bR:Binds K fdR ["point","rows","bound","most"] []) (mR:mg "reached"=some (.ref fR)) :
  FnOk P w K mg base CX0 (c+1) f fd ["start","rows","step","bound","most"] (spSteps k):=by
 refine F.ok fx (fun vs H Q E h=>?_) (fun cdv A outer s H vs Q E hr h=>?_)
 ·obtain⟨a,r,st,bound,mo,n,B,R,S,p,b,g,rfl,_⟩:=h
  rfl
 ·obtain⟨a,r,st,bound,mo,n,B,R,S,p,b,g,rfl,ha,⟨as,hr0,hav⟩,lp,hk,SO,hst,h0,Bp,Bg,hRB,hf,hM,kq⟩:=h
  have hrS:Room 11 _:=hr.mono (by omega)
  have hr1:Room 1 _:=hr.mono (by omega)
  refine⟨_,aF (aZ (i:=5) fx.nd rfl (Or.inl rfl) (cE (sll K) (pv 1) cg (cJ (gu f8 aQ))))
   (aF (aZ (i:=6) fx.nd rfl (Or.inl rfl) (af ci (pv 3) (aJ GS hrS rfl mS kS bS .nil aS (aA (pv 5) aE))))
   (aF (aZ (i:=7) fx.nd rfl (Or.inl rfl) (bJ aE))
   (aF (aZ (i:=8) fx.nd rfl (Or.inl rfl) (pv 0))
   (aF (fc PassesOwn.never (PW.pt (pw_and (ad jT (aJ GS hrS rfl mS kS bS .nil aS (aA (af cR (pv 5) (bJ (aA (pv 8) aE))) aE)) (pv 6) (ao _))
     (pw_and1 (PW.pt (pw_or (ad op_isN (pv 4) pe_non (ao _)) (pw_or1 (ad jT (ag a8 (by rfl) T.len PySem.boot_len (aA (pv 7) aE)) (pv 4) (ao _))))))))
    (aF (e7 (iM PySem.F.plainAttrs_list PySem.F.slot_list_extend PySem.F.type_list_extend mt_extend (pv 7) (aA (aJ GR hr rfl mR kR bR .nil aS (aA (pv 8) (aA (pv 5) (aA (pv 3) (aA (pv 4) aE))))) aE)))
    (aK (aZ (i:=8) fx.nd rfl (Or.inl rfl) (aJ GL hr1 rfl mL kL bL .nil aS (aA (pv 8) (aA (pv 2) (aA (bj (ixl K) (pv 1) (gu f8 aQ) (fun _ _=>rfl)) aE))))))))
   (aK (aV (pv 7))))))),?_⟩
  obtain⟨as',ab,eas,hag,hab⟩:=hav.split
  have lb:b.length=n:=SO.len b (by simp)
  have Lg:Wl.Len n g:=SO.pre.len
  have k3:=SO.k3
  rw [List.length_append,List.length_singleton] at k3
  have n1:=SO.n1
  have n3:=SO.n3
  have Bg':Wl.Bds R g:=fun v hv=>Bg v (List.mem_append_left _ hv)
  have Bb:Wl.Bd B b:=(Bg b (by simp)).mono hRB
  have dB:=Wl.eR (B:=R+R+n) g.length (m:=fun(i j:Nat)=>Tg.dot (g.getD i []) (g.getD j [])) (fun i j hi hj=>by
   have e1:g.getD i []=g[i]:=by simp [hi]
   have e2:g.getD j []=g[j]:=by simp [hj]
   rw [e1,e2]
   exact Wl.eQ (Lg _ (List.getElem_mem hi)) (Bg' _ (List.getElem_mem hi)) (Bg' _ (List.getElem_mem hj)))
  have db3:Wl.db (R+R+n) g.length<=3*(R+R+n)+7:=by
   match g.length,(by omega:g.length<=3) with
   | 0,_=>simp [Wl.db]
   | 1,_=>simp [Wl.db]; omega
   | 2,_=>simp [Wl.db]; omega
   | 3,_=>simp [Wl.db]; omega
  have sm:=SO.small
  rw [hk] at sm
  refine⟨_,rfl,_,rfl,_,rfl,r,_,rfl,SqL.of hr0,fun bf hbf=>?_⟩
  have ecut:cH (as.map V.ref) none (some (-1))=as'.map V.ref:=by
   rw [cut_last,eas,List.map_append]
   simp
  have s1:Same H (upd H bf (.lst (cH (as.map V.ref) none (some (-1))))):=Same.new hbf
  have rb1:ak (upd H bf (.lst (cH (as.map V.ref) none (some (-1))))) bf g:=⟨as',by rw [aB,ecut],hag.keep s1⟩
  refine⟨_,rfl,_,rfl,bf,n,R,g,rfl,rb1,Lg,by omega,by omega,Bg',by omega,fun H2 s2=>?_⟩
  have s02:=s1.trans s2
  refine⟨_,_,rfl,rfl,cu SO.bd dB (by omega),Nat.zero_le _,fun q hq=>?_⟩
  have nq:H q=none:=s02.free hq
  have s3:Same H2 (upd H2 q (.lst [])):=Same.new hq
  refine⟨_,rfl,?_⟩
  refine⟨stepsW a r bf q st bound mo H2 n k S p b g,⟨_,0,[],a,[],rfl,s3,aB,trivial,?_,Wl.StepsAt.nil,Nat.zero_le _,rfl⟩,?_⟩
  ·have e:Wl.lss p b (((0:Nat):Int)*st)=p:=by
    rw [show((0:Nat):Int)*st=0 by simp]; exact Wl.gT lp lb
   rw [e]
   exact(s02.trans s3) _ _ ha
  rintro m σ H' ⟨J,l,ra,bs,rfl,hs,hq',hbs,hra,SA,hJ,rfl⟩
  have lrest:(Wl.lss p b (J*st)).length=n:=Wl.bY _ lp lb
  have kJ:((J:Int)*st).natAbs<2^26:=by
   rcases hst with rfl | rfl <;> simp <;> omega
  have Brest:=bd_lss lp lb Bp Bb kJ
  have hbf':H' bf=some (.lst (as'.map V.ref)):=by
   have:=hs _ _ (s2 _ _ (show(upd H bf (.lst (cH (as.map V.ref) none (some (-1))))) bf=some (.lst (as'.map V.ref)) by rw [aB,ecut]))
   exact this
  have hag':aL H' as' g:=hag.keep (s02.trans hs)
  have lne:∀x∈l,x≠[]:=fun x hx e=>by
   obtain⟨j,_,c,_⟩:=(SA.mem x).1 hx
   have:=c.1
   rw [e] at this
   simp at this
   omega
  refine⟨_,rfl,_,rfl,by show 1<=sizeLine; decide,fun l1 hl1=>?_⟩
  have t1:Same H' (upd H' l1 (.lst [.ref ra])):=Same.new hl1
  refine⟨bf,l1,as'.map V.ref,[.ref ra],rfl,rfl,t1 _ _ hbf',aB,?_,fun p3 hp3=>?_⟩
  ·rw [List.length_map,hag.len]
   exact aq (by omega)
  have t2:Same H' _:=t1.trans (Same.new (o:=.lst (as'.map V.ref++[.ref ra])) hp3)
  refine⟨p3,n,B+28,g++[Wl.lss p b (J*st)],rfl,⟨as'++[ra],by rw [aB,List.map_append]; rfl,(hag'.append (aL.one hra)).keep t2⟩,fun v hv=>?_,by omega,by simp; omega,fun v hv=>?_,by omega,fun H5 s5=>?_⟩
  ·rcases List.mem_append.1 hv with h | h
   ·exact Lg v h
   ·rw [List.mem_singleton.1 h]; exact lrest
  ·rcases List.mem_append.1 hv with h | h
   ·exact(Bg' v h).mono (by omega)
   ·rw [List.mem_singleton.1 h]; exact Brest
  have t5:=t2.trans s5
  refine⟨_,rfl,_,_,rfl,rfl,_,rfl,?_⟩
  dsimp only
  by_cases hle:Tg.sizeOf (g++[Wl.lss p b (J*st)])<=bound*Tg.sizeOf g
  ·rw [if_pos (by simpa using hle)]
   have hJS:J<=S k:=steps_len SO hk lp lb hst h0 hle
   have hq5:=t5 _ _ hq'
   have llen:=SA.len
   have lle:l.length<=16777216:=by
    have:J*Wl.Cnt S k<=(S k+1)*Wl.Cnt S k:=Nat.mul_le_mul_right _ hJ
    omega
   refine⟨_,rfl,rfl,_,rfl,?_⟩
   dsimp only
   by_cases hmo:mo=.non
   all_goals first
    | rw [if_pos (by simpa using hmo)]
      try dsimp only
      rw [if_pos rfl]
    | rw [if_neg (by simpa using hmo)]
      obtain⟨mm,emm,hmm⟩:=hM.resolve_left hmo
      refine⟨_,rfl,q,_,rfl,.inl (SqL.of hq5),_,rfl,_,mm,rfl,emm,_,rfl,?_⟩
      have hl2:((bs.map V.ref).length:Int)<=mm:=by
       rw [List.length_map,hbs.len]
       exact hmm l SA.nd fun v hv=>by
        obtain⟨j,_,c,d⟩:=(SA.mem v).1 hv
        exact⟨c.1,d⟩
      dsimp only
      rw [if_pos (by simpa using hl2)]
   all_goals
    refine⟨fun σ' H''=>∃m',m'<S k+1 - J/\stepsW a r bf q st bound mo H2 n k S p b g m' σ' H'',fun σ' H'' hh=>hh,?_⟩
    refine⟨_,rfl,.inl ⟨rfl,_,SqL.of hq5⟩,_,rfl,_,rfl,_,rfl,_,rfl,ra,bf,bound,mo,n,B+28,R,S,Wl.lss p b (J*st),g,rfl,t5 _ _ hra,⟨as',t5 _ _ hbf',hag'.keep t5⟩,lrest,hk,SO.pre,Brest,Bg',by omega,hf,hM,fun H6 q6 l6 hq6 s6 hl6 R6=>?_⟩
    obtain⟨as6,ha6,hv6⟩:=hl6
    have hq66:=s6 _ _ hq5
    have l6len:=R6.len
    have nql6:q≠q6:=fun e=>by rw [e] at hq5; rw [hq6] at hq5; cases hq5
    refine⟨q,q6,bs.map V.ref,as6.map V.ref,rfl,rfl,hq66,ha6,?_,?_⟩
    ·rw [List.length_map,List.length_map,hbs.len,hv6.len,sizeLine_eq]
     have h1:(J+1)*Wl.Cnt S k<=(S k+1)*Wl.Cnt S k:=Nat.mul_le_mul_right _ (by omega)
     have h2:(J+1)*Wl.Cnt S k=J*Wl.Cnt S k+Wl.Cnt S k:=by grind
     omega
    ·have t6:=t5.trans s6
     have l6ne:∀x∈l6,x≠[]:=fun x hx e=>by
      have:=((R6.mem x).1 hx).1.1
      rw [e] at this
      simp at this
      omega
     have SA':=SA.snoc (SO.ch.last.1) lp lb SO.ch.last.2 hst R6
     have sU:Same H2 (upd H6 q (.lst (bs.map V.ref++as6.map V.ref))):=fun d o e=>by
      rw [aO (aP e hq)]
      exact t6 _ _ (hs _ _ e)
     have hr6:(upd H6 q (.lst (bs.map V.ref++as6.map V.ref))) r=some (.lst (as.map V.ref)):=sU _ _ (s02 _ _ hr0)
     have hra6:aN (upd H6 q (.lst (bs.map V.ref++as6.map V.ref))) ra (Wl.lss p b (J*st)):=by
      have:=aL.upd (o:=.lst (bs.map V.ref++as6.map V.ref)) (aL.one (t6 _ _ hra)) (fun x hx e=>by rw [List.mem_singleton.1 hx] at e; rw [e] at lrest; simp at lrest; omega) hq66
      exact this.1
     have hab6:aN (upd H6 q (.lst (bs.map V.ref++as6.map V.ref))) ab b:=sU _ _ (s02 _ _ hab)
     refine⟨_,rfl,_,rfl,_,rfl,_,rfl,r,as.map V.ref,_,.ref ab,rfl,rfl,SqL.of hr6,by rw [eas,List.map_append]; exact at_last _ _,?_⟩
     refine⟨ra,ab,st,_,b,rfl,hra6,hab6,by rw [lrest,lb],by omega,fun x hx=>cu (m:=2) (by rcases hst with rfl | rfl <;> decide) (cO Bb x hx) (by omega),fun H7 z hz s7 hzv=>?_⟩
     refine⟨S k+1 - (J+1),by omega,J+1,l++l6,z,bs++as6,rfl,sU.trans s7,?_,?_,?_,SA',by omega,rfl⟩
     ·rw [List.map_append]
      exact s7 _ _ aB
     ·refine aL.keep s7 (aL.append (aL.upd (hbs.keep t6) lne hq66) (aL.upd hv6 l6ne hq66))
     ·have e:Wl.lss p b (((J+1:Nat):Int)*st)=fE (Wl.lss p b (J*st)) st b:=by
       show _=Wl.lss (Wl.lss p b (J*st)) b st
       rw [Wl.e9 _ _ lp lb]
       congr 1
       have:((J+1:Nat):Int)*st=J*st+st:=by push_cast; grind
       exact this
      rw [e]; exact hzv
  ·rw [if_neg (by simpa using hle)]
   try dsimp only
   rw [if_neg (by decide)]
   refine⟨_,rfl,?_⟩
   have hlen:=SA.len
   refine kq H5 q l nq (fun d o e=>t5 _ _ (hs _ _ (s02 _ _ e))) ⟨bs,t5 _ _ hq',hbs.keep t5⟩ (SA.done SO.ch.last.1 lp lb SO.ch.last.2 hst h0 (by
    have:¬ (Wl.bil g (Wl.lss p b (J*st)) (Wl.lss p b (J*st))<=bound*Tg.sizeOf g):=hle
    omega)) SA.nd ?_
   have:J*Wl.Cnt S k<=(S k+1)*Wl.Cnt S k:=Nat.mul_le_mul_right _ hJ
   omega
theorem d5{n R:Nat}{g:List (List Int)}(Lg:Wl.Len n g)(n3:n<=3)(k3:g.length<=3)(Bg:Wl.Bds R g):(Tg.sizeOf g).natAbs<2^(2*(3*R+8)):=by
 have dB:=Wl.eR (B:=R+R+n) g.length (m:=fun(i j:Nat)=>Tg.dot (g.getD i []) (g.getD j [])) (fun i j hi hj=>by
  have e1:g.getD i []=g[i]:=by simp [hi]
  have e2:g.getD j []=g[j]:=by simp [hj]
  rw [e1,e2]
  exact Wl.eQ (Lg _ (List.getElem_mem hi)) (Bg _ (List.getElem_mem hi)) (Bg _ (List.getElem_mem hj)))
 have db3:Wl.db (R+R+n) g.length<=3*(R+R+n)+7:=by
  match g.length,k3 with
  | 0,_=>simp [Wl.db]
  | 1,_=>simp [Wl.db]; omega
  | 2,_=>simp [Wl.db]; omega
  | 3,_=>simp [Wl.db]; omega
 exact Nat.lt_of_lt_of_le dB (Nat.pow_le_pow_right (by decide) (by omega))
theorem near_bits{n P D:Nat}{o:Int}{g:List (List Int)}{p b:List Int}{d:Int}{B:List Int->List Int->Int}(F:Wl.BF n g d B)(n3:n<=3)(lp:p.length=n)(lb:b.length=n)(he:0<B b b)(hd:d.natAbs<2^(2*D))(hp:Wl.Bd P p)
  (fl:-(B b b)<=B b p - o*B b b/\B b p - o*B b b<=B b b):o.natAbs<2^(P+D+2):=by
 rcases Nat.lt_or_ge o.natAbs (2^(P+D+2)) with h | h
 ·exact h
 exfalso
 have hd0:=F.pos
 have hpp0:=Wl.a9 p
 have c:=F.cs lp lb he
 have le:=F.le p lp
 have hpp:Tg.dot p p<=2^(2*P+2):=by
  have h1:=Wl.gD p p hp hp
  have h2:p.length*2^(P+P)<=4*2^(P+P):=Nat.mul_le_mul_right _ (by omega)
  have h3:(2:Nat)^(2*P+2)=4*2^(P+P):=by rw [show 2*P+2=(P+P)+2 by omega,Nat.pow_add]; omega
  have h4:((2:Int)^(2*P+2))=((2^(2*P+2):Nat):Int):=by push_cast; rfl
  rw [h4,h3]
  omega
 obtain⟨X,hX⟩:∃X:Int,X=((2^(P+D+1):Nat):Int):=⟨_,rfl⟩
 have hX0:0<X:=by rw [hX]; have:=Nat.two_pow_pos (P+D+1); omega
 have hXX:((2:Int)^(2*P+2))*2^(2*D)=X*X:=by
  rw [hX,<- Int.pow_add,<- Int.natCast_mul,<- Nat.pow_add]
  have:2*P+2+2*D=P+D+1+(P+D+1):=by omega
  rw [this]; push_cast; rfl
 have hdp:d*Tg.dot p p<X*X:=by
  have h1:d+1<=2^(2*D):=by
   have h4:((2:Int)^(2*D))=((2^(2*D):Nat):Int):=by push_cast; rfl
   rw [h4]; omega
  have h2:d*Tg.dot p p<=d*2^(2*P+2):=Int.mul_le_mul_of_nonneg_left hpp (by omega)
  have h5:(0:Int)<2^(2*P+2):=Int.pow_pos (by decide)
  have h3:(d+1)*2^(2*P+2)<=2^(2*D)*2^(2*P+2):=Int.mul_le_mul_of_nonneg_right h1 (Int.le_of_lt h5)
  have h6:(d+1)*2^(2*P+2)=d*2^(2*P+2)+2^(2*P+2):=by grind
  have h7:(2:Int)^(2*D)*2^(2*P+2)=X*X:=by rw [<- hXX]; grind
  omega
 have hbig:X+1<=o\/o<=-(X+1):=by
  have h8:(2:Nat)^(P+D+2)=2*2^(P+D+1):=by rw [show P+D+2=(P+D+1)+1 by omega,Nat.pow_succ]; omega
  rw [h8] at h
  have:=Nat.two_pow_pos (P+D+1)
  omega
 have hbb:X*B b b<=B b p\/B b p<=-(X*B b b):=by
  rcases hbig with q | q
  ·left
   have:=Int.mul_le_mul_of_nonneg_right q (by omega:0<=B b b)
   have e:(X+1)*B b b=X*B b b+B b b:=by grind
   omega
  ·right
   have:=Int.mul_le_mul_of_nonneg_right q (by omega:0<=B b b)
   have e:-(X+1)*B b b= -(X*B b b) - B b b:=by grind
   omega
 have hXe:0<=X*B b b:=Int.mul_nonneg (by omega) (by omega)
 have sq:(X*B b b)*(X*B b b)<=B b p*B b p:=by
  rcases hbb with q | q
  ·exact Int.mul_le_mul q q hXe (by omega)
  ·have:=Int.mul_le_mul (show X*B b b<=-(B b p) by omega) (show X*B b b<=-(B b p) by omega) hXe (by omega)
   have e:-(B b p)* -(B b p)=B b p*B b p:=by grind
   omega
 have h9:B b b*B p p<=B b b*(d*Tg.dot p p):=Int.mul_le_mul_of_nonneg_left le (by omega)
 have h10:B b b*(d*Tg.dot p p)<B b b*(X*X):=Int.mul_lt_mul_of_pos_left hdp he
 have h11:1*(B b b*(X*X))<=B b b*(B b b*(X*X)):=Int.mul_le_mul_of_nonneg_right (by omega) (Int.mul_nonneg (by omega) (Int.mul_nonneg (by omega) (by omega)))
 have h12:(X*B b b)*(X*B b b)=B b b*(B b b*(X*X)):=by grind
 omega
theorem often_bits{n P D:Nat}{g:List (List Int)}{p b:List Int}{d:Int}{B:List Int->List Int->Int}(F:Wl.BF n g d B)(n3:n<=3)(lp:p.length=n)(lb:b.length=n)(he:0<B b b)(hd:d.natAbs<2^(2*D))(hp:Wl.Bd P p) :
  ((B b p).fdiv (B b b)).natAbs<2^(P+D+2):=by
 have fl:=Wl.floor_beta (β:=B b p) he
 refine near_bits F n3 lp lb he hd hp ?_
 generalize (B b p).fdiv (B b b)=o at fl ⊢
 have e:(o+1)*B b b=o*B b b+B b b:=by grind
 omega
theorem bd_start{n P R:Nat}{p b:List Int}{k:Int}(lp:p.length=n)(lb:b.length=n)(hp:Wl.Bd P p)(hb:Wl.Bd R b)(hk:k.natAbs<=2^(P+(3*R+8)+2)):Wl.Bd (P+4*R+12) (Wl.lss p b k):=by
 intro j
 show(Tg.num (Wl.lss p b k) j).natAbs<_
 rw [Wl.dy k lp lb]
 have h1:=hp j
 have h2:=hb j
 have h3:(k*Tg.num b j).natAbs<=2^(P+(3*R+8)+2)*2^R:=by
  rw [Int.natAbs_mul]; exact Nat.mul_le_mul hk (by omega)
 have e:2^(P+(3*R+8)+2)*2^R=2^(P+4*R+10):=by rw [<- Nat.pow_add]; congr 1; omega
 have e2:2^(P+4*R+12)=4*2^(P+4*R+10):=by rw [show P+4*R+12=(P+4*R+10)+2 by omega,Nat.pow_add]; omega
 have h4:2^P<=2^(P+4*R+10):=Nat.pow_le_pow_right (by decide) (by omega)
 omega
theorem fn_never{P:Program}{w:World}{K:W.Frag}{mg:Str->Option Value}{base:Heap}{k:Nat}{f:Addr}{fd:FuncData}{ps:List Str}:FnOk P w K mg base CX0 k f fd ps (fun _ _ _ _=>False):=
 ⟨fun _ _ _ _ h=>h.elim,fun _ _ _ _ _ _ _ _ _ _ _ _ _ h=>h.elim⟩
abbrev j0:Stmt:=aj "rounded"
theorem iX:FnScope ["vector","rows","rest","count","whole","part"] ["vector","rows"] (aC j0):=⟨rfl,rfl,rfl,by decide +kernel,rfl,by decide +kernel,by decide +kernel⟩
def spRnd:Sp:=fun vs H Q _=>∃(a r:Addr)(n B R:Nat)(v:List Int)(g:List (List Int)),vs=[.ref a,.ref r]/\aN H a v/\ak H r g/\v.length=n/\Wl.Len n g/\Wl.Chain n g/\1<=n/\n<=3/\g.length<=3/\Wl.Bd B v/\Wl.Bds R g/\R<=B/\16*(2*(B+3*(4*R+12))+5)<=134217728/\
 ∀(H':Hp)(z:Addr),(z=a\/H z=none)->Same H H'->aN H' z (Wl.aX g g.length v)->Q (.ref z) H'
theorem btw_bits{n B:Nat}{h g:List (List Int)}(Lh:Wl.Len n h)(e:g.length=h.length)(n3:n<=3)(k3:h.length<=3)(Bh:Wl.Bds B h)(Bg:Wl.Bds B g):(between h g).natAbs<2^(6*B+16):=by
 have dB:=Wl.eR (B:=B+B+n) h.length (m:=fun(i j:Nat)=>Tg.dot (h.getD i []) (g.getD j [])) (fun i j hi hj=>by
  have e1:h.getD i []=h[i]:=by simp [hi]
  have e2:g.getD j []=g[j]:=by simp [e,hj]
  rw [e1,e2]
  exact Wl.eQ (Lh _ (List.getElem_mem hi)) (Bh _ (List.getElem_mem hi)) (Bg _ (List.getElem_mem (by omega))))
 have db3:Wl.db (B+B+n) h.length<=3*(B+B+n)+7:=by
  match h.length,k3 with
  | 0,_=>simp [Wl.db]
  | 1,_=>simp [Wl.db]; omega
  | 2,_=>simp [Wl.db]; omega
  | 3,_=>simp [Wl.db]; omega
 exact Nat.lt_of_lt_of_le dB (Nat.pow_le_pow_right (by decide) (by omega))
theorem ok_rnd{f fB fS fL:Addr}{fd fdB fdS fdL:FuncData}(hP:P.given.tree=none)(F:Fun K "rounded" "rounded" j0 f fd)(T:Txt K mg)
  (GB:FnOk P w K mg base CX0 10 fB fdB ["rows","others"] jA) (kB:W.keepIn K (.ref fB)=true) (bB:Binds K fdB ["rows","others"] []) (mB:mg "size_between"=some (.ref fB))
  (GS:FnOk P w K mg base CX0 11 fS fdS ["rows"] gL) (kS:W.keepIn K (.ref fS)=true) (bS:Binds K fdS ["rows"] []) (mS:mg "size_of"=some (.ref fS))
  (GL:FnOk P w K mg base CX0 1 fL fdL ["vector","times","other"] eD) (kL:W.keepIn K (.ref fL)=true) (bL:Binds K fdL ["vector","times","other"] []) (mL:mg "less"=some (.ref fL)) :
  FnOk P w K mg base CX0 42 f fd ["vector","rows"] spRnd:=by
 refine F.ok iX (fun vs H Q E h=>?_) (fun cdv A outer s H vs Q E hr h=>?_)
 ·obtain⟨a,r,n,B,R,v,g,rfl,_⟩:=h
  rfl
 ·obtain⟨a,r,n,B,R,v,g,rfl,ha,⟨as,hr0,hav⟩,lv,Lg,C,n1,n3,k3,Bv,Bg,hRB,hf,kq⟩:=h
  have hr10:Room 10 _:=hr.mono (by omega)
  have hr11:Room 11 _:=hr.mono (by omega)
  have hr1:Room 1 _:=hr.mono (by omega)
  have hd:=Room.pyl hr (by omega)
  refine⟨_,aF (aZ (i:=2) iX.nd rfl (Or.inl rfl) (pv 0))
   (aF (fe PassesOwn.never rfl (pi_range3 rfl T.range (aA (ag a8 (by rfl) T.len PySem.boot_len (aA (pv 1) aE)) (aA aQ (aA (gu f8 aQ) aE)))) (b8 (i:=3) iX.nd rfl (Or.inl rfl))
    (aF (aZ (i:=4) iX.nd rfl (Or.inl rfl) (aJ GS hr11 rfl mS kS bS .nil aS (aA (cE (sll K) (pv 1) cg (cJ (pv 3))) aE)))
    (aF (aZ (i:=5) iX.nd rfl (Or.inl rfl) (aJ GB hr10 rfl mB kB bB .nil aS (aA (cE (sll K) (pv 1) cg (cJ (pv 3))) (aA (af cR (cE (sll K) (pv 1) cg (cJ (af gh (pv 3) aQ))) (bJ (aA (pv 2) aE))) aE))))
    (aK (aZ (i:=2) iX.nd rfl (Or.inl rfl) (aJ GL hr1 rfl mL kL bL .nil aS (aA (pv 2) (aA (af (eM hd hP) (af cq (af ci aQ (pv 5)) (pv 4)) (af ci aQ (pv 4))) (aA (bj (ixl K) (pv 1) (af gh (pv 3) aQ) (fun _ _=>rfl)) aE)))))))))
   (aK (aV (pv 2)))),?_⟩
  have hlen:=hav.len
  have hll:(as.map V.ref).length=g.length:=by rw [List.length_map,hlen]
  refine⟨_,rfl,_,rfl,r,_,rfl,.inl (SqL.of hr0),_,rfl,(g.length:Int),0,-1,g.length,by rw [hll],?_,?_⟩
  ·have:=RgC.neg (i:=(g.length:Int)) (j:=0) (by omega) (by omega) (by omega) (by omega)
   rw [show((g.length:Int) - 0).toNat=g.length by omega] at this
   exact this
  refine for_rangeC (n:=g.length) (fun i σ H'=>∃(z:Addr)(u:List Int)(v3 v4 v5:Option L2.V),σ=[some (.ref a),some (.ref r),some (.ref z),v3,v4,v5]/\Same H H'/\aN H' z u/\u.length=n/\(z=a\/H z=none)/\Wl.Bd (B+i*(4*R+12)) u/\Wl.aX g (g.length - i) u=Wl.aX g g.length v) ?_ ?_ ?_
  ·exact⟨a,v,none,none,none,rfl,Same.refl H,ha,lv,.inl rfl,by simpa using Bv,rfl⟩
  ·rintro i σ H' hi ⟨z,u,v3,v4,v5,rfl,hs,hz,lu,oz,Bu,he⟩
   obtain⟨c,hc⟩:∃c,g.length=c+1+i:=⟨g.length - 1 - i,by omega⟩
   have hcl:c<g.length:=by omega
   have ec:(g.length:Int)+(i:Nat)*(-1)=((c+1:Nat):Int):=by omega
   have im:i*(4*R+12)<=2*(4*R+12):=Nat.mul_le_mul_right _ (by omega)
   have im1:(i+1)*(4*R+12)=i*(4*R+12)+(4*R+12):=by grind
   rw [ec]
   have hr':=hs _ _ hr0
   have hav':=hav.keep hs
   have tk:∀m:Nat,cH (as.map V.ref) none (some (m:Int))=(as.take m).map V.ref:=fun m=>by rw [cut_lo,List.map_take]
   have Lt:=Wl.take_len Lg
   have Bt:∀m,Wl.Bds R (g.take m):=fun m x hx=>Bg x (List.mem_of_mem_take hx)
   have Bu':Wl.Bd (B+i*(4*R+12)) u:=Bu
   have lb:=Wl.dw Lg hcl
   have Bb:Wl.Bd R (Wl.nth g c):=by
    have:Wl.nth g c=g[c]:=by simp [Wl.nth,hcl]
    rw [this]; exact Bg _ (List.getElem_mem hcl)
   have Fc:=C.bf c hcl
   have he0:0<Tg.sizeOf (g.take (c+1)):=C.pos (c+1) (by omega)
   have ebt:=Wl.bil_take hcl
   refine⟨_,rfl,_,rfl,_,rfl,r,_,rfl,SqL.of hr',fun q1 hq1=>?_⟩
   have t1:Same H' _:=Same.new (o:=.lst (cH (as.map V.ref) none (some ((c+1:Nat):Int)))) hq1
   refine⟨q1,n,R,g.take (c+1),rfl,⟨as.take (c+1),by rw [aB,tk],(hav'.take (c+1)).keep t1⟩,Lt _,by omega,by rw [List.length_take]; omega,Bt _,by omega,fun H2 s2=>?_⟩
   have t2:=t1.trans s2
   refine⟨_,rfl,_,rfl,_,rfl,r,_,rfl,SqL.of (t2 _ _ hr'),fun q2 hq2=>?_⟩
   have t3:=t2.trans (Same.new (o:=.lst (cH (as.map V.ref) none (some ((c+1:Nat):Int)))) hq2)
   refine⟨_,rfl,_,rfl,_,_,rfl,rfl,_,rfl,r,_,rfl,SqL.of (t3 _ _ hr'),fun q3 hq3=>?_⟩
   have ec1:((c+1:Nat):Int) - 1=(c:Int):=by omega
   have t4:=t3.trans (Same.new (o:=.lst (cH (as.map V.ref) none (some (((c+1:Nat):Int) - 1)))) hq3)
   refine⟨_,rfl,by show 1<=sizeLine; decide,fun q4 hq4=>?_⟩
   have t5:=t4.trans (Same.new (o:=.lst [.ref z]) hq4)
   refine⟨q3,q4,(as.take c).map V.ref,[.ref z],rfl,rfl,?_,aB,?_,fun q5 hq5=>?_⟩
   ·rw [aO (aP aB hq4),aB,ec1,tk]
   ·rw [List.length_map,List.length_take]
    exact aq (by omega)
   have t6:=t5.trans (Same.new (o:=.lst ((as.take c).map V.ref++[.ref z])) hq5)
   have hq2':(upd (upd (upd (upd H2 q2 (.lst (cH (as.map V.ref) none (some ((c+1:Nat):Int))))) q3 (.lst (cH (as.map V.ref) none (some (((c+1:Nat):Int) - 1))))) q4 (.lst [.ref z])) q5 (.lst ((as.take c).map V.ref++[.ref z]))) q2=some (.lst ((as.take (c+1)).map V.ref)):=by
    have w1:Same (upd H2 q2 (.lst (cH (as.map V.ref) none (some ((c+1:Nat):Int))))) _:=((Same.new (o:=.lst (cH (as.map V.ref) none (some (((c+1:Nat):Int) - 1)))) hq3).trans (Same.new (o:=.lst [.ref z]) hq4)).trans (Same.new (o:=.lst ((as.take c).map V.ref++[.ref z])) hq5)
    exact w1 _ _ (by rw [aB,tk])
   have Lu:Wl.Len n (g.take c++[u]):=fun x hx=>by
    rcases List.mem_append.1 hx with h | h
    ·exact Lt c x h
    ·rw [List.mem_singleton.1 h]; exact lu
   have Bgu:Wl.Bds (B+i*(4*R+12)) (g.take c++[u]):=fun x hx=>by
    rcases List.mem_append.1 hx with h | h
    ·exact(Bt c x h).mono (by omega)
    ·rw [List.mem_singleton.1 h]; exact Bu
   have Bgt:Wl.Bds (B+i*(4*R+12)) (g.take (c+1)):=fun x hx=>(Bt _ x hx).mono (by omega)
   have lens:(g.take c++[u]).length=(g.take (c+1)).length:=by simp; omega
   refine⟨q2,q5,n,B+i*(4*R+12),g.take (c+1),g.take c++[u],rfl,⟨as.take (c+1),hq2',(hav'.take (c+1)).keep t6⟩,⟨as.take c++[z],by rw [aB,List.map_append]; rfl,((hav'.take c).keep t6).append (aL.one (t6 _ _ hz))⟩,Lt _,Lu,lens,by omega,by rw [List.length_take]; omega,Bgt,Bgu,by omega,fun H7 s7=>?_⟩
   have t7:=t6.trans s7
   have eb:between (g.take (c+1)) (g.take c++[u])=Wl.bil (g.take c) (Wl.nth g c) u:=by rw [Wl.take_snoc hcl]; rfl
   have pb:=btw_bits (Lt (c+1)) lens n3 (by rw [List.length_take]; omega) Bgt Bgu
   have wb:=d5 (Lt (c+1)) n3 (by rw [List.length_take]; omega) (Bt (c+1))
   have wb0:=d5 (Lt c) n3 (by rw [List.length_take]; omega) (Bt c)
   refine⟨_,rfl,_,rfl,_,_,rfl,rfl,cu (m:=2) (by decide) pb (by omega),_,rfl,_,_,rfl,rfl,_,rfl,_,_,rfl,rfl,cu (m:=2) (by decide) wb (by omega),_,_,rfl,rfl,by omega,_,rfl,_,rfl,_,_,rfl,rfl,r,as.map V.ref,_,.ref (as[c]'(by omega)),rfl,rfl,SqL.of (t7 _ _ hr'),?_,?_⟩
   ·rw [ec1]
    exact dY (by rw [List.getElem?_map,List.getElem?_eq_getElem (by omega)]; rfl)
   have et:(2*between (g.take (c+1)) (g.take c++[u])+Tg.sizeOf (g.take (c+1))).fdiv (2*Tg.sizeOf (g.take (c+1)))=Wl.rt g c u:=by rw [eb]; rfl
   have rn:=Wl.round_near (β:=Wl.bil (g.take c) (Wl.nth g c) u) he0
   have rtb:(Wl.rt g c u).natAbs<2^(B+i*(4*R+12)+(3*R+8)+2):=by
    refine near_bits Fc n3 lu lb (by rw [ebt]; exact he0) wb0 Bu ?_
    rw [ebt]
    have rn':-(Tg.sizeOf (g.take (c+1)))<=2*(Wl.bil (g.take c) (Wl.nth g c) u - Wl.rt g c u*Tg.sizeOf (g.take (c+1)))/\2*(Wl.bil (g.take c) (Wl.nth g c) u - Wl.rt g c u*Tg.sizeOf (g.take (c+1)))<=Tg.sizeOf (g.take (c+1)):=rn
    omega
   obtain⟨row,e1,e2⟩:=hav'.get (i:=c) (List.getElem?_eq_getElem (by omega))
   have erow:row=Wl.nth g c:=by
    rw [List.getElem?_eq_getElem hcl] at e1
    simp [Wl.nth,hcl]
    exact(Option.some.inj e1).symm
   rw [erow] at e2
   refine⟨z,as[c]'(by omega),_,u,Wl.nth g c,rfl,t7 _ _ hz,t7 _ _ e2,by rw [lu,lb],by omega,fun x hx=>by rw [et]; exact cu rtb (cO Bb x hx) (by omega),fun H8 y hy s8 hyv=>?_⟩
   rw [et] at hyv
   have t8:=t7.trans s8
   refine⟨y,_,_,_,_,rfl,hs.trans t8,hyv,Wl.bY _ lu lb,.inr ((hs.trans t7).free hy),?_,?_⟩
   ·have:=bd_start (k:=Wl.rt g c u) lu lb Bu Bb (by omega)
    rw [im1]
    have ea:B+i*(4*R+12)+4*R+12=B+(i*(4*R+12)+(4*R+12)):=by omega
    rw [<- ea]; exact this
   ·rw [show g.length - i=c+1 by omega] at he
    rw [show g.length - (i+1)=c by omega]
    exact he
  ·rintro σ H' ⟨z,u,v3,v4,v5,rfl,hs,hz,lu,oz,Bu,he⟩
   refine⟨_,rfl,kq H' z oz hs ?_⟩
   rw [Nat.sub_self] at he
   rw [<- he]; exact hz
theorem lll_turn{n p:Nat}{g m:List (List Int)}{Mx LB:Int}(S:Wl.LState n g m Mx LB p)(hLB:2*Mx+Mx*Mx<=LB)(hp:p<m.length)(k3:m.length<=3) :
  (4*Tg.sizeOf (m.take (p - 1)++[Wl.aX (m.take p) p (Wl.nth m p)])<3*Tg.sizeOf (m.take (p - 1)++[Wl.nth m (p - 1)])->
   Wl.LState n g (m.take (p - 1)++[Wl.aX (m.take p) p (Wl.nth m p),Wl.nth m (p - 1)]++m.drop (p+1)) Mx LB (max (p - 1) 1)/\Wl.lmu (m.take (p - 1)++[Wl.aX (m.take p) p (Wl.nth m p),Wl.nth m (p - 1)]++m.drop (p+1)) (max (p - 1) 1)<Wl.lmu m p)/\
  (¬ 4*Tg.sizeOf (m.take (p - 1)++[Wl.aX (m.take p) p (Wl.nth m p)])<3*Tg.sizeOf (m.take (p - 1)++[Wl.nth m (p - 1)])->
   Wl.LState n g (m.take (p - 1)++[Wl.nth m (p - 1),Wl.aX (m.take p) p (Wl.nth m p)]++m.drop (p+1)) Mx LB (p+1)/\Wl.lmu (m.take (p - 1)++[Wl.nth m (p - 1),Wl.aX (m.take p) p (Wl.nth m p)]++m.drop (p+1)) (p+1)<Wl.lmu m p):=by
 have p1:=S.p1
 match m,p,p1,hp,k3 with
 | [],p,p1,hp,_=>simp at hp
 | [u],p,p1,hp,_=>simp at hp; omega
 | [u,v],1,_,_,_=>
   have t:=Wl.turn2 S hLB rfl
   rw [show([u,v]:List (List Int)).take (1 - 1)++[Wl.aX ([u,v].take 1) 1 (Wl.nth [u,v] 1)]=[Wl.aX [u] 1 v] from rfl,show([u,v]:List (List Int)).take (1 - 1)++[Wl.nth [u,v] (1 - 1)]=[u] from rfl,Wl.au,Wl.au]
   exact t
 | [u,v],p+2,_,hp,_=>simp at hp; omega
 | [u,v,w],1,_,_,_=>
   have t:=Wl.turn31 S hLB rfl
   rw [show([u,v,w]:List (List Int)).take (1 - 1)++[Wl.aX ([u,v,w].take 1) 1 (Wl.nth [u,v,w] 1)]=[Wl.aX [u] 1 v] from rfl,show([u,v,w]:List (List Int)).take (1 - 1)++[Wl.nth [u,v,w] (1 - 1)]=[u] from rfl,Wl.au,Wl.au]
   exact t
 | [u,v,w],2,_,_,_=>
   have t:=Wl.turn32 S hLB rfl
   rw [show([u,v,w]:List (List Int)).take (2 - 1)++[Wl.aX ([u,v,w].take 2) 2 (Wl.nth [u,v,w] 2)]=[u,Wl.aX [u,v] 2 w] from rfl,show([u,v,w]:List (List Int)).take (2 - 1)++[Wl.nth [u,v,w] (2 - 1)]=[u,v] from rfl,Wl.b7,Wl.b7]
   exact t
 | [u,v,w],p+3,_,hp,_=>simp at hp; omega
 | u::v::w::x::m,p,_,_,k3=>simp at k3
theorem dA{R:Nat}:∀{v:List Int},Tg.dot v v<2^(2*R)->Wl.Bd R v
 | [],_=>fun j=>by simp [Tg.num,Nat.two_pow_pos]
 | x::v,h=>by
   rw [Wl.b9] at h
   have h1:=Wl.a9 v
   have h2:=Wl.cN x
   have ih:=dA (v:=v) (R:=R) (by omega)
   intro j
   match j with
   | j+1=>exact ih j
   | 0=>
     show x.natAbs<_
     rcases Nat.lt_or_ge x.natAbs (2^R) with q | q
     ·exact q
     ·exfalso
      have h3:2^R*2^R<=x.natAbs*x.natAbs:=Nat.mul_le_mul q q
      have h4:((x.natAbs*x.natAbs:Nat):Int)=x*x:=by rw [<- Int.natAbs_mul]; omega
      have h5:((2:Int)^(2*R))=((2^R*2^R:Nat):Int):=by rw [<- Nat.pow_add,show R+R=2*R by omega]; push_cast; rfl
      omega
abbrev j1:Stmt:=aj "reduced"
theorem gI:FnScope ["rows","made","place","before","first","second"] ["rows"] (aC j1):=⟨rfl,rfl,rfl,by decide +kernel,rfl,by decide +kernel,by decide +kernel⟩
structure LRes(n:Nat)(g m:List (List Int))(R:Nat):Prop where
 L:Wl.Len n m
 len:m.length=g.length
 sp:∀v,Wl.Sp n m v↔Wl.Sp n g v
 ch:Wl.Chain n m
 bd:Wl.Bds (6*R+17) m
 sh:∀q,1<=q->q<m.length->Wl.Adj m q
def jP:Sp:=fun vs H Q _=>∃(r:Addr)(n R:Nat)(g:List (List Int)),vs=[.ref r]/\ak H r g/\Wl.Len n g/\Wl.Chain n g/\1<=n/\n<=3/\g.length<=3/\Wl.Bds R g/\R<=5000/\
 ∀(H':Hp)(q:Addr)(m:List (List Int)),Same H H'->ak H' q m->LRes n g m R->Q (.ref q) H'
theorem ok_red{f fR fS:Addr}{fd fdR fdS:FuncData}(F:Fun K "reduced" "reduced" j1 f fd)(T:Txt K mg)(mx:mg "max"=none)
  (GR:FnOk P w K mg base CX0 42 fR fdR ["vector","rows"] spRnd) (kR:W.keepIn K (.ref fR)=true) (bR:Binds K fdR ["vector","rows"] []) (mR:mg "rounded"=some (.ref fR))
  (GS:FnOk P w K mg base CX0 11 fS fdS ["rows"] gL) (kS:W.keepIn K (.ref fS)=true) (bS:Binds K fdS ["rows"] []) (mS:mg "size_of"=some (.ref fS)) :
  FnOk P w K mg base CX0 43 f fd ["rows"] jP:=by
 refine F.ok gI (fun vs H Q E h=>?_) (fun cdv A outer s H vs Q E hr h=>?_)
 ·obtain⟨r,n,R,g,rfl,_⟩:=h
  rfl
 ·obtain⟨r,n,R,g,rfl,hg,Lg,C,n1,n3,k3,Bg,hR,kq⟩:=h
  have hr11:Room 11 _:=hr.mono (by omega)
  refine⟨_,aF (aZ (i:=1) gI.nd rfl (Or.inl rfl) (pv 0))
   (aF (aZ (i:=2) gI.nd rfl (Or.inl rfl) aQ)
   (aF (fc PassesOwn.never (ad jS (pv 2) (ag a8 (by rfl) T.len PySem.boot_len (aA (pv 1) aE)) (ao _))
    (aF (aZ (i:=3) gI.nd rfl (Or.inl rfl) (cE (sll K) (pv 1) cg (cJ (af gh (pv 2) aQ))))
    (aF (aZ (i:=4) gI.nd rfl (Or.inl rfl) (bj (ixl K) (pv 1) (af gh (pv 2) aQ) (fun _ _=>rfl)))
    (aF (aZ (i:=5) gI.nd rfl (Or.inl rfl) (aJ GR hr rfl mR kR bR .nil aS (aA (bj (ixl K) (pv 1) (pv 2) (fun _ _=>rfl)) (aA (cE (sll K) (pv 1) cg (cJ (pv 2))) aE))))
    (aK (cC (ad jS (af ci aQ (aJ GS hr11 rfl mS kS bS .nil aS (aA (af cR (pv 3) (bJ (aA (pv 5) aE))) aE))) (af ci aQ (aJ GS hr11 rfl mS kS bS .nil aS (aA (af cR (pv 3) (bJ (aA (pv 4) aE))) aE))) (ao _))
     (aF (aZ (i:=1) gI.nd rfl (Or.inl rfl) (af cR (af cR (pv 3) (bJ (aA (pv 5) (aA (pv 4) aE)))) (cE (sll K) (pv 1) (cJ (af cq (pv 2) aQ)) cg)))
     (aK (aZ (i:=2) gI.nd rfl (Or.inl rfl) (ag (call_max2 rfl) (by rfl) mx boot_max (aA (af gh (pv 2) aQ) (aA aQ aE))))))
     (aF (aZ (i:=1) gI.nd rfl (Or.inl rfl) (af cR (af cR (pv 3) (bJ (aA (pv 4) (aA (pv 5) aE)))) (cE (sll K) (pv 1) (cJ (af cq (pv 2) aQ)) cg)))
     (aK (aZ (i:=2) gI.nd rfl (Or.inl rfl) (af cq (pv 2) aQ))))))))))
   (aK (aV (pv 1))))),?_⟩
  obtain⟨Mx,hMx⟩:∃Mx:Int,Mx=((2^(2*(3*R+8)):Nat):Int):=⟨_,rfl⟩
  have hMpos:1<=Mx:=by rw [hMx]; have:=Nat.two_pow_pos (2*(3*R+8)); omega
  have hLBlt:2*Mx+Mx*Mx<2^(2*(6*R+17)):=by
   have e:((2:Int)^(2*(6*R+17)))=4*(Mx*Mx):=by
    rw [hMx,<- Int.natCast_mul,<- Nat.pow_add]
    have:(2:Nat)^(2*(6*R+17))=4*2^(2*(3*R+8)+2*(3*R+8)):=by
     rw [show 2*(6*R+17)=(2*(3*R+8)+2*(3*R+8))+2 by omega,Nat.pow_succ,Nat.pow_succ]; omega
    have h2:((2:Int)^(2*(6*R+17)))=((2^(2*(6*R+17)):Nat):Int):=by push_cast; rfl
    rw [h2,this]; push_cast; rfl
   have h1:1*Mx<=Mx*Mx:=Int.mul_le_mul_of_nonneg_right hMpos (by omega)
   rw [e]; omega
  have S0:Wl.LState n g g Mx (2*Mx+Mx*Mx) 1:=by
   refine⟨Lg,rfl,fun _=>Iff.rfl,C,fun i hi=>?_,fun v hv=>?_,Nat.le_refl _,fun q h1 h2=>by omega⟩
   ·have:=d5 (Wl.take_len Lg i) n3 (by rw [List.length_take]; omega) (R:=R) fun x hx=>Bg x (List.mem_of_mem_take hx)
    rw [hMx]; omega
   ·have h1:=Wl.gD v v (Bg v hv) (Bg v hv)
    have h2:v.length*2^(R+R)<=4*2^(R+R):=Nat.mul_le_mul_right _ (by rw [Lg v hv]; omega)
    have h3:4*2^(R+R)<=2^(2*(3*R+8)):=by
     rw [show(4:Nat)=2^2 from rfl,<- Nat.pow_add]; exact Nat.pow_le_pow_right (by decide) (by omega)
    have h4:0<=Mx*Mx:=Wl.cN Mx
    omega
  refine⟨_,rfl,?_⟩
  refine⟨fun mm σ H'=>∃(q:Addr)(m:List (List Int))(p:Nat)(v3 v4 v5:Option L2.V),σ=[some (.ref r),some (.ref q),some (.int p),v3,v4,v5]/\Same H H'/\ak H' q m/\Wl.LState n g m Mx (2*Mx+Mx*Mx) p/\mm=Wl.lmu m p,⟨_,r,g,1,none,none,none,rfl,Same.refl H,hg,S0,rfl⟩,?_⟩
  rintro mm σ H' ⟨q,m,p,v3,v4,v5,rfl,hs,⟨as,hq,hav⟩,S,rfl⟩
  have hlen:=hav.len
  have ml:=S.len
  have p1:=S.p1
  have Bm:Wl.Bds (6*R+17) m:=fun v hv=>dA (Int.lt_of_le_of_lt (S.lb v hv) hLBlt)
  refine⟨_,rfl,_,rfl,q,_,rfl,.inl (SqL.of hq),_,_,rfl,rfl,_,rfl,?_⟩
  dsimp only
  have hll:(as.map V.ref).length=m.length:=by rw [List.length_map,hlen]
  by_cases hlt:p<m.length
  ·rw [if_pos (by rw [hll]; simpa using hlt)]
   have hp1:p - 1<as.length:=by omega
   have hp0:p<as.length:=by omega
   have TN:=lll_turn S (Int.le_refl _) hlt (by omega)
   refine⟨fun σ' H''=>∃m',m'<Wl.lmu m p/\∃(q:Addr)(m:List (List Int))(p:Nat)(v3 v4 v5:Option L2.V),σ'=[some (.ref r),some (.ref q),some (.int p),v3,v4,v5]/\Same H H''/\ak H'' q m/\Wl.LState n g m Mx (2*Mx+Mx*Mx) p/\m'=Wl.lmu m p,fun σ' H'' hh=>hh,?_⟩
   have ep:(p:Int) - 1=((p - 1:Nat):Int):=by omega
   refine⟨_,rfl,_,rfl,_,_,rfl,rfl,_,rfl,q,_,rfl,SqL.of hq,fun bf hbf=>?_⟩
   have t1:Same H' _:=Same.new (o:=.lst (cH (as.map V.ref) none (some ((p:Int) - 1)))) hbf
   have tk:∀m:Nat,cH (as.map V.ref) none (some (m:Int))=(as.take m).map V.ref:=fun m=>by rw [cut_lo,List.map_take]
   have hbf0:(upd H' bf (.lst (cH (as.map V.ref) none (some ((p:Int) - 1))))) bf=some (.lst ((as.take (p - 1)).map V.ref)):=by rw [aB,ep,tk]
   obtain⟨rowf,f1,f2⟩:=hav.get (i:=p - 1) (List.getElem?_eq_getElem (by omega))
   have ef:rowf=Wl.nth m (p - 1):=by simp [Wl.nth,f1]
   rw [ef] at f2
   obtain⟨rows',g1,g2⟩:=hav.get (i:=p) (List.getElem?_eq_getElem (by omega))
   have eg:rows'=Wl.nth m p:=by simp [Wl.nth,g1]
   rw [eg] at g2
   refine⟨_,rfl,_,rfl,_,_,rfl,rfl,q,as.map V.ref,_,.ref (as[p - 1]'hp1),rfl,rfl,SqL.of (t1 _ _ hq),by rw [ep]; exact dY (by rw [List.getElem?_map,List.getElem?_eq_getElem (by omega)]; rfl),?_⟩
   refine⟨_,rfl,_,rfl,q,as.map V.ref,_,.ref (as[p]'hp0),rfl,rfl,SqL.of (t1 _ _ hq),dY (by rw [List.getElem?_map,List.getElem?_eq_getElem (by omega)]; rfl),?_⟩
   refine⟨_,rfl,_,rfl,_,rfl,q,_,rfl,SqL.of (t1 _ _ hq),fun sl hsl=>?_⟩
   have t2:=t1.trans (Same.new (o:=.lst (cH (as.map V.ref) none (some (p:Int)))) hsl)
   have Lt:=Wl.take_len S.L
   have lenp:(m.take p).length=p:=by rw [List.length_take]; omega
   have Ct:Wl.Chain n (m.take p):=by
    refine⟨fun i hi=>?_,fun i hi=>?_⟩
    ·rw [lenp] at hi
     have:=S.ch.bf i (by omega)
     rwa [List.take_take,Nat.min_eq_left (by omega)]
    ·rw [lenp] at hi
     have:=S.ch.pos i (by omega)
     rwa [List.take_take,Nat.min_eq_left (by omega)]
   have lnp:=Wl.dw S.L hlt
   have lnf:=Wl.dw S.L (c:=p - 1) (by omega)
   have Bnth:∀c,c<m.length->Wl.Bd (6*R+17) (Wl.nth m c):=fun c hc=>by
    have:Wl.nth m c=m[c]:=by simp [Wl.nth,hc]
    rw [this]; exact Bm _ (List.getElem_mem hc)
   refine⟨as[p]'hp0,sl,n,6*R+17,6*R+17,Wl.nth m p,m.take p,rfl,t2 _ _ g2,⟨as.take p,by rw [aB,tk],(hav.take p).keep t2⟩,lnp,Lt p,Ct,n1,n3,by rw [lenp]; omega,Bnth p hlt,fun x hx=>Bm x (List.mem_of_mem_take hx),Nat.le_refl _,by omega,fun H3 z oz s3 hzv=>?_⟩
   rw [lenp] at hzv
   have t3:=t2.trans s3
   have hbf3:H3 bf=some (.lst ((as.take (p - 1)).map V.ref)):=s3 _ _ ((Same.new (o:=.lst (cH (as.map V.ref) none (some (p:Int)))) hsl) _ _ hbf0)
   have lz:(Wl.aX (m.take p) p (Wl.nth m p)).length=n:=Wl.rnd_len (Lt p) p _ (by omega) lnp
   have ex3:cH (as.map V.ref) (some ((p:Int)+1)) none=(as.drop (p+1)).map V.ref:=by
    rw [show(p:Int)+1=((p+1:Nat):Int) by omega,ir,List.map_drop]
   have Bz:Wl.Bd (6*R+17) (Wl.aX (m.take p) p (Wl.nth m p)):=by
    by_cases hC:4*Tg.sizeOf (m.take (p - 1)++[Wl.aX (m.take p) p (Wl.nth m p)])<3*Tg.sizeOf (m.take (p - 1)++[Wl.nth m (p - 1)])
    ·exact dA (Int.lt_of_le_of_lt ((TN.1 hC).1.lb _ (by simp)) hLBlt)
    ·exact dA (Int.lt_of_le_of_lt ((TN.2 hC).1.lb _ (by simp)) hLBlt)
   have Lx:∀x:List Int,x.length=n->Wl.Len n (m.take (p - 1)++[x]):=fun x hx y hy=>by
    rcases List.mem_append.1 hy with h | h
    ·exact Lt _ y h
    ·rw [List.mem_singleton.1 h]; exact hx
   have Bx:∀x:List Int,Wl.Bd (6*R+17) x->Wl.Bds (6*R+17) (m.take (p - 1)++[x]):=fun x hx y hy=>by
    rcases List.mem_append.1 hy with h | h
    ·exact Bm y (List.mem_of_mem_take h)
    ·rw [List.mem_singleton.1 h]; exact hx
   have l3:∀x:List Int,(m.take (p - 1)++[x]).length<=3:=fun x=>by rw [List.length_append,List.length_take,List.length_singleton]; omega
   refine⟨_,rfl,_,rfl,by show 1<=sizeLine; decide,fun l1 hl1=>?_⟩
   have t4:=t3.trans (Same.new (o:=.lst [.ref z]) hl1)
   refine⟨bf,l1,(as.take (p - 1)).map V.ref,[.ref z],rfl,rfl,(Same.new (o:=.lst [.ref z]) hl1) _ _ hbf3,aB,?_,fun p2 hp2=>?_⟩
   ·exact(by simp only [List.length_append,List.length_map,List.length_take,List.length_drop,List.length_cons,List.length_nil]; rw [sizeLine_eq]; omega)
   have y5:Same H3 _:=(Same.new (o:=.lst [.ref z]) hl1).trans (Same.new (o:=.lst ((as.take (p - 1)).map V.ref++[.ref z])) hp2)
   have t5:=t3.trans y5
   refine⟨p2,n,6*R+17,m.take (p - 1)++[Wl.aX (m.take p) p (Wl.nth m p)],rfl,⟨as.take (p - 1)++[z],by rw [aB,List.map_append]; rfl,((hav.take (p - 1)).keep t5).append (aL.one (y5 _ _ hzv))⟩,Lx _ lz,by omega,l3 _,Bx _ Bz,by omega,fun H5 s5=>?_⟩
   have y5':=y5.trans s5
   have t5':=t3.trans y5'
   refine⟨_,_,rfl,rfl,cu (m:=3) (by decide) (d5 (Lx _ lz) n3 (l3 _) (Bx _ Bz)) (by omega),_,rfl,_,rfl,by show 1<=sizeLine; decide,fun l2 hl2=>?_⟩
   refine⟨bf,l2,(as.take (p - 1)).map V.ref,[.ref (as[p - 1]'hp1)],rfl,rfl,(Same.new (o:=.lst [.ref (as[p - 1]'hp1)]) hl2) _ _ (y5' _ _ hbf3),aB,?_,fun p3 hp3=>?_⟩
   ·exact(by simp only [List.length_append,List.length_map,List.length_take,List.length_drop,List.length_cons,List.length_nil]; rw [sizeLine_eq]; omega)
   have y6:=y5'.trans ((Same.new (o:=.lst [.ref (as[p - 1]'hp1)]) hl2).trans (Same.new (o:=.lst ((as.take (p - 1)).map V.ref++[.ref (as[p - 1]'hp1)])) hp3))
   have t6:=t3.trans y6
   refine⟨p3,n,6*R+17,m.take (p - 1)++[Wl.nth m (p - 1)],rfl,⟨as.take (p - 1)++[(as[p - 1]'hp1)],by rw [aB,List.map_append]; rfl,((hav.take (p - 1)).keep t6).append (aL.one (t6 _ _ f2))⟩,Lx _ lnf,by omega,l3 _,Bx _ (Bnth _ (by omega)),by omega,fun H8 s8=>?_⟩
   have y8:=y6.trans s8
   have t8:=t3.trans y8
   have hbf8:=y8 _ _ hbf3
   refine⟨_,_,rfl,rfl,cu (m:=3) (by decide) (d5 (Lx _ lnf) n3 (l3 _) (Bx _ (Bnth _ (by omega)))) (by omega),_,_,rfl,rfl,_,rfl,?_⟩
   dsimp only
   by_cases hC:4*Tg.sizeOf (m.take (p - 1)++[Wl.aX (m.take p) p (Wl.nth m p)])<3*Tg.sizeOf (m.take (p - 1)++[Wl.nth m (p - 1)])
   ·rw [if_pos (by simpa using hC)]
    refine⟨_,rfl,_,rfl,_,rfl,by show 2<=sizeLine; decide,fun x1 hx1=>?_⟩
    have w1:=t8.trans (Same.new (o:=.lst [.ref z,.ref (as[p - 1]'hp1)]) hx1)
    refine⟨bf,x1,(as.take (p - 1)).map V.ref,[.ref z,.ref (as[p - 1]'hp1)],rfl,rfl,(Same.new (o:=.lst [.ref z,.ref (as[p - 1]'hp1)]) hx1) _ _ hbf8,aB,?_,fun x2 hx2=>?_⟩
    ·exact(by simp only [List.length_append,List.length_map,List.length_take,List.length_drop,List.length_cons,List.length_nil]; rw [sizeLine_eq]; omega)
    have w2:=w1.trans (Same.new (o:=.lst ((as.take (p - 1)).map V.ref++[.ref z,.ref (as[p - 1]'hp1)])) hx2)
    refine⟨_,rfl,_,rfl,_,_,rfl,rfl,_,rfl,q,_,rfl,SqL.of (w2 _ _ hq),fun x3 hx3=>?_⟩
    have w3:=w2.trans (Same.new (o:=.lst (cH (as.map V.ref) (some ((p:Int)+1)) none)) hx3)
    refine⟨x2,x3,(as.take (p - 1)).map V.ref++[.ref z,.ref (as[p - 1]'hp1)],(as.drop (p+1)).map V.ref,rfl,rfl,by rw [aO (aP aB hx3)] <;> exact aB,by rw [aB,ex3],?_,fun x4 hx4=>?_⟩
    ·exact(by simp only [List.length_append,List.length_map,List.length_take,List.length_drop,List.length_cons,List.length_nil]; rw [sizeLine_eq]; omega)
    have w4:=w3.trans (Same.new (o:=.lst ((as.take (p - 1)).map V.ref++[.ref z,.ref (as[p - 1]'hp1)]++(as.drop (p+1)).map V.ref)) hx4)
    have u4:Same H8 _:=(((Same.new (o:=.lst [.ref z,.ref (as[p - 1]'hp1)]) hx1).trans (Same.new (o:=.lst ((as.take (p - 1)).map V.ref++[.ref z,.ref (as[p - 1]'hp1)])) hx2)).trans (Same.new (o:=.lst (cH (as.map V.ref) (some ((p:Int)+1)) none)) hx3)).trans (Same.new (o:=.lst ((as.take (p - 1)).map V.ref++[.ref z,.ref (as[p - 1]'hp1)]++(as.drop (p+1)).map V.ref)) hx4)
    have rows4:ak _ x4 (m.take (p - 1)++[Wl.aX (m.take p) p (Wl.nth m p),Wl.nth m (p - 1)]++m.drop (p+1)):=
     ⟨as.take (p - 1)++[z,(as[p - 1]'hp1)]++as.drop (p+1),by rw [aB,List.map_append,List.map_append] <;> rfl,(((((hav.keep t8).take (p - 1)).append (aL.append (aL.one (y8 _ _ hzv)) (aL.one (t8 _ _ f2)))).append ((hav.keep t8).drop (p+1)))).keep u4⟩
    obtain⟨S',mu⟩:=TN.1 hC
    refine⟨_,rfl,_,_,rfl,rfl,_,_,rfl,?_⟩
    have em:(if (1:Int) > (p:Int) - 1 then(1:Int) else(p:Int) - 1)=((max (p - 1) 1:Nat):Int):=by
     split <;> omega
    rw [em]
    exact⟨_,mu,x4,_,max (p - 1) 1,_,_,_,rfl,hs.trans w4,rows4,S',rfl⟩
   ·rw [if_neg (by simpa using hC)]
    refine⟨_,rfl,_,rfl,_,rfl,by show 2<=sizeLine; decide,fun x1 hx1=>?_⟩
    have w1:=t8.trans (Same.new (o:=.lst [.ref (as[p - 1]'hp1),.ref z]) hx1)
    refine⟨bf,x1,(as.take (p - 1)).map V.ref,[.ref (as[p - 1]'hp1),.ref z],rfl,rfl,(Same.new (o:=.lst [.ref (as[p - 1]'hp1),.ref z]) hx1) _ _ hbf8,aB,?_,fun x2 hx2=>?_⟩
    ·exact(by simp only [List.length_append,List.length_map,List.length_take,List.length_drop,List.length_cons,List.length_nil]; rw [sizeLine_eq]; omega)
    have w2:=w1.trans (Same.new (o:=.lst ((as.take (p - 1)).map V.ref++[.ref (as[p - 1]'hp1),.ref z])) hx2)
    refine⟨_,rfl,_,rfl,_,_,rfl,rfl,_,rfl,q,_,rfl,SqL.of (w2 _ _ hq),fun x3 hx3=>?_⟩
    have w3:=w2.trans (Same.new (o:=.lst (cH (as.map V.ref) (some ((p:Int)+1)) none)) hx3)
    refine⟨x2,x3,(as.take (p - 1)).map V.ref++[.ref (as[p - 1]'hp1),.ref z],(as.drop (p+1)).map V.ref,rfl,rfl,by rw [aO (aP aB hx3)] <;> exact aB,by rw [aB,ex3],?_,fun x4 hx4=>?_⟩
    ·exact(by simp only [List.length_append,List.length_map,List.length_take,List.length_drop,List.length_cons,List.length_nil]; rw [sizeLine_eq]; omega)
    have w4:=w3.trans (Same.new (o:=.lst ((as.take (p - 1)).map V.ref++[.ref (as[p - 1]'hp1),.ref z]++(as.drop (p+1)).map V.ref)) hx4)
    have u4:Same H8 _:=(((Same.new (o:=.lst [.ref (as[p - 1]'hp1),.ref z]) hx1).trans (Same.new (o:=.lst ((as.take (p - 1)).map V.ref++[.ref (as[p - 1]'hp1),.ref z])) hx2)).trans (Same.new (o:=.lst (cH (as.map V.ref) (some ((p:Int)+1)) none)) hx3)).trans (Same.new (o:=.lst ((as.take (p - 1)).map V.ref++[.ref (as[p - 1]'hp1),.ref z]++(as.drop (p+1)).map V.ref)) hx4)
    have rows4:ak _ x4 (m.take (p - 1)++[Wl.nth m (p - 1),Wl.aX (m.take p) p (Wl.nth m p)]++m.drop (p+1)):=
     ⟨as.take (p - 1)++[(as[p - 1]'hp1),z]++as.drop (p+1),by rw [aB,List.map_append,List.map_append] <;> rfl,(((((hav.keep t8).take (p - 1)).append (aL.append (aL.one (t8 _ _ f2)) (aL.one (y8 _ _ hzv)))).append ((hav.keep t8).drop (p+1)))).keep u4⟩
    obtain⟨S',mu⟩:=TN.2 hC
    refine⟨_,rfl,_,_,rfl,rfl,?_⟩
    have em:(p:Int)+1=((p+1:Nat):Int):=by omega
    rw [em]
    exact⟨_,mu,x4,_,p+1,_,_,_,rfl,hs.trans w4,rows4,S',rfl⟩
  ·rw [if_neg (by rw [hll]; simpa using hlt)]
   refine⟨_,rfl,kq H' q m hs ⟨as,hq,hav⟩ ⟨S.L,S.len,S.sp,S.ch,Bm,fun q' h1 h2=>S.sh q' h1 (by omega) h2⟩⟩
section
variable{prog:Program}{w:World}{A:Around}{E:Value->Shared->Prop}{s:Shared}{ks:List (List Int)}{n:Nat}
theorem looks_list{h:Heap}{a:Addr}{ns:List Int}(hl:LstAt h a ns):W.Looks (model prog w) h (typeOf (.ref a)) (.type "list"):=by
 obtain⟨dd,it,m,sl,e,_⟩:=hl
 intro A Q E s k q
 exact wpAny_typeOf (T:="list") ⟨_,k _ _ e,rfl⟩ q
theorem sort_kind{items keys:Array Value}{es:List (Elt s.heap ks)}{Q:SortKind->Shared->Prop}(hi:items.size=es.length)(hk:keys=(es.map fun x=>Value.ref x.at_).toArray)
  (h:Q (if es.length<2 then general' else oneType') s):wpAny (model prog w) A (if items.size<2 then pure general' else keyKind' keys) Q E s:=by
 rw [hi]
 by_cases h2:es.length<2
 ·rw [if_pos h2] at h ⊢
  exact wpAny_pure h
 ·rw [if_neg h2] at h ⊢
  rw [hk]
  refine W.kas_kind (T:=.type "list") (by simpa using h2) (fun v hv=>?_) (by decide) (by decide) h
  obtain⟨x,_,rfl⟩:=List.mem_map.1 hv
  exact looks_list x.ok
theorem sort_run{items:Array Value}{ps:Array Keyed}{es:List (Elt s.heap ks)}{Q:Unit × SortSt->Prop}(hu:A.units<cLine)(hn:∀k∈ks,k.length=n)(hi:items.size=es.length)(hp:ps=(es.map itL).toArray)
  (h:∀(q:List (Elt s.heap ks))(st:SortSt),arrOf st=(q.map itL).toArray->failedOf st=none->q.Perm es->q.Pairwise (fun x y=>Tg.before y.ns x.ns=false)->Q ((),st)) :
  wpAny (model prog w) A ((if items.size<2 then pure () else sortRuns').run (SortSt.mk' (if es.length<2 then general' else oneType') ps #[] 7 none)) (fun r s'=>s'=s/\Q r) E s:=by
 rw [hi,hp]
 by_cases h2:es.length<2
 ·rw [if_pos h2,if_pos h2,StateT.run_pure]
  refine wpAny_pure ⟨rfl,h es _ rfl rfl (.refl _) ?_⟩
  exact List.pairwise_iff_getElem.2 fun i j hi hj hlt=>absurd hj (by omega)
 ·rw [if_neg h2,if_neg h2]
  exact wpS_lists (Q:=fun u st=>Q (u,st)) hu hn es (by omega) fun q st a1 a2 a3 a4=>h q st a1 a2 a3 a4
end
abbrev adV(x:Addr × List Int):Value:=.ref x.1
theorem LstAt.push{h:Heap}{a:Addr}{ns:List Int}{o:Obj}(l:LstAt h a ns):LstAt (h.push o) a ns:=by
 obtain⟨dd,it,m,sl,e,i⟩:=l
 exact⟨dd,it,m,sl,Heap.get?_push_of_some _ e,i⟩
theorem LstAt.upd{h:Heap}{a b:Addr}{ns:List Int}{f:Obj->Obj}(l:LstAt h a ns)(hb:a≠b):LstAt (h.update b f) a ns:=by
 obtain⟨dd,it,m,sl,e,i⟩:=l
 exact⟨dd,it,m,sl,by rw [Heap.get?_update_ne _ _ _ _ hb]; exact e,i⟩
abbrev KV:=(Addr × List Int) × Value
abbrev kvP(z:KV):Keyed:=(.ref z.1.1,z.2)
theorem elts0{h:Heap}{ks:List (List Int)}:∀{zs:List KV},(∀z∈zs,LstAt h z.1.1 z.1.2/\z.1.2∈ks)->∃l:List (Elt h ks),l.map (fun x=>(((x.at_,x.ns),x.v):KV))=zs
 | [],_=>⟨[],rfl⟩
 | x::zs,hx=>by
   obtain⟨l,e⟩:=elts0 fun y hy=>hx y (List.mem_cons_of_mem _ hy)
   exact⟨⟨x.1.1,x.1.2,x.2,(hx x List.mem_cons_self).1,(hx x List.mem_cons_self).2⟩::l,by rw [List.map_cons,e]⟩
theorem elts{h:Heap}{ks:List (List Int)}{zs:List KV}(hz:∀z∈zs,LstAt h z.1.1 z.1.2/\z.1.2∈ks):∃l:List (Elt h ks),l.length=zs.length/\zs.map (fun z=>Value.ref z.1.1)=l.map (fun x=>Value.ref x.at_)/\zs.map kvP=l.map itL/\
  ∀q:List (Elt h ks),q.Perm l->q.Pairwise (fun x y=>Tg.before y.ns x.ns=false)->∃ys:List KV,ys.Perm zs/\ys.Pairwise (fun x y=>Tg.before y.1.2 x.1.2=false)/\q.map itL=ys.map kvP:=by
 obtain⟨l,rfl⟩:=elts0 hz
 refine⟨l,by simp,by rw [List.map_map]; rfl,by rw [List.map_map]; rfl,fun q hq hs=>⟨q.map fun x=>(((x.at_,x.ns),x.v):KV),hq.map _,by rw [List.pairwise_map]; exact hs,by rw [List.map_map]; rfl⟩⟩
section
variable{prog:Program}{w:World}{A:Around}{E:Value->Shared->Prop}{s:Shared}
def kdOf(m:Nat):SortKind:=if m<2 then general' else oneType'
theorem sort_kindJ{α:Type}{items keys:Array Value}{zs:List KV}{J:SortKind->Sem α}{Q:α->Shared->Prop}(hE:∀z∈zs,LstAt s.heap z.1.1 z.1.2)(hi:items.size=zs.length)(hk:keys=(zs.map fun z=>Value.ref z.1.1).toArray)
  (h:wpAny (model prog w) A (J (kdOf zs.length)) Q E s) :
  wpAny (model prog w) A (if items.size<2 then(pure general' >>= J) else(keyKind' keys >>= J)) Q E s:=by
 obtain⟨l,e1,e2,e3,e4⟩:=elts (ks:=zs.map (·.1.2)) (h:=s.heap) (zs:=zs) fun z hz=>⟨hE z hz,List.mem_map_of_mem hz⟩
 have K:=sort_kind (prog:=prog) (w:=w) (A:=A) (E:=E) (items:=items) (keys:=keys) (es:=l) (Q:=fun k s'=>wpAny (model prog w) A (J k) Q E s') (by rw [hi,e1]) (by rw [hk,e2]) (by rw [e1]; exact h)
 by_cases h2:items.size<2
 ·rw [if_pos h2] at K ⊢
  exact wpAny_bind K
 ·rw [if_neg h2] at K ⊢
  exact wpAny_bind K
theorem sort_runZ{items keys:Array Value}{zs:List KV}{m:Nat}{Q:Unit × SortSt->Shared->Prop}(hu:A.units<cLine)(hE:∀z∈zs,LstAt s.heap z.1.1 z.1.2/\z.1.2.length=m)(hi:items.size=zs.length)(hp:keys.zip items=(zs.map kvP).toArray)
  (h:∀(ys:List KV)(st:SortSt),ys.Perm zs->ys.Pairwise (fun x y=>Tg.before y.1.2 x.1.2=false)->arrOf st=(ys.map kvP).toArray->failedOf st=none->Q ((),st) s) :
  wpAny (model prog w) A ((if items.size<2 then pure () else sortRuns').run (SortSt.mk' (kdOf zs.length) (keys.zip items) #[] 7 none)) Q E s:=by
 obtain⟨l,e1,e2,e3,e4⟩:=elts (ks:=zs.map (·.1.2)) (h:=s.heap) (zs:=zs) fun z hz=>⟨(hE z hz).1,List.mem_map_of_mem hz⟩
 have hn:∀k∈zs.map (·.1.2),k.length=m:=fun k hk=>by
  obtain⟨x,hx,rfl⟩:=List.mem_map.1 hk
  exact(hE x hx).2
 rw [<- e1]
 refine wpAny_mono (sort_run (items:=items) (es:=l) (n:=m) (Q:=fun r=>Q r s) hu hn (by rw [hi,e1]) (by rw [hp,e3]) fun q st a1 a2 a3 a4=>?_) (fun r s' g=>by rw [g.1]; exact g.2) fun _ _ e=>e
 obtain⟨ys,b1,b2,b3⟩:=e4 q a3 a4
 exact h ys st b1 b2 (by rw [a1,b3]) a2
theorem sort_plainV{a:Addr}{es:List (Addr × List Int)}{n m:Nat}{P:PySem.Fin->Shared->Prop}(ho:s.heap.get? a=some (seqObj "list" (es.map adV).toArray n))(hE:∀x∈es,LstAt s.heap x.1 x.2/\x.1≠a/\x.2.length=m)(hu:A.units<cLine)(hL:es.length<=sizeLine)
  (h:∀bs:List (Addr × List Int),bs.Perm es->bs.Pairwise (fun x y=>Tg.before y.2 x.2=false)->P (.done (.ret .none)) {s with heap:=sortedHeap s.heap a (es.map adV) (bs.map adV).toArray}) :
  wpAny (model prog w) A (Builtin.«list.sort» ⟨[.ref a],[]⟩) P E s:=by
 have hz:=hL
 rw [sizeLine_eq] at hz
 obtain⟨e1,o1⟩:∃e1,(s.heap.update a (Obj.mapSeq fun _=>#[])).get? a=some (seqObj "list" #[] e1):=⟨_,get?_update_seq ho fun _=>#[]⟩
 have hsz:(es.map adV).toArray.size=es.length:=by simp
 have o2:=Heap.get?_push_of_some (seqObj "list" #[] 0) (Heap.get?_push_of_some (seqObj "tuple" (es.map adV).toArray 0) o1)
 rw [list_sort_plain]
 refine wpAny_bind (listItems_at ho rfl (wpAny_bind (listUpdate_at ho rfl (wpAny_bind (seqEpoch_at o1 rfl (wpAny_bind (wpAny_newTuple (wpAny_bind (wpAny_newList (wpAny_holding ?_) (Nat.zero_le _))) (by simp; exact hL))))) (by rw [hsz]; exact hL) (Nat.zero_le _))))
 show wpAny (model prog w) A _ P E {s with heap:=((s.heap.update a (Obj.mapSeq fun _=>#[])).push (seqObj "tuple" (es.map adV).toArray 0)).push (seqObj "list" #[] 0)}
 have zk:(es.map adV).toArray=((es.map fun x=>((x,.ref x.1):KV)).map fun z=>Value.ref z.1.1).toArray:=by rw [List.map_map]; rfl
 have zp:(es.map adV).toArray.zip (es.map adV).toArray=((es.map fun x=>((x,.ref x.1):KV)).map kvP).toArray:=by
  rw [List.zip_toArray,List.map_map,List.zip_map']
  rfl
 have zE:∀z∈(es.map fun x=>((x,.ref x.1):KV)),LstAt (((s.heap.update a (Obj.mapSeq fun _=>#[])).push (seqObj "tuple" (es.map adV).toArray 0)).push (seqObj "list" #[] 0)) z.1.1 z.1.2/\z.1.2.length=m:=fun z hz=>by
  obtain⟨x,hx,rfl⟩:=List.mem_map.1 hz
  exact⟨((hE x hx).1.upd (hE x hx).2.1).push.push,(hE x hx).2.2⟩
 refine sort_kindJ (fun z hz=>(zE z hz).1) (by rw [hsz,List.length_map]) zk (wpAny_bind (sort_runZ hu zE (by rw [hsz,List.length_map]) zp fun ys st b1 b2 b3 b4=>?_))
 ·have c1:(ys.map (·.1)).Perm es:=by
   have:=b1.map (fun z:KV=>z.1)
   rwa [List.map_map,show((fun z:KV=>z.1) ∘ fun x:Addr × List Int=>((x,.ref x.1):KV))=id from rfl,List.map_id] at this
  have c2:(arrOf st).map (·.2)=((ys.map (·.1)).map adV).toArray:=by
   rw [b3,List.map_toArray,List.map_map,List.map_map]
   congr 1
   refine List.map_congr_left fun z hz=>?_
   obtain⟨x,_,rfl⟩:=List.mem_map.1 (b1.mem_iff.1 hz)
   rfl
  refine wpAny_bind (seqEpoch_at o2 rfl (wpAny_bind (listUpdate_at o2 rfl ?_ (Nat.zero_le _) ?_)))
  ·rw [b4,c2]
   simp only [bne_self_eq_false,Bool.false_eq_true,if_false]
   exact wpAny_pure (h _ c1 (by rw [List.pairwise_map]; exact b2))
  ·rw [c2]
   simp only [List.size_toArray,List.length_map]
   have:=c1.length_eq
   simp only [List.length_map] at this
   rw [this,sizeLine_eq]
   omega
end
theorem dZ:∀{as:List Addr}{its:List Value},ay (as.map V.ref) its->its=as.map Value.ref
 | [],its,r=>by cases r; rfl
 | a::as,its,r=>by
   cases r with
   | cons h t=>
     cases h
     rw [dZ t]; rfl
theorem ints_val{ns:List Int}{its:List Value}(r:ay (ns.map V.int) its):dJ its.toArray ns:=by
 have hl:=r.length
 rw [List.length_map] at hl
 refine⟨by simp [hl],fun i hi=>?_⟩
 obtain⟨u,hu,ru⟩:=r.get (i:=i) (x:=V.int (Tg.num ns i)) (by rw [List.getElem?_map,dG hi]; rfl)
 obtain⟨t,rfl⟩:=ru
 exact⟨t,by simpa using hu⟩
section
variable{X:Cx}
theorem ie{pins:List (Addr × Obj)}{s:Shared}{σ:L2.St}{H:Hp}{a:Addr}{v:List Int}(I:Inv X pins σ H s)(h:aN H a v):LstAt s.heap a v:=by
 obtain⟨_,its,n,r,_,e⟩:=I.lstM h
 exact⟨none,its.toArray,n,#[],e,ints_val r⟩
def rSortV(K:W.Frag):List V->Hp->VK->Prop:=fun vs H Q=>∃(a:Addr)(es:List (Addr × List Int))(m:Nat),vs=[V.ref a]/\SqL K H a (es.map fun x=>V.ref x.1)/\(∀x∈es,aN H x.1 x.2/\x.2.length=m)/\
 ∀(bs:List (Addr × List Int))(p:Addr),bs.Perm es->bs.Pairwise (fun x y=>Tg.before y.2 x.2=false)->H p=none->Q (.ref p) (upd H p (.lst (bs.map fun x=>V.ref x.1)))
theorem cr_sortV(hu:X.A.units+2<cLine):ft X (.builtin "sorted") (rSortV X.K):=by
 intro pins s σ H vs us Q I r h
 obtain⟨a,es,m,rfl,hs,hE,q⟩:=h
 obtain⟨its,rv,hl,hlen⟩:=I.list hs
 rw [ay.ref1 r]
 have ei:its=es.map adV:=by
  have:ay ((es.map (·.1)).map V.ref) its:=by rw [List.map_map]; exact rv
  rw [dZ this,List.map_map]; rfl
 subst ei
 rw [List.length_map] at hlen
 have hzl:(es.map adV).length<=sizeLine:=by rw [List.length_map]; exact hlen
 have sz1:((s.heap.push (seqObj "list" #[] 0)).update s.heap.objs.size (Obj.mapSeq (· ++(es.map adV).toArray))).objs.size=s.heap.objs.size+1:=by rw [Heap.size_update,size_push']
 have oL:(((s.heap.push (seqObj "list" #[] 0)).update s.heap.objs.size (Obj.mapSeq (· ++(es.map adV).toArray))).push (seqObj "list" (es.map adV).toArray 0)).get? (s.heap.objs.size+1)=some (seqObj "list" (es.map adV).toArray 0):=by
  rw [<- sz1]; exact Heap.get?_push_size _ rfl
 refine Calls.call_function_entry kind_sorted plain_sorted entry_sorted (args_sorted1 _) (wpAny_bind (m:=checkCount "sorted" 1 1 _) (wpAny_pure (wpAny_bind (collect_list hl.isList (wpAny_bind (wpAny_newList ?_ hzl)) hzl))))
 show wpAny _ _ _ _ _ {s with heap:=((s.heap.push (seqObj "list" #[] 0)).update s.heap.objs.size (Obj.mapSeq (· ++(es.map adV).toArray))).push (seqObj "list" (es.map adV).toArray 0)}
 rw [sz1]
 refine wpAny_bind (wpAny_holding (wpAny_call_entry slot_list_sort ⟨_,oL,rfl⟩ entry_list_sort (sort_plainV (m:=m) oL (fun x hx=>?_) (by show X.A.units+1+1<cLine; omega) hlen fun bs b1 b2=>⟨_,rfl,wpAny_pure ⟨_,rfl,?_⟩⟩) (args_list_sort _)))
 ·have hx1:=ie I (hE x hx).1
  have hlt:x.1<s.heap.objs.size:=by obtain⟨_,_,_,_,e,_⟩:=hx1; exact Heap.lt_size e
  exact⟨(LstAt.upd hx1.push (Nat.ne_of_lt hlt)).push,Nat.ne_of_lt (Nat.lt_succ_of_lt hlt),(hE x hx).2⟩
 ·obtain⟨ep,he'⟩:=sortedAll_at s.heap (es.map adV) (bs.map adV).toArray
  have hb:(bs.map fun x=>V.ref x.1).length<=sizeLine:=by rw [List.length_map,b1.length_eq]; exact hlen
  refine⟨.ref _,upd H (s.heap.objs.size+1) (.lst (bs.map fun x=>V.ref x.1)),I.laid (t':=s.toks) (fun _ _=>sortedAll_old) (Nat.le_succ _) ⟨hb,bs.map adV,ep,?_,he'⟩,rfl,q bs _ b1 b2 (I.hok.fresh (Nat.le_succ _))⟩
  clear b1 b2 he' hb
  induction bs with
  | nil=>exact .nil
  | cons x bs ih=>exact .cons rfl ih
end
section
set_option maxHeartbeats 1000000
section
variable{X:Cx}{pins:List (Addr × Obj)}{σ:L2.St}{H:Hp}{s:Shared}
theorem perm_map_inv{α β:Type}{g:α->β}{ys:List β}{zs:List α}(h:ys.Perm (zs.map g)):∃qs:List α,qs.Perm zs/\ys=qs.map g:=by
 generalize e:zs.map g=l at h
 induction h generalizing zs with
 | nil=>exact⟨[],by rw [List.map_eq_nil_iff.1 e],rfl⟩
 | cons x _ ih=>
   obtain⟨a,l,rfl,rfl,e2⟩:=List.map_eq_cons_iff.1 e
   obtain⟨qs,h1,h2⟩:=ih e2
   exact⟨a::qs,h1.cons a,by rw [h2]; rfl⟩
 | swap x y l=>
   obtain⟨a,l1,rfl,rfl,e2⟩:=List.map_eq_cons_iff.1 e
   obtain⟨b,l2,rfl,rfl,rfl⟩:=List.map_eq_cons_iff.1 e2
   exact⟨b::a::l2,.swap a b l2,rfl⟩
 | trans _ _ ih1 ih2=>
   obtain⟨qs,h1,h2⟩:=ih2 e
   obtain⟨ps,h3,h4⟩:=ih1 h2.symm
   exact⟨ps,h3.trans h1,h4⟩
theorem take_it{h':Heap}{t':Nat}{it:Addr}{o:HO}(I:Inv X pins σ H s)(k:∀b u,b≠it->s.heap.get? b=some u->h'.get? b=some u)(hf:ga X pins H it)(heo:∃u,h'.get? it=some u)
  (new:dP X.prog X.w (L2.upd H it o) h' it o):Inv X pins σ (L2.upd H it o) {s with heap:=h',toks:=t'}:=by
 obtain⟨hn,hL,_,h1,h2,h3⟩:=hf
 have nit:∀b u,H b=some u->b≠it:=fun b u e z=>by rw [z,hn] at e; cases e
 refine I.step (g':=s.gens) (d':=s.drawn) (ch:=[it]) (fun b hb=>?_) (fun b u _ _ hc e _=>k b u (fun z=>hc (by simp [z])) e) (fun b u _ _ hc e _=>⟨u.slots,k b u (fun z=>hc (by simp [z])) e⟩)
  (fun b u hc _ n=>by rw [aO (fun z=>hc (by simp [z]))]; exact n) (fun b u hc e=>⟨u,k b u (fun z=>hc (by simp [z])) e⟩) (fun b xs e=>by rw [aO (nit b _ e)]; exact e) (fun b u v e=>by rw [aO (nit b _ e)]; exact e)
  (fun b ps e=>⟨#[],by rw [aO (nit b _ e),e]; simp⟩) (fun m hm=>?_) (fun b u e=>?_) I.bare
 ·have e:b=it:=by simpa using hb
  rw [e]
  exact⟨h1,hL,h2,h3⟩
 ·obtain⟨u,es,ep,ho,r⟩:=hm
  exact⟨u,es,ep,k _ u (Ne.symm hL) ho,r⟩
 ·by_cases hb:b=it
  ·subst hb
   rw [aB] at e
   cases e
   exact new
  ·rw [aO hb] at e
   refine(I.hok b u e).stay (fun c v hc q=>k c v ?_ q) (fun c q=>by rw [aO (nit c _ q)]; exact q) fun c xs q=>by rw [aO (nit c _ q)]; exact q
   rcases hc with z | z
   ·rw [z]; exact hb
   ·exact nit c _ z
theorem run_key{k:Nat}{f:Addr}{fd:FuncData}{ps:List Str}{sp:Sp}{Q:VK}{us:List Value}{vs:List V}(F:FnOk X.prog X.w X.K X.mg X.base CX0 k f fd ps sp)(hr:Room (k+2) X.A)(hb:Binds X.K fd ps [])
  (I:Inv X pins σ H s) (r:ay vs us) (h:sp vs H Q E0):wpAny (model X.prog X.w) X.A.in1.in1 (call (.ref f) us) (EP X pins σ Q) (fun _ _=>False) s:=by
 have hl:(us++[]).length=ps.length:=by rw [List.append_nil,<- r.length]; exact F.len _ _ _ _ h
 have B:=hb s us I.kIn hl
 rw [List.append_nil] at B
 refine wpAny_call (codeAny_mono (F.run X.A.in1.in1 X.stack s H ⟨us,[]⟩ us vs Q E0 hr.in1.in1 I.env0.in1.in1 B r h) fun r s' hq=>?_)
 cases r with
 | error e=>exact hq.elim
 | ok fl=>cases fl with
   | ret u=>exact I.after hq
   | next=>exact False.elim hq
   | brk=>exact False.elim hq
   | cont=>exact False.elim hq
end
def iz(G:List Int->List Int)(C:List Int->Prop):Sp:=fun vs H Q _=>∃(a:Addr)(v:List Int),vs=[.ref a]/\aN H a v/\C v/\
 ∀(H':Hp)(r:Addr),H r=none->Same H H'->aN H' r (G v)->Q (.ref r) H'
def rSortK(K:W.Frag)(G:List Int->List Int)(C:List Int->Prop):List V->Hp->VK->Prop:=fun vs H Q=>∃(a:Addr)(es:List (Addr × List Int))(m:Nat),vs=[V.ref a]/\SqL K H a (es.map fun x=>V.ref x.1)/\(∀x∈es,aN H x.1 x.2/\C x.2/\(G x.2).length=m)/\
 ∀(bs:List (Addr × List Int))(H':Hp)(p:Addr),bs.Perm es->bs.Pairwise (fun x y=>Tg.before (G y.2) (G x.2)=false)->Same H H'->H p=none->H' p=some (.lst (bs.map fun x=>V.ref x.1))->Q (.ref p) H'
section
variable{X:Cx}{pins:List (Addr × Obj)}{σ:L2.St}{s:Shared}
structure KeysAt(G:List Int->List Int)(es:List (Addr × List Int))(H Hi:Hp)(kS:Addr)(rs:List Addr):Prop where
 same:Same H Hi
 at_:Hi kS=some (.lst (rs.map V.ref))
 keys:∀(j:Nat)(r:Addr),rs[j]? =some r->∃x,es[j]? =some x/\aN Hi r (G x.2)/\r≠kS
theorem KeysAt.snoc{G:List Int->List Int}{es:List (Addr × List Int)}{H Hi H':Hp}{kS r:Addr}{rs:List Addr}{x:Addr × List Int}(hk:H kS=none)(h:KeysAt G es H Hi kS rs)(hx:es[rs.length]? =some x)(hr:Hi r=none)(hs:Same Hi H')(hv:aN H' r (G x.2)) :
  KeysAt G es H (L2.upd H' kS (.lst ((rs++[r]).map V.ref))) kS (rs++[r]):=by
 have nr:r≠kS:=fun e=>by rw [e,h.at_] at hr; cases hr
 refine⟨fun b u e=>?_,aB,fun j q hq=>?_⟩
 ·rw [aO (aP e hk)]
  exact hs _ _ (h.same _ _ e)
 ·rcases Nat.lt_or_ge j rs.length with hj | hj
  ·rw [List.getElem?_append_left hj] at hq
   obtain⟨y,e1,e2,e3⟩:=h.keys j q hq
   exact⟨y,e1,by unfold aN; rw [aO e3]; exact hs _ _ e2,e3⟩
  ·rw [List.getElem?_append_right hj] at hq
   have e0:j - rs.length=0:=by
    rcases Nat.eq_zero_or_pos (j - rs.length) with z | z
    ·exact z
    ·rw [List.getElem?_eq_none (by simp; omega)] at hq; cases hq
   rw [e0] at hq
   cases hq
   have ej:j=rs.length:=by omega
   rw [ej]
   exact⟨x,hx,by unfold aN; rw [aO nr]; exact hv,nr⟩
theorem vals_of_refs:∀as:List Addr,ay (as.map V.ref) (as.map Value.ref)
 | []=>.nil
 | _::as=>.cons rfl (vals_of_refs as)
theorem vals_adV:∀l:List (Addr × List Int),ay (l.map fun x=>V.ref x.1) (l.map adV)
 | []=>.nil
 | _::l=>.cons rfl (vals_adV l)
variable{H:Hp}{k:Nat}{f:Addr}{fd:FuncData}{ps:List Str}{G:List Int->List Int}{C:List Int->Prop}
theorem sort_endK{D kS:Addr}{e1 m:Nat}{es:List (Addr × List Int)}{rs:List Addr}{Hi:Hp}{P:PySem.Fin->Shared->Prop}{E:Value->Shared->Prop}(hu:X.A.units+2<cLine)(I:Inv X ((D,seqObj "list" #[] e1)::pins) σ Hi s)(hD:ga X pins Hi D)(hkD:kS≠D)
  (hK:KeysAt G es H Hi kS rs) (hl:rs.length=es.length) (hm:∀x∈es,(G x.2).length=m) (hz:es.length<=sizeLine) (hk:H kS=none) (hDH:H D=none)
  (h:∀(bs:List (Addr × List Int))(H':Hp)(s':Shared),Inv X pins σ H' s'->bs.Perm es->bs.Pairwise (fun x y=>Tg.before (G y.2) (G x.2)=false)->Same H H'->H' D=some (.lst (bs.map fun x=>V.ref x.1))->P (.done (.ret .none)) s') :
  wpAny (model X.prog X.w) X.A.in1.in1 (ksk_end D false (es.map adV).toArray e1 (.ref kS) (rs.map Value.ref).toArray) P E s:=by
 have hz2:=hz
 rw [sizeLine_eq] at hz2
 have oD:=(I.pin (D,seqObj "list" #[] e1) (List.mem_append_right _ List.mem_cons_self)).1
 have I0:Inv X pins σ Hi s:=I.pins_of fun p hp=>I.pin p (List.mem_append_right _ (List.mem_cons_of_mem _ hp))
 obtain⟨_,itk,nk,rk,_,ok⟩:=I0.lstM hK.at_
 have eik:=dZ rk
 subst eik
 have zlen:(rs.zip es).length=es.length:=by rw [List.length_zip,hl,Nat.min_self]
 have zget:∀z∈rs.zip es,aN Hi z.1 (G z.2.2)/\z.2∈es:=fun z hz=>by
  obtain⟨j,hj⟩:=List.getElem?_of_mem hz
  rw [List.getElem?_zip_eq_some] at hj
  obtain⟨x,e1,e2,_⟩:=hK.keys j z.1 hj.1
  rw [hj.2] at e1
  cases e1
  exact⟨e2,List.mem_of_getElem? hj.2⟩
 have zE:∀z∈(rs.zip es).map (fun y=>(((y.1,G y.2.2),.ref y.2.1):KV)),LstAt s.heap z.1.1 z.1.2/\z.1.2.length=m:=fun z hz=>by
  obtain⟨y,hy,rfl⟩:=List.mem_map.1 hz
  exact⟨ie I0 (zget y hy).1,hm _ (zget y hy).2⟩
 have hi:(es.map adV).toArray.size=((rs.zip es).map (fun y=>(((y.1,G y.2.2),.ref y.2.1):KV))).length:=by rw [List.length_map,zlen]; simp
 have zk:(rs.map Value.ref).toArray=(((rs.zip es).map (fun y=>(((y.1,G y.2.2),.ref y.2.1):KV))).map fun z=>Value.ref z.1.1).toArray:=by
  rw [List.map_map]
  congr 1
  conv=>lhs; rw [<- List.map_fst_zip (l₁:=rs) (l₂:=es) (by omega)]
  rw [List.map_map]; rfl
 have zp:(rs.map Value.ref).toArray.zip (es.map adV).toArray=(((rs.zip es).map (fun y=>(((y.1,G y.2.2),.ref y.2.1):KV))).map kvP).toArray:=by
  rw [List.zip_toArray,List.map_map,List.zip_map]
  rfl
 unfold ksk_end
 simp only [Bool.false_eq_true,if_false]
 refine sort_kindJ (fun z hz=>(zE z hz).1) hi zk (wpAny_bind (sort_runZ (by show X.A.units+1+1<cLine; omega) zE hi zp fun ys st b1 b2 b3 b4=>?_))
 obtain⟨qs,q1,q2⟩:∃qs:List (Addr × (Addr × List Int)),qs.Perm (rs.zip es)/\ys=qs.map (fun y=>(((y.1,G y.2.2),.ref y.2.1):KV)):=perm_map_inv b1
 subst q2
 have c1:(qs.map (·.2)).Perm es:=by
  have:=q1.map (·.2)
  rwa [List.map_snd_zip (by omega)] at this
 have c2:(arrOf st).map (·.2)=((qs.map (·.2)).map adV).toArray:=by
  rw [b3,List.map_toArray,List.map_map,List.map_map,List.map_map]
  rfl
 have cl:(qs.map (·.2)).length=es.length:=c1.length_eq
 unfold ksk_tail
 have I1:=I0.lset (its':=[]) (ys:=[]) (f:=fun _=>#[]) (t':=s.toks) hK.at_ ok rfl .nil (Nat.zero_le _)
 have oD1:(s.heap.update kS (Obj.mapSeq fun _=>#[])).get? D=some (seqObj "list" #[] e1):=by rw [Heap.get?_update_ne _ _ _ _ (Ne.symm hkD)]; exact oD
 refine wpAny_bind (listUpdate_at ok rfl ?_ (by rw [List.size_toArray,List.length_map,hl]; exact hz) (Nat.zero_le _))
 have szD:((arrOf st).map (·.2)).size<=sizeLine+1:=by
  rw [c2,List.size_toArray,List.length_map,cl]
  omega
 obtain⟨ep,he⟩:∃ep,((s.heap.update kS (Obj.mapSeq fun _=>#[])).update D (Obj.mapSeq fun _=>(arrOf st).map (·.2))).get? D=some (seqObj "list" ((qs.map (·.2)).map adV).toArray ep):=⟨_,by rw [<- c2]; exact get?_update_seq oD1 fun _=>(arrOf st).map (·.2)⟩
 clear c2 b3
 have nD:(L2.upd Hi kS (.lst [])) D=none:=by rw [aO (Ne.symm hkD)]; exact hD.1
 have I2:=take_it (o:=.lst ((qs.map (·.2)).map fun x=>V.ref x.1)) (t':=s.toks) (h':=(s.heap.update kS (Obj.mapSeq fun _=>#[])).update D (Obj.mapSeq fun _=>(arrOf st).map (·.2))) I1
  (fun b u hb e=>(Heap.get?_update_ne _ _ _ _ hb).trans e) ⟨nD,hD.2⟩ ⟨_,he⟩
  ⟨by rw [List.length_map,cl]; exact hz,(qs.map (·.2)).map adV,ep,vals_adV _,he⟩
 have fin:=h (qs.map (·.2)) _ _ I2 c1 (by rw [List.pairwise_map] at b2 ⊢; exact b2) (fun b u e=>by rw [aO (aP e hDH),aO (aP e hk)]; exact hK.same _ _ e) aB
 clear I2 I1 he
 generalize s.heap.update kS (Obj.mapSeq fun _=>#[])=h1 at oD1 fin ⊢
 generalize (arrOf st).map (·.2)=out at szD fin ⊢
 refine wpAny_bind (wpAny_letGo ?_)
 refine wpAny_bind (seqEpoch_at oD1 rfl ?_)
 refine wpAny_bind (listUpdate_at oD1 rfl ?_ (Nat.zero_le _) szD)
 rw [b4]
 simp only [bne_self_eq_false,Bool.false_eq_true,if_false]
 exact wpAny_pure fin
end
end
section
set_option maxHeartbeats 1000000
section
variable{X:Cx}{pins:List (Addr × Obj)}{σ:L2.St}{s:Shared}{H:Hp}{k:Nat}{f:Addr}{fd:FuncData}{ps:List Str}{G:List Int->List Int}{C:List Int->Prop}
theorem sort_restK{D kS:Addr}{e1 m:Nat}{es:List (Addr × List Int)}{H2:Hp}{P:PySem.Fin->Shared->Prop}{E:Value->Shared->Prop}(F:FnOk X.prog X.w X.K X.mg X.base CX0 k f fd ps (iz G C))(hr:Room (k+2) X.A)(hb:Binds X.K fd ps [])
  (I:Inv X ((D,seqObj "list" #[] e1)::pins) σ H2 s) (hD:∀Hi:Hp,Hi D=none->ga X pins Hi D) (hkD:kS≠D) (hK:KeysAt G es H H2 kS []) (hE:∀x∈es,aN H x.1 x.2/\C x.2/\(G x.2).length=m) (hz:es.length<=sizeLine) (hk:H kS=none) (hDH:H D=none)
  (h:∀(bs:List (Addr × List Int))(H':Hp)(s':Shared),Inv X pins σ H' s'->bs.Perm es->bs.Pairwise (fun x y=>Tg.before (G y.2) (G x.2)=false)->Same H H'->H' D=some (.lst (bs.map fun x=>V.ref x.1))->P (.done (.ret .none)) s') :
  wpAny (model X.prog X.w) X.A.in1.in1 (ksk_rest D (.ref f) false (es.map adV).toArray e1 (.ref kS)) P E s:=by
 have hz2:=hz
 rw [sizeLine_eq] at hz2
 unfold ksk_rest
 refine wpAny_bind (wpAny_rule ?_)
 rw [List.forIn_toArray]
 refine wpAny_bind (ksk_fold (fun i s'=>∃(Hi:Hp)(rs:List Addr),Inv X ((D,seqObj "list" #[] e1)::pins) σ Hi s'/\KeysAt G es H Hi kS rs/\rs.length=i) (es.map adV) 0 s ⟨H2,[],I,hK,rfl⟩ ?turn ?after)
 case turn=>
  rintro j x s' hx ⟨Hi,rs,Ii,Ki,hl⟩
  rw [Nat.zero_add] at hl ⊢
  rw [List.getElem?_map] at hx
  obtain⟨y,hy,rfl⟩:=Option.map_eq_some_iff.1 hx
  have hym:=List.mem_of_getElem? hy
  have hj:j<es.length:=(List.getElem?_eq_some_iff.1 hy).1
  refine wpAny_bind (wpAny_attempt (wpAny_mono (run_key (vs:=[.ref y.1]) (us:=[.ref y.1]) (Q:=fun v H'=>∃r,v=.ref r/\Hi r=none/\Same Hi H'/\aN H' r (G y.2)) F hr hb Ii (.cons rfl .nil) ⟨y.1,y.2,rfl,Ki.same _ _ (hE y hym).1,(hE y hym).2.1,fun H' r q1 q2 q3=>⟨r,rfl,q1,q2,q3⟩⟩) (fun v s2 he=>?_) fun _ _ hF=>hF.elim))
  obtain⟨v',H',I2,rv,r,rfl,q1,q2,q3⟩:=he
  cases rv
  have ek:=q2 _ _ Ki.at_
  obtain⟨_,itk,nk,rk,_,ok⟩:=I2.lstM ek
  have eik:=dZ rk
  subst eik
  have I3:=I2.lset (its':=(rs++[r]).map Value.ref) (ys:=(rs++[r]).map V.ref) (f:=(·.push (.ref r))) (t':=s2.toks) ek ok (by simp) (vals_of_refs _) (by rw [List.length_map,List.length_append]; simp; omega)
  refine wpAny_bind (listUpdate_at ok rfl (wpAny_pure ⟨rfl,_,rs++[r],I3,Ki.snoc hk (by rw [hl]; exact hy) q1 q2 q3,by simp [hl]⟩) (by rw [List.size_toArray,List.length_map]; omega) ?_)
  rw [Array.size_push,List.size_toArray,List.length_map]
  omega
 case after=>
  rintro s' ⟨Hi,rs,Ii,Ki,hl⟩
  rw [Nat.zero_add,List.length_map] at hl
  obtain⟨_,itk,nk,rk,_,ok⟩:=(Ii.lstM Ki.at_)
  have eik:=dZ rk
  subst eik
  refine wpAny_bind (listItems_at ok rfl ?_)
  refine sort_endK (by have:=hr.un; omega) Ii (hD Hi ?_) hkD Ki hl (fun x hx=>(hE x hx).2.2) hz hk hDH h
  exact(Ii.pin (D,seqObj "list" #[] e1) (List.mem_append_right _ List.mem_cons_self)).2.1
theorem call_sortK{Q:VK}{a:Addr}{es:List (Addr × List Int)}{m:Nat}(F:FnOk X.prog X.w X.K X.mg X.base CX0 k f fd ps (iz G C))(hr:Room (k+2) X.A)(hb:Binds X.K fd ps [])(I:Inv X pins σ H s)
  (hs:SqL X.K H a (es.map fun x=>V.ref x.1)) (hE:∀x∈es,aN H x.1 x.2/\C x.2/\(G x.2).length=m)
  (q:∀(bs:List (Addr × List Int))(H':Hp)(p:Addr),bs.Perm es->bs.Pairwise (fun x y=>Tg.before (G y.2) (G x.2)=false)->Same H H'->H p=none->H' p=some (.lst (bs.map fun x=>V.ref x.1))->Q (.ref p) H') :
  wpAny (model X.prog X.w) X.A (call (.builtin "sorted") [.ref a] [("key",.ref f)]) (EP X pins σ Q) X.xe s:=by
 obtain⟨its,rv,hl,hlen⟩:=I.list hs
 have ei:its=es.map adV:=by
  have:ay ((es.map (·.1)).map V.ref) its:=by rw [List.map_map]; exact rv
  rw [dZ this,List.map_map]; rfl
 subst ei
 rw [List.length_map] at hlen
 have hzl:(es.map adV).length<=sizeLine:=by rw [List.length_map]; exact hlen
 have sz1:((s.heap.push (seqObj "list" #[] 0)).update s.heap.objs.size (Obj.mapSeq (· ++(es.map adV).toArray))).objs.size=s.heap.objs.size+1:=by rw [Heap.size_update,size_push']
 have kp1:∀b u,s.heap.get? b=some u->(((s.heap.push (seqObj "list" #[] 0)).update s.heap.objs.size (Obj.mapSeq (· ++(es.map adV).toArray))).push (seqObj "list" (es.map adV).toArray 0)).get? b=some u:=fun b u e=>by
  have hlt:=Heap.lt_size e
  exact Heap.get?_push_of_some _ (by rw [Heap.get?_update_ne _ _ _ _ (Nat.ne_of_lt hlt)]; exact Heap.get?_push_of_some _ e)
 have oL:(((s.heap.push (seqObj "list" #[] 0)).update s.heap.objs.size (Obj.mapSeq (· ++(es.map adV).toArray))).push (seqObj "list" (es.map adV).toArray 0)).get? (s.heap.objs.size+1)=some (seqObj "list" (es.map adV).toArray 0):=by
  rw [<- sz1]; exact Heap.get?_push_size _ rfl
 refine call_function_entry_kw kind_sorted plain_sorted entry_sorted (ksk_s1 _ _) (wpAny_bind (m:=checkCount "sorted" 1 1 _) (wpAny_pure (wpAny_bind (collect_list hl.isList (wpAny_bind (wpAny_newList ?_ hzl)) hzl))))
 show wpAny _ _ _ _ _ {s with heap:=((s.heap.push (seqObj "list" #[] 0)).update s.heap.objs.size (Obj.mapSeq (· ++(es.map adV).toArray))).push (seqObj "list" (es.map adV).toArray 0)}
 rw [sz1]
 generalize ((s.heap.push (seqObj "list" #[] 0)).update s.heap.objs.size (Obj.mapSeq (· ++(es.map adV).toArray))).push (seqObj "list" (es.map adV).toArray 0)=h1 at kp1 oL ⊢
 have nD:∀b u,s.heap.get? b=some u->b≠s.heap.objs.size+1:=fun b u e=>Nat.ne_of_lt (Nat.lt_succ_of_lt (Heap.lt_size e))
 refine wpAny_bind (wpAny_holding (wpAny_call_entry_kw slot_list_sort ⟨_,oL,rfl⟩ entry_list_sort ?_ (ksk_l1 _ _)))
 show wpAny (model X.prog X.w) X.A.in1.in1 (ksk_tree (s.heap.objs.size+1) (.ref f) false) _ _ _
 obtain⟨e1,o1⟩:∃e1,(h1.update (s.heap.objs.size+1) (Obj.mapSeq fun _=>#[])).get? (s.heap.objs.size+1)=some (seqObj "list" #[] e1):=⟨_,get?_update_seq oL fun _=>#[]⟩
 have kp2:∀b u,s.heap.get? b=some u->((h1.update (s.heap.objs.size+1) (Obj.mapSeq fun _=>#[])).push (seqObj "tuple" (es.map adV).toArray 0)).get? b=some u:=fun b u e=>
  Heap.get?_push_of_some _ (by rw [Heap.get?_update_ne _ _ _ _ (nD b u e)]; exact kp1 b u e)
 have o2:((h1.update (s.heap.objs.size+1) (Obj.mapSeq fun _=>#[])).push (seqObj "tuple" (es.map adV).toArray 0)).get? (s.heap.objs.size+1)=some (seqObj "list" #[] e1):=Heap.get?_push_of_some _ o1
 unfold ksk_tree
 refine wpAny_bind (listItems_at oL rfl (wpAny_bind (listUpdate_at oL rfl (wpAny_bind (seqEpoch_at o1 rfl (wpAny_bind (wpAny_newTuple ?_ hzl)))) (by rw [List.size_toArray]; exact hzl) (Nat.zero_le _))))
 show wpAny _ _ _ _ _ {s with heap:=(h1.update (s.heap.objs.size+1) (Obj.mapSeq fun _=>#[])).push (seqObj "tuple" (es.map adV).toArray 0)}
 generalize (h1.update (s.heap.objs.size+1) (Obj.mapSeq fun _=>#[])).push (seqObj "tuple" (es.map adV).toArray 0)=h2 at kp2 o2 ⊢
 have hfD:H (s.heap.objs.size+1)=none:=I.hok.fresh (Nat.le_succ _)
 have fD:∀Hi:Hp,Hi (s.heap.objs.size+1)=none->ga X pins Hi (s.heap.objs.size+1):=fun Hi hn=>I.fpOk (Nat.le_succ _) hn
 have J1:Inv X pins σ H {s with heap:=h2,toks:=s.toks}:=I.kept kp2
 have J2:Inv X ((s.heap.objs.size+1,seqObj "list" #[] e1)::pins) σ H {s with heap:=h2,toks:=s.toks}:=J1.pins_of fun p hp=>by
  rcases List.mem_cons.1 hp with rfl | hp
  ·exact⟨o2,hfD,(fD H hfD).2.1,(fD H hfD).2.2.1,fun v=>nofun⟩
  ·exact J1.pin p (List.mem_append_right _ hp)
 have szle:s.heap.objs.size+1<h2.objs.size:=Heap.lt_size o2
 have hfk:H h2.objs.size=none:=I.hok.fresh (Nat.le_of_lt (Nat.lt_of_succ_lt szle))
 refine wpAny_bind (wpAny_newList (wpAny_holding ?_) (Nat.zero_le _))
 refine sort_restK (kS:=h2.objs.size) (H:=H) F hr hb (J2.lnew (its:=[]) (ys:=[]) (t':=s.toks) .nil (Nat.zero_le _)) fD (Nat.ne_of_gt szle) ⟨fun b u e=>by rw [aO (aP e hfk)]; exact e,aB,fun j r hj=>by simp at hj⟩ hE hlen hfk hfD fun bs H' s' I' b1 b2 b3 b4=>⟨_,rfl,wpAny_pure ⟨_,rfl,.ref _,H',I',rfl,q bs H' _ b1 b2 b3 hfD b4⟩⟩
end
end
section
variable{X:Cx}{k:Nat}{f:Addr}{fd:FuncData}{ps:List Str}{G:List Int->List Int}{C:List Int->Prop}{p pos kpos npos:Pos}{e:Expr}{t:TE}{y:Str}
def tSortK(K:W.Frag)(G:List Int->List Int)(C:List Int->Prop)(t:TE):TE:=fun σ H Q=>t σ H fun v H1=>rSortK K G C [v] H1 Q
theorem pe_sortK(F:FnOk X.prog X.w X.K X.mg X.base CX0 k f fd ps (iz G C))(hr:Room (k+2) X.A)(hb:Binds X.K fd ps [])(hg:Gl X "sorted")(hm:X.mg "sorted"=none)(hgy:Gl X y)(hmy:X.mg y=some (.ref f))(ha:PE X e t)(hdy:(y == ("__debug__":Str))=false:=by decide)
  (hs:starEach [e] X.env=(false,eval e X.env)::starEach [] X.env:=by rfl) (he:backTo pos (starEach [e] X.env)=(false,eval e X.env)::backTo pos (starEach [] X.env):=by rfl) (hpl:(backTo pos (starEach [e] X.env)).any (·.1)=false:=by rfl) :
  PE X (.Call (.Name "sorted" p) [e] [⟨some "key",.Name y npos,kpos⟩] pos) (tSortK X.K G C t):=by
 intro pins s σ H Q I h
 have ha1:=aA ha aE hs
 have hk1:PK X [⟨some "key",.Name y npos,kpos⟩] _:=pk_cons (nm:=some "key") (kpos:=kpos) (cw (pos:=npos) hgy hmy (v:=.ref f) rfl hdy) pk_nil
 refine wpAny_Call_Name_kw (ii I hg hm PyProof.Rows.boot_sorted ?_ (by decide) (by decide))
 refine PyProof.Rows.callWith_kw (thn (ha1 pos pins s σ H (fun vs H1=>rSortK X.K G C vs H1 Q) I h) ?_) he hpl (by rfl) (by rfl)
 rintro us s1 ⟨vs,H1,I1,r,q⟩
 refine thn (hk1 pos pins s1 σ H1 (fun zs H2=>zs=[.ref f]/\H2=H1) I1 ⟨rfl,rfl⟩) ?_
 rintro ws s2 ⟨zs,H2,I2,rz,rfl,rfl⟩
 rw [ay.ref1 rz]
 obtain⟨a,es,m,rfl,hs,hE,q⟩:=q
 rw [ay.ref1 r]
 exact call_sortK F hr hb I2 hs hE q
end
abbrev sByl:Stmt:=aj "by_length"
theorem scByl:FnScope ["vector"] ["vector"] (aC sByl):=⟨rfl,rfl,rfl,by decide +kernel,rfl,by decide +kernel,by decide +kernel⟩
def keyL(v:List Int):List Int:=Tg.dot v v::v
def keyC(v:List Int):Prop:=v.length<1000/\∃B,Wl.Bd B v/\B+B<=134217728
theorem ok_byl{f fN:Addr}{fd fdN:FuncData}(F:Fun K "by_length" "by_length" sByl f fd)
  (GN:FnOk P w K mg base CX0 2 fN fdN ["vector"] iF) (kN:W.keepIn K (.ref fN)=true) (bN:Binds K fdN ["vector"] []) (mN:mg "length"=some (.ref fN)) :
  FnOk P w K mg base CX0 3 f fd ["vector"] (iz keyL keyC):=by
 refine F.ok scByl (fun vs H Q E h=>?_) (fun cdv A outer s H vs Q E hr h=>?_)
 ·obtain⟨a,v,rfl,_⟩:=h
  rfl
 ·obtain⟨a,v,rfl,ha,⟨hl,B,hB,hf⟩,kq⟩:=h
  refine⟨_,aK (aV (af cR (bJ (aA (aJ GN hr rfl mN kN bN .nil aS (aA (pv 0) aE)) aE)) (pv 0))),?_⟩
  refine⟨_,rfl,a,B,v,rfl,ha,hl,hB,hf,fun H2 s2=>⟨by show 1<=sizeLine; decide,fun l1 hl1=>?_⟩⟩
  have s3:=s2.trans (Same.new (o:=.lst [.int (Tg.dot v v)]) hl1)
  refine⟨_,rfl,l1,a,[.int (Tg.dot v v)],v.map V.int,rfl,rfl,aB,s3 _ _ ha,?_,fun p hp=>?_⟩
  ·rw [List.length_map,sizeLine_eq]
   show 1+v.length<=_
   omega
  ·have s4:=s3.trans (Same.new (o:=.lst ([.int (Tg.dot v v)]++v.map V.int)) hp)
   exact kq _ p (s3.free hp) s4 aB
abbrev da:Stmt:=aj "reached"
theorem gz:FnScope ["point","rows","bound","most","last","often","fewer"] ["point","rows","bound","most"] (aC da):=⟨rfl,rfl,rfl,by decide +kernel,rfl,by decide +kernel,by decide +kernel⟩
structure FunD(K:W.Frag)(x qual:Str)(st:Stmt)(f:Addr)(fd:FuncData)(T:Addr):Prop where
 ex:∃(oc:Value)(od:Option Addr)(kV doc pm:Value)(an:Option Addr)(cdv ct:Value)(osl:Array (Option Value)),
  fd=W.fnOf x qual (aU st) (aR st) (aC st) (.ref T) kV doc pm an cdv ct/\K.lookup f=some ⟨oc,od,.func fd,osl⟩/\W.codeIn K cdv qual=true
 kp:W.keepIn K (.ref f)=true
theorem FunD.ok{x qual:Str}{st:Stmt}{f T:Addr}{fd:FuncData}{N ps:List Str}{k:Nat}{sp:Sp}(F:FunD K x qual st f fd T)(S:FnScope N ps (aC st))(len:∀vs H Q E,sp vs H Q E->vs.length=ps.length)
  (body:∀(cdv:Value)(A:Around)(outer:List Env)(s:Shared)(H:Hp)(vs:List V)(Q:VK)(E:XK),Room k (A.deeper (envOfC qual (aC st) s.heap.objs.size f cdv))->sp vs H Q E->
   ∃t,PSs (jM CX0 P w K mg base N qual (aC st) f cdv A outer s H E).nox (aR st) t/\t {nx:=fun _ H'=>Q .non H',rt:=Q} (start N vs) H):FnOk P w K mg base CX0 (k+1) f fd ps sp:=by
 obtain⟨oc,od,kV,doc,pm,an,cdv,ct,osl,rfl,lk,cd⟩:=F.ex
 refine fn_of lk cd S len fun A outer s H vs Q E r q=>?_
 obtain⟨t,h,z⟩:=body cdv A outer s H vs Q E r q
 exact⟨t,h.nox,z⟩
theorem ok_reach{k c:Nat}{f fN fB fS fL fT TD:Addr}{fd fdN fdB fdS fdL fdT:FuncData}{spT:Sp}(hc:42<=c)(hP:P.given.tree=none)(F:FunD K "reached" "reached" da f fd TD)(T:Txt K mg)
  (GN:FnOk P w K mg base CX0 2 fN fdN ["vector"] iF) (kN:W.keepIn K (.ref fN)=true) (bN:Binds K fdN ["vector"] []) (mN:mg "length"=some (.ref fN))
  (GB:FnOk P w K mg base CX0 10 fB fdB ["rows","others"] jA) (kB:W.keepIn K (.ref fB)=true) (bB:Binds K fdB ["rows","others"] []) (mB:mg "size_between"=some (.ref fB))
  (GS:FnOk P w K mg base CX0 11 fS fdS ["rows"] gL) (kS:W.keepIn K (.ref fS)=true) (bS:Binds K fdS ["rows"] []) (mS:mg "size_of"=some (.ref fS))
  (GL:FnOk P w K mg base CX0 1 fL fdL ["vector","times","other"] eD) (kL:W.keepIn K (.ref fL)=true) (bL:Binds K fdL ["vector","times","other"] []) (mL:mg "less"=some (.ref fL))
  (GT:FnOk P w K mg base CX0 c fT fdT ["start","rows","step","bound","most"] spT) (kT:W.keepIn K (.ref fT)=true) (bT:Binds K fdT ["start","rows","step","bound","most"] []) (mT:mg "reached_by_steps"=some (.ref fT))
  (hT:∀j,k=j+1->∀vs H Q E,spSteps j vs H Q E->spT vs H Q E) :
  FnOk P w K mg base CX0 (c+1) f fd ["point","rows","bound","most"] (eY k):=by
 refine F.ok gz (fun vs H Q E h=>?_) (fun cdv A outer s H vs Q E hr h=>?_)
 ·obtain⟨a,r,bound,mo,n,B,R,S,p,g,rfl,_⟩:=h
  rfl
 ·obtain⟨a,r,bound,mo,n,B,R,S,p,g,rfl,ha,⟨as,hr0,hav⟩,lp,hk,SO,Bp,Bg,hRB,hf,hM,kq⟩:=h
  have hr2:Room 2 _:=hr.mono (by omega)
  have hr10:Room 10 _:=hr.mono (by omega)
  have hr11:Room 11 _:=hr.mono (by omega)
  have hr1:Room 1 _:=hr.mono (by omega)
  have hd:=Room.pyl hr (by omega)
  refine⟨_,aF (cC (ad cV (ag a8 (by rfl) T.len PySem.boot_len (aA (pv 1) aE)) aQ (ao _))
    (aK (aV (pe_ifExp (ad jT (aJ GN hr2 rfl mN kN bN .nil aS (aA (pv 0) aE)) (pv 2) (ao _)) (bJ (aA (pv 0) aE)) (bJ aE)))) bE)
   (aF (aZ (i:=4) gz.nd rfl (Or.inl rfl) (bj (ixl K) (pv 1) (gu f8 aQ) (fun _ _=>rfl)))
   (aF (aZ (i:=5) gz.nd rfl (Or.inl rfl) (af (eM hd hP) (aJ GB hr10 rfl mB kB bB .nil aS (aA (pv 1) (aA (af cR (cE (sll K) (pv 1) cg (cJ (gu f8 aQ))) (bJ (aA (pv 0) aE))) aE))) (aJ GS hr11 rfl mS kS bS .nil aS (aA (pv 1) aE))))
   (aF (aZ (i:=6) gz.nd rfl (Or.inl rfl) (aJ GT hr rfl mT kT bT .nil aS (aA (aJ GL hr1 rfl mL kL bL .nil aS (aA (pv 0) (aA (pv 5) (aA (pv 4) aE)))) (aA (pv 1) (aA (gu f8 aQ) (aA (pv 2) (aA (pv 3) aE)))))))
   (aK (aV (af cR (pv 6) (aJ GT hr rfl mT kT bT .nil aS (aA (aJ GL hr1 rfl mL kL bL .nil aS (aA (pv 0) (aA (af cq (pv 5) aQ) (aA (pv 4) aE)))) (aA (pv 1) (aA aQ (aA (pv 2) (aA (pv 3) aE)))))))))))),?_⟩
  have hlen:=hav.len
  have n1:=SO.n1
  have n3:=SO.n3
  have k3:=SO.k3
  refine⟨_,rfl,r,_,rfl,.inl (SqL.of hr0),rfl,_,rfl,?_⟩
  dsimp only
  cases k with
  | zero=>
    have eg:g=[]:=List.eq_nil_of_length_eq_zero hk
    subst eg
    have eas:as=[]:=List.eq_nil_of_length_eq_zero (by rw [hlen]; rfl)
    rw [if_pos (by rw [eas]; rfl)]
    refine⟨_,rfl,a,B,p,rfl,ha,by omega,Bp,by omega,fun H2 s2=>⟨_,rfl,_,_,rfl,rfl,_,rfl,?_⟩⟩
    dsimp only
    have R0:=Wl.Reach.base (n:=n) (bound:=bound) lp
    by_cases hle:Tg.dot p p<=bound
    ·rw [if_pos (by simpa using hle)]
     rw [if_pos hle] at R0
     refine⟨_,rfl,by show 1<=sizeLine; decide,fun q hq=>?_⟩
     exact kq _ q [p] (s2.free hq) (s2.trans (Same.new hq)) ⟨[a],by rw [aB]; rfl,aL.one ((s2.trans (Same.new hq)) _ _ ha)⟩ R0
    ·rw [if_neg (by simpa using hle)]
     rw [if_neg hle] at R0
     refine⟨Nat.zero_le _,fun q hq=>?_⟩
     exact kq _ q [] (s2.free hq) (s2.trans (Same.new hq)) ⟨[],aB,trivial⟩ R0
  | succ k=>
    have gne:g≠[]:=fun e=>by rw [e] at hk; cases hk
    obtain⟨g',b,rfl⟩:∃g' b,g=g'++[b]:=⟨g.dropLast,g.getLast gne,(List.dropLast_concat_getLast gne).symm⟩
    obtain⟨as',ab,eas,hag,hab⟩:=hav.split
    rw [List.length_append,List.length_singleton] at hk
    have hk':g'.length=k:=by omega
    rw [if_neg (by
     rw [eas,List.map_append]
     simp
     omega)]
    have Lg:=SO.len
    have lb:b.length=n:=Lg b (by simp)
    have Bb:Wl.Bd R b:=Bg b (by simp)
    have Lg':Wl.Len n g':=SO.pre.len
    have hkm:(k+1)*(4*R+40)=k*(4*R+40)+(4*R+40):=by grind
    rw [List.length_append,List.length_singleton] at k3
    have he:=SO.ch.last.2
    have Fb:=SO.ch.last.1
    refine⟨_,rfl,_,rfl,r,as.map V.ref,_,.ref ab,rfl,rfl,SqL.of hr0,by rw [eas,List.map_append]; exact at_last _ _,?_⟩
    refine⟨_,rfl,_,rfl,_,rfl,_,rfl,r,_,rfl,SqL.of hr0,fun bf hbf=>?_⟩
    have ecut:cH (as.map V.ref) none (some (-1))=as'.map V.ref:=by
     rw [cut_last,eas,List.map_append]
     simp
    have s1:Same H (upd H bf (.lst (cH (as.map V.ref) none (some (-1))))):=Same.new hbf
    refine⟨_,rfl,by show 1<=sizeLine; decide,fun l1 hl1=>?_⟩
    have s2:=s1.trans (Same.new (o:=.lst [.ref a]) hl1)
    refine⟨bf,l1,as'.map V.ref,[.ref a],rfl,rfl,by rw [aO (aP aB hl1),aB,ecut],aB,?_,fun p3 hp3=>?_⟩
    ·rw [List.length_map,hag.len]
     exact aq (by omega)
    have s3:=s2.trans (Same.new (o:=.lst (as'.map V.ref++[.ref a])) hp3)
    have Lp:Wl.Len n (g'++[p]):=fun v hv=>by
     rcases List.mem_append.1 hv with h | h
     ·exact Lg' v h
     ·rw [List.mem_singleton.1 h]; exact lp
    refine⟨r,p3,n,B,g'++[b],g'++[p],rfl,⟨as,s3 _ _ hr0,hav.keep s3⟩,⟨as'++[a],by rw [aB,List.map_append]; rfl,(hag.keep s3).append (aL.one (s3 _ _ ha))⟩,Lg,Lp,by simp,by omega,by simp; omega,fun v hv=>(Bg v hv).mono hRB,fun v hv=>?_,by omega,fun H5 s5=>?_⟩
    ·rcases List.mem_append.1 hv with h | h
     ·exact(Bg v (List.mem_append_left _ h)).mono hRB
     ·rw [List.mem_singleton.1 h]; exact Bp
    have s5':=s3.trans s5
    refine⟨_,rfl,r,n,R,g'++[b],rfl,⟨as,s5' _ _ hr0,hav.keep s5'⟩,Lg,by omega,by simp; omega,Bg,by omega,fun H6 s6=>?_⟩
    have s6':=s5'.trans s6
    refine⟨_,_,rfl,rfl,Int.ne_of_gt he,?_⟩
    have fl:=Wl.floor_beta (β:=Wl.bil g' b p) he
    have ob:=often_bits (D:=3*R+8) Fb n3 lp lb he (d5 Lg' n3 (by omega) fun v hv=>Bg v (List.mem_append_left _ hv)) Bp
    have eo:(between (g'++[b]) (g'++[p])).fdiv (Tg.sizeOf (g'++[b]))=(Wl.bil g' b p).fdiv (Wl.bil g' b b):=rfl
    dsimp only
    rw [eo]
    generalize (Wl.bil g' b p).fdiv (Wl.bil g' b b)=o at fl ob ⊢
    have b1:=bd_start (k:=o) lp lb Bp Bb (by omega)
    have b2:=bd_start (k:=o+1) lp lb Bp Bb (by omega)
    have s67:∀{H7:Hp},Same H6 H7->Same H H7:=fun q=>s6'.trans q
    refine⟨_,rfl,_,rfl,_,rfl,a,ab,o,p,b,rfl,s6' _ _ ha,s6' _ _ hab,by rw [lp,lb],by omega,fun x hx=>cu ob (cO Bb x hx) (by omega),fun H7 z hz s7 hzv=>?_⟩
    have t7:=s67 s7
    have sg1:(-1:Int)*Wl.bil g' b (Wl.lss p b o)<=0:=by
     rw [Fb.beta o lp lb]
     have:=fl.1
     omega
    have sg2:(1:Int)*Wl.bil g' b (Wl.lss p b (o+1))<=0:=by
     rw [Fb.beta (o+1) lp lb]
     have:=fl.2
     omega
    refine⟨_,rfl,_,rfl,_,rfl,_,rfl,hT k rfl _ _ _ _ ⟨z,r,-1,bound,mo,n,B+4*R+12,R,S,Wl.lss p b o,b,g',rfl,hzv,⟨as,t7 _ _ hr0,hav.keep t7⟩,Wl.bY _ lp lb,hk',SO,.inr rfl,sg1,b1,Bg,by omega,by omega,hM,fun H8 q1 l1 hq1 s8 hl1 m1 n1' k1=>?_⟩⟩
    obtain⟨as1,ha1,hv1⟩:=hl1
    have t8:=t7.trans s8
    refine⟨_,rfl,_,rfl,_,rfl,_,_,rfl,rfl,_,rfl,a,ab,o+1,p,b,rfl,t8 _ _ ha,t8 _ _ hab,by rw [lp,lb],by omega,fun x hx=>?_,fun H9 y hy s9 hyv=>?_⟩
    ·refine cu (m:=B+(3*R+8)+3) ?_ (cO Bb x hx) (by omega)
     have:2^(B+(3*R+8)+3)=2*2^(B+(3*R+8)+2):=by rw [show B+(3*R+8)+3=(B+(3*R+8)+2)+1 by omega,Nat.pow_succ]; omega
     omega
    have t9:=t8.trans s9
    refine⟨_,rfl,_,rfl,_,rfl,hT k rfl _ _ _ _ ⟨y,r,1,bound,mo,n,B+4*R+12,R,S,Wl.lss p b (o+1),b,g',rfl,hyv,⟨as,t9 _ _ hr0,hav.keep t9⟩,Wl.bY _ lp lb,hk',SO,.inl rfl,sg2,b2,Bg,by omega,by omega,hM,fun H10 q2 l2 hq2 s10 hl2 m2 n2' k2=>?_⟩⟩
    obtain⟨as2,ha2,hv2⟩:=hl2
    have t10:=t9.trans s10
    have u1:=s9.trans s10
    have sm:=SO.small
    rw [hk'] at sm
    have RB:=Wl.Reach.both (M:=(S k+1)*Wl.Cnt S k) Fb Lg' lp lb he m1 n1' k1 m2 n2' k2
    have hbig:=SO.big
    rw [List.length_append,List.length_singleton,hk'] at hbig
    refine⟨q1,q2,as1.map V.ref,as2.map V.ref,rfl,rfl,u1 _ _ ha1,ha2,?_,fun q hq=>?_⟩
    ·rw [List.length_map,List.length_map,hv1.len,hv2.len,sizeLine_eq]
     have:Wl.Cnt S (k+1)=2*((S k+1)*Wl.Cnt S k):=rfl
     omega
    ·have sq:=Same.new (o:=.lst (as1.map V.ref++as2.map V.ref)) hq
     exact kq _ q (l1++l2) (t10.free hq) (t10.trans sq) ⟨as1++as2,by rw [aB,List.map_append],((hv1.keep u1).append hv2).keep sq⟩ RB
abbrev eE:Stmt:=aj "least_of"
theorem fy:FnScope ["rows","made","lengths","vector","number"] ["rows"] (aC eE):=⟨rfl,rfl,rfl,by decide +kernel,rfl,by decide +kernel,by decide +kernel⟩
theorem blkLs1:BlkOk ["rows","made","lengths","vector","number"] (aC eE) (dF (cQ eE 1)) [("vector",3)]:=bq (by decide +kernel)
theorem blkLs2:BlkOk ["rows","made","lengths","vector","number"] (aC eE) (g6 (cQ eE 2)) [("number",4)]:=bq (by decide +kernel)
theorem minK(K:W.Frag){X:Cx}(hc:X.calm=true:=by rfl)(h:X.K=K:=by rfl):ft X (.builtin "min") (rMin K):=h ▸cr_min hc
def spLst:Sp:=fun vs H Q _=>∃(r:Addr)(n R:Nat)(g:List (List Int)),vs=[.ref r]/\ak H r g/\Wl.Ech n g/\1<=n/\n<=3/\g.length<=3/\0<g.length/\Wl.Bds R g/\R<=5000/\
 ∀(H':Hp)(x:Int),Same H H'->Tg.least n g=some x->Q (.int x) H'
theorem ok_least{c:Nat}{f fD fR fN:Addr}{fd fdD fdR fdN:FuncData}(hc:43<=c)(F:Fun K "least_of" "least_of" eE f fd)(T:Txt K mg)(mn:mg "min"=none)
  (GD:FnOk P w K mg base CX0 43 fD fdD ["rows"] jP) (kD:W.keepIn K (.ref fD)=true) (bD:Binds K fdD ["rows"] []) (mD:mg "reduced"=some (.ref fD))
  (GN:FnOk P w K mg base CX0 2 fN fdN ["vector"] iF) (kN:W.keepIn K (.ref fN)=true) (bN:Binds K fdN ["vector"] []) (mN:mg "length"=some (.ref fN))
  (GR:∀k,k<=3->FnOk P w K mg base CX0 c fR fdR ["point","rows","bound","most"] (eY k)) (kR:W.keepIn K (.ref fR)=true) (bR:Binds K fdR ["point","rows","bound","most"] [.none]) (mR:mg "reached"=some (.ref fR)) :
  FnOk P w K mg base CX0 (c+1) f fd ["rows"] spLst:=by
 refine F.ok fy (fun vs H Q E h=>?_) (fun cdv A outer s H vs Q E hr h=>?_)
 ·obtain⟨r,n,R,g,rfl,_⟩:=h
  rfl
 ·obtain⟨r,n,R,g,rfl,hg,EH,n1,n3,k3,k0,Bg,hR,kq⟩:=h
  have hr43:Room 43 _:=hr.mono (by omega)
  have hr2:Room 2 _:=hr.mono (by omega)
  refine⟨_,aF (aZ (i:=1) fy.nd rfl (Or.inl rfl) (aJ GD hr43 rfl mD kD bD .nil aS (aA (pv 0) aE)))
   (aF (ps_setLc (i:=2) (own:=[("vector",3)]) rfl fy.nd rfl rfl (sw_true rfl rfl rfl rfl)
     (cD (aJ (GR g.length k3) hr rfl mR kR bR (dvs:=[.non]) (.cons rfl .nil) aS (aA (af ib (bJ (aA aQ aE)) (ag a8 (by rfl) T.len PySem.boot_len (aA (bj (ixl K) (pv 1) aQ (fun _ _=>rfl)) aE))) (aA (pv 1) (aA (aJ GN hr2 rfl mN kN bN .nil aS (aA (bj (ixl K) (pv 1) aQ (fun _ _=>rfl)) aE)) aE))))) blkLs1
     (fun s H C cl fp=>b8 (i:=3) fy.nd rfl (Or.inl rfl)) (fun s H C cl fp=>cU)
     (fun s H C cl fp=>aJ GN hr2 rfl mN kN bN .nil aS (aA (pv 3) aE)))
   (aK (aV (ag (minK K) (by rfl) mn boot_min (aA (dN (own:=[("number",4)]) rfl fy.nd (cD (pv 2)) blkLs2
     (fun s H C cl fp=>b8 (i:=4) fy.nd rfl (Or.inl rfl)) (fun s H C cl fp=>hW (ad jU (pv 4) aQ (ao _)))
     (fun s H C cl fp=>pv 4)) aE))))),?_⟩
  refine⟨_,rfl,r,n,R,g,rfl,hg,EH.len,EH.chain k3,n1,n3,k3,Bg,hR,fun H1 q m s1 hm LR=>?_⟩
  obtain⟨as,hq,hav⟩:=hm
  have ml:=LR.len
  have hlen:=hav.len
  have h0:0<as.length:=by omega
  have h0m:0<m.length:=by omega
  obtain⟨row,f1,f2⟩:=hav.get (i:=0) (List.getElem?_eq_getElem h0)
  have ef:row=Wl.nth m 0:=by simp [Wl.nth,f1]
  rw [ef] at f2
  have lr:=Wl.dw LR.L h0m
  have Br:Wl.Bd (6*R+17) (Wl.nth m 0):=by
   have:Wl.nth m 0=m[0]:=by simp [Wl.nth,h0m]
   rw [this]; exact LR.bd _ (List.getElem_mem h0m)
  have at0:∀{xs:List Addr}(h:0<xs.length),atI (xs.map V.ref) 0=some (V.ref (xs[0]'h)):=fun{xs} h=>dY (j:=0) (by rw [List.getElem?_map,List.getElem?_eq_getElem h]; rfl)
  refine⟨by show 1<=sizeLine; decide,fun l1 hl1=>?_⟩
  have t1:Same H1 _:=Same.new (o:=.lst [.int 0]) hl1
  refine⟨_,rfl,q,as.map V.ref,_,.ref (as[0]'h0),rfl,rfl,SqL.of (t1 _ _ hq),at0 h0,as[0]'h0,_,rfl,.inl (SqL.of (t1 _ _ f2)),?_⟩
  refine⟨l1,_,[.int 0],rfl,rfl,aB,by rw [List.length_map,lr]; omega,by rw [List.length_map,lr]; omega,by rw [List.length_map,lr,sizeLine_eq]; show 1*_<=_; omega,fun z hz=>?_⟩
  have t2:=t1.trans (Same.new (o:=.lst (List.replicate (((Wl.nth m 0).map V.int).length:Int).toNat [V.int 0]).flatten) hz)
  have ez:(List.replicate (((Wl.nth m 0).map V.int).length:Int).toNat [V.int 0]).flatten=(Tg.zero n).map V.int:=by
   rw [List.length_map,lr]
   simp [Tg.zero]
  have hzv:aN (upd (upd H1 l1 (.lst [.int 0])) z (.lst (List.replicate (((Wl.nth m 0).map V.int).length:Int).toNat [V.int 0]).flatten)) z (Tg.zero n):=by
   unfold aN
   rw [aB,ez]
  refine⟨_,rfl,_,rfl,q,as.map V.ref,_,.ref (as[0]'h0),rfl,rfl,SqL.of (t2 _ _ hq),at0 h0,as[0]'h0,6*R+17,Wl.nth m 0,rfl,t2 _ _ f2,by omega,Br,by omega,fun H4 s4=>?_⟩
  have t4:=t2.trans s4
  have lt7:6*R+17+(6*R+17)+n<=10000000:=by omega
  have SK:=Wl.seek_least n1 n3 LR.L LR.ch h0m (by omega) LR.sh rfl (Nat.lt_of_lt_of_le (Wl.eQ lr Br Br) (Nat.pow_le_pow_right (by decide) lt7))
  have Bz:Wl.Bd (6*R+17) (Tg.zero n):=fun j=>by show(Tg.num (Tg.zero n) j).natAbs<_; rw [Wl.a6]; exact Nat.two_pow_pos _
  refine⟨z,q,_,.non,n,6*R+17,6*R+17,Wl.dQ,Tg.zero n,m,rfl,s4 _ _ hzv,⟨as,t4 _ _ hq,hav.keep t4⟩,by simp [Tg.zero],ml,SK,Bz,LR.bd,Nat.le_refl _,?_,.inl rfl,fun H5 qq l hqq s5 hl RR=>?_⟩
  ·have:g.length*(4*(6*R+17)+40)<=3*(4*(6*R+17)+40):=Nat.mul_le_mul_right _ k3
   omega
  obtain⟨bs,hbq,hbv⟩:=hl
  have t5:=t4.trans s5
  have llen:l.length<=16777216:=by have:=RR.len; have:=SK.big; rw [ml] at this; omega
  have lmem:∀v∈l,v.length=n/\Tg.dot v v<=Tg.dot (Wl.nth m 0) (Wl.nth m 0):=fun v hv=>⟨((RR.mem v).1 hv).1.1,((RR.mem v).1 hv).2⟩
  refine⟨qq,rfl,⟨_,SqL.of hbq⟩,fun D hD=>?_⟩
  refine c4 (K:=K) (a:=qq) (xs:=bs.map V.ref) (fun i H'=>Same H5 H'/\aN H' D ((l.map fun v=>Tg.dot v v).take i)) ⟨Same.new hD,aB⟩ (fun i H' _ q=>SqL.of (q.1 _ _ hbq)) ?_ ?_
  ·rintro i y H' hi ⟨hs,hv⟩
   rw [List.getElem?_map] at hi
   obtain⟨cc,hc,rfl⟩:=Option.map_eq_some_iff.1 hi
   obtain⟨v,hrow,hcv⟩:=hbv.get hc
   have hrm:v∈l:=List.mem_of_getElem? hrow
   have hil:i<l.length:=(List.getElem?_eq_some_iff.1 hrow).1
   refine⟨rfl,?_⟩
   dsimp only [gH]
   rw [if_pos rfl]
   have Bv:Wl.Bd (6*R+20) v:=dA (Int.lt_of_le_of_lt (lmem v hrm).2 (by
    have:=Wl.eQ lr Br Br
    have e:((2:Int)^(2*(6*R+20)))=((2^(2*(6*R+20)):Nat):Int):=by push_cast; rfl
    have h2:(2:Nat)^(6*R+17+(6*R+17)+n)<=2^(2*(6*R+20)):=Nat.pow_le_pow_right (by decide) (by omega)
    rw [e]; omega))
   refine⟨_,rfl,cc,6*R+20,v,rfl,hs _ _ hcv,by have:=(lmem v hrm).1; omega,Bv,by omega,fun H6 s6=>?_⟩
   refine⟨_,s6 _ _ hv,?_,?_⟩
   ·rw [List.length_map,List.length_take,List.length_map,sizeLine_eq]; omega
   ·refine⟨fun d o e=>?_,?_⟩
    ·rw [aO (aP e hD)]; exact s6 _ _ (hs d o e)
    ·unfold aN
     rw [aB,br (l:=l.map fun v=>Tg.dot v v) (x:=Tg.dot v v) (by rw [List.getElem?_map,hrow]; rfl),List.map_append]
     rfl
  ·rintro H' ⟨hs,hv⟩
   rw [List.length_map,hbv.len,<- List.length_map (fun v=>Tg.dot v v),List.take_length] at hv
   have t6:=t5.trans hs
   have lls:(l.map fun v=>Tg.dot v v).length<=16777216:=by rw [List.length_map]; exact llen
   refine⟨_,rfl,D,rfl,⟨_,SqL.of hv⟩,fun D2 hD2=>?_⟩
   refine c4 (K:=K) (a:=D) (xs:=(l.map fun v=>Tg.dot v v).map V.int) (fun i H''=>Same H' H''/\aN H'' D2 (((l.map fun v=>Tg.dot v v).take i).filter fun y=>decide (0<y))) ⟨Same.new hD2,aB⟩ (fun i H'' _ q=>SqL.of (q.1 _ _ hv)) ?_ ?_
   ·rintro i y H'' hi ⟨hs2,hv2⟩
    rw [List.getElem?_map] at hi
    obtain⟨y0,hy,rfl⟩:=Option.map_eq_some_iff.1 hi
    refine⟨rfl,_,rfl,_,_,rfl,rfl,_,rfl,?_⟩
    dsimp only
    have tg:=br hy
    by_cases hp:0<y0
    ·rw [if_pos (by simpa using hp)]
     refine⟨_,rfl,_,hv2,?_,?_⟩
     ·rw [List.length_map,sizeLine_eq]
      have h1:=List.length_filter_le (fun y=>decide (0<y)) ((l.map fun v=>Tg.dot v v).take i)
      rw [List.length_take] at h1
      have:=(List.getElem?_eq_some_iff.1 hy).1
      omega
     ·refine⟨fun d o e=>?_,?_⟩
      ·rw [aO (aP e hD2)]; exact hs2 d o e
      ·unfold aN
       rw [aB,tg,List.filter_append,List.map_append,List.filter_cons_of_pos (by simpa using hp),List.filter_nil]
       rfl
    ·rw [if_neg (by simpa using hp)]
     refine⟨hs2,?_⟩
     rw [tg,List.filter_append,List.filter_cons_of_neg (by simpa using hp),List.filter_nil,List.append_nil]
     exact hv2
   ·rintro H'' ⟨hs2,hv2⟩
    rw [List.length_map,List.take_length] at hv2
    obtain⟨r0,g0,eg⟩:∃r0 g0,g=r0::g0:=by
     cases g with
     | nil=>simp at k0
     | cons a b=>exact⟨a,b,rfl⟩
    have hu:Wl.Sp n m (Wl.nth m 0):=Wl.Sp.mem LR.L (by
     have:Wl.nth m 0=m[0]:=by simp [Wl.nth,h0m]
     rw [this]; exact List.getElem_mem h0m)
    have hpos:0<Tg.dot (Wl.nth m 0) (Wl.nth m 0):=by
     have h1:=LR.ch.pos 1 (by omega)
     have e:m.take 1=[Wl.nth m 0]:=by
      have:=Wl.take_snoc (g:=m) (c:=0) h0m
      rw [this]; rfl
     rw [e,Wl.au] at h1
     exact h1
    have hin:Tg.dot (Wl.nth m 0) (Wl.nth m 0)∈(l.map fun v=>Tg.dot v v).filter fun y=>decide (0<y):=
     List.mem_filter.2 ⟨List.mem_map.2 ⟨Wl.nth m 0,(RR.mem _).2 ⟨(Wl.gZ LR.L).2 hu,Int.le_refl _⟩,rfl⟩,by simpa using hpos⟩
    refine⟨D2,_,rfl,SqL.of hv2,List.length_pos_of_mem hin,fun x hx hle=>?_⟩
    subst eg
    exact kq H'' x (fun d o e=>hs2 _ _ (t6 _ _ (s1 _ _ e))) (Wl.least_found EH LR.L LR.sp RR hu rfl hpos hx hle)
theorem vecs_es{H:Hp}:∀{es:List (Addr × List Int)},(∀x∈es,aN H x.1 x.2)->aL H (es.map (·.1)) (es.map (·.2))
 | [],_=>trivial
 | e::es,h=>⟨h e List.mem_cons_self,vecs_es fun x hx=>h x (List.mem_cons_of_mem _ hx)⟩
structure LcV(H:Hp)(D:Addr)(bs:List Addr)(ls:List (List Int))(H':Hp):Prop where
 same:Same H H'
 at_:H' D=some (.lst (bs.map V.ref))
 new:∀b∈bs,b≠D/\H b=none
 vecs:aL H' bs ls
theorem LcV.start{H:Hp}{D:Addr}(hD:H D=none):LcV H D [] [] (upd H D (.lst [])):=⟨Same.new hD,aB,by simp,trivial⟩
theorem LcV.snoc{H H' H3:Hp}{D p:Addr}{bs:List Addr}{ls:List (List Int)}{v:List Int}(h:LcV H D bs ls H')(hD:H D=none)(s:Same H' H3)(hp:H' p=none)(hv:aN H3 p v):LcV H D (bs++[p]) (ls++[v]) (upd H3 D (.lst (bs.map V.ref++[.ref p]))):=by
 have npD:p≠D:=fun e=>by rw [e,h.at_] at hp; cases hp
 refine⟨fun d o e=>?_,?_,fun b hb=>?_,?_⟩
 ·rw [aO (aP e hD)]; exact s _ _ (h.same d o e)
 ·rw [aB,List.map_append]; rfl
 ·rcases List.mem_append.1 hb with q | q
  ·exact h.new b q
  ·simp only [List.mem_cons,List.not_mem_nil,or_false] at q; rw [q]; exact⟨npD,h.same.free hp⟩
 ·refine aL.append ((h.vecs.keep s).updN fun b hb=>(h.new b hb).1) (aL.one ?_)
  unfold aN
  rw [aO npD]; exact hv
def rGtV:R2:=fun x y H Q=>∃(a b:Addr)(v w:List Int),x=.ref a/\y=.ref b/\aN H a v/\aN H b w/\w.length=v.length/\Q (.bl (Tg.before w v)) H
theorem op_gtV{X:Cx}(hu:X.A.units<cLine):OpR X (compareOp .Gt) rGtV:=by
 intro pins s σ H x y v u Q I rx ry h
 obtain⟨a,b,v',w',rfl,rfl,ha,hb,hl,q⟩:=h
 cases rx
 cases ry
 obtain⟨dd,it,n,sl,e1,i1⟩:=ie I ha
 obtain⟨dd2,it2,n2,sl2,e2,i2⟩:=ie I hb
 show wpAny (model X.prog X.w) X.A (richCompare .Gt (.ref a) (.ref b)) _ _ s
 have ta:s.TypeIs (.ref a) "list":=⟨_,e1,rfl⟩
 have tb:s.TypeIs (.ref b) "list":=⟨_,e2,rfl⟩
 exact richCompare_meets_room ta tb F.slot_list_gt F.entry_list_gt (F.args_list_gt_2 _ _) (list_gt a b it it2 n n2 dd dd2 sl sl2 v' w' i1 i2 hl) ⟨e1,e2,nofun,.bl _,H,I,rfl,q⟩ hu
abbrev sSht:Stmt:=aj "short_of"
theorem jB:FnScope ["rows","n","bound","most","zero","found","vector"] ["rows","n","bound","most"] (aC sSht):=⟨rfl,rfl,rfl,by decide +kernel,rfl,by decide +kernel,by decide +kernel⟩
theorem blkSht:BlkOk ["rows","n","bound","most","zero","found","vector"] (aC sSht) (argScope2 (cQ sSht 3)) [("vector",6)]:=bq (by decide +kernel)
def spSht:Sp:=fun vs H Q _=>∃(r:Addr)(n R:Nat)(bound:Int)(g:List (List Int)),vs=[.ref r,.int n,.int bound,.int 4096]/\ak H r g/\Wl.Ech n g/\1<=n/\n<=3/\Wl.Bds R g/\R<=5000/\0<=bound/\bound<=60/\
 ∀(H':Hp)(q:Addr),Same H H'->H q=none->ak H' q (Tg.short n g bound)->(Tg.short n g bound).length<=3375->Q (.ref q) H'
theorem ok_sht{c:Nat}{f fD fR fK:Addr}{fd fdD fdR fdK:FuncData}(hc:43<=c)(F:Fun K "short_of" "short_of" sSht f fd)(T:Txt K mg)(ms:mg "sorted"=none)
  (GD:FnOk P w K mg base CX0 43 fD fdD ["rows"] jP) (kD:W.keepIn K (.ref fD)=true) (bD:Binds K fdD ["rows"] []) (mD:mg "reduced"=some (.ref fD))
  (GK:FnOk P w K mg base CX0 3 fK fdK ["vector"] (iz keyL keyC)) (bK:Binds K fdK ["vector"] []) (mK:mg "by_length"=some (.ref fK))
  (GR:∀k,k<=3->FnOk P w K mg base CX0 c fR fdR ["point","rows","bound","most"] (eY k)) (kR:W.keepIn K (.ref fR)=true) (bR:Binds K fdR ["point","rows","bound","most"] []) (mR:mg "reached"=some (.ref fR)) :
  FnOk P w K mg base CX0 (c+1) f fd ["rows","n","bound","most"] spSht:=by
 refine F.ok jB (fun vs H Q E h=>?_) (fun cdv A outer s H vs Q E hr h=>?_)
 ·obtain⟨r,n,R,bound,g,rfl,_⟩:=h
  rfl
 ·obtain⟨r,n,R,bound,g,rfl,hg,EH,n1,n3,Bg,hR,b0,b60,kq⟩:=h
  have kn:=EH.rank_n
  have k3:g.length<=3:=by omega
  have hr43:Room 43 _:=hr.mono (by omega)
  have hr5:Room 5 _:=hr.mono (by omega)
  have hu:=hr.units0
  refine⟨_,aF (aZ (i:=4) jB.nd rfl (Or.inr rfl) (af ib (bJ (aA aQ aE)) (pv 1)))
   (aF (aZ (i:=5) jB.nd rfl (Or.inl rfl) (aJ (GR g.length k3) hr rfl mR kR bR .nil aS (aA (pv 4) (aA (aJ GD hr43 rfl mD kD bD .nil aS (aA (pv 0) aE)) (aA (pv 2) (aA (af cq (af ci aQ (pv 3)) aQ) aE))))))
   (aF (cC (ad jU (ag a8 (by rfl) T.len PySem.boot_len (aA (pv 5) aE)) (af cq (af ci aQ (pv 3)) aQ) (ao _)) (aK (aV pe_non)) bE)
   (aK (aV (pe_sortK GK hr5 bK rfl ms rfl mK (dN (own:=[("vector",6)]) rfl jB.nd (cD (pv 5)) blkSht
     (fun s H C cl fp=>b8 (i:=6) jB.nd rfl (Or.inl rfl)) (fun s H C cl fp=>hW (ad (op_gtV hu) (pv 6) (pv 4) (ao _)))
     (fun s H C cl fp=>pv 6))))))),?_⟩
  refine⟨by show 1<=sizeLine; decide,fun l1 hl1=>?_⟩
  have t1:Same H _:=Same.new (o:=.lst [.int 0]) hl1
  refine⟨_,rfl,l1,_,[.int 0],rfl,rfl,aB,by omega,by omega,by rw [sizeLine_eq]; show 1*_<=_; omega,fun z hz=>?_⟩
  have ez:(List.replicate (n:Int).toNat [V.int 0]).flatten=(Tg.zero n).map V.int:=by
   simp [Tg.zero]
  have t2:=t1.trans (Same.new (o:=.lst (List.replicate (n:Int).toNat [V.int 0]).flatten) hz)
  have hzv:aN (upd (upd H l1 (.lst [.int 0])) z (.lst (List.replicate (n:Int).toNat [V.int 0]).flatten)) z (Tg.zero n):=by
   unfold aN
   rw [aB,ez]
  refine⟨_,rfl,_,rfl,r,n,R,g,rfl,hg.keep t2,EH.len,EH.chain k3,n1,n3,k3,Bg,hR,fun H1 q m s1 hm LR=>?_⟩
  have ml:=LR.len
  have SK:=Wl.seek_short n1 n3 LR.L LR.ch (by omega) LR.sh b0 b60
  have Bz:Wl.Bd (6*R+17) (Tg.zero n):=fun j=>by show(Tg.num (Tg.zero n) j).natAbs<_; rw [Wl.a6]; exact Nat.two_pow_pos _
  have mu:IntMulOk 2 4096:=cu (m:=2) (n:=13) (by decide) (by decide) (by decide)
  refine⟨_,rfl,_,rfl,_,_,rfl,rfl,mu,_,_,rfl,rfl,z,q,bound,.int (2*4096+1),n,6*R+17,6*R+17,Wl.sSht,Tg.zero n,m,rfl,s1 _ _ hzv,hm,by simp [Tg.zero],ml,SK,Bz,LR.bd,Nat.le_refl _,?_,.inr ⟨_,rfl,fun l nd h=>by have:=Wl.box n3 b60 nd h; omega⟩,fun H5 qq l hqq s5 hl RR=>?_⟩
  ·have:g.length*(4*(6*R+17)+40)<=3*(4*(6*R+17)+40):=Nat.mul_le_mul_right _ k3
   omega
  obtain⟨bs,hbq,hbv⟩:=hl
  have lmem:∀v∈l,v.length=n/\Tg.dot v v<=bound:=fun v hv=>⟨((RR.mem v).1 hv).1.1,((RR.mem v).1 hv).2⟩
  have llen:=Wl.box n3 b60 RR.nd lmem
  have blen:=hbv.len
  have hz5:aN H5 z (Tg.zero n):=s5 _ _ (s1 _ _ hzv)
  refine⟨_,rfl,qq,_,rfl,.inl (SqL.of hbq),_,rfl,_,_,rfl,rfl,mu,_,_,rfl,rfl,_,_,rfl,rfl,_,rfl,?_⟩
  dsimp only
  rw [if_neg (by rw [List.length_map]; simp; omega)]
  refine⟨_,rfl,qq,rfl,⟨_,SqL.of hbq⟩,fun D hD=>?_⟩
  refine c4 (K:=K) (a:=qq) (xs:=bs.map V.ref) (fun i H'=>Same H5 H'/\∃es:List (Addr × List Int),H' D=some (.lst (es.map fun x=>V.ref x.1))/\es.map (·.2)=(l.take i).filter (fun v=>Tg.before (Tg.zero n) v)/\∀x∈es,aN H5 x.1 x.2)
   ⟨Same.new hD,[],aB,by simp,by simp⟩ (fun i H' _ q=>SqL.of (q.1 _ _ hbq)) ?_ ?_
  ·rintro i y H' hi ⟨hs,es,hD',he,hx⟩
   rw [List.getElem?_map] at hi
   obtain⟨cc,hc,rfl⟩:=Option.map_eq_some_iff.1 hi
   obtain⟨v,hrow,hcv⟩:=hbv.get hc
   have hrm:v∈l:=List.mem_of_getElem? hrow
   have tg:=br hrow
   have hel:es.length<=3375:=by
    rw [<- List.length_map (f:=(·.2)),he]
    have h1:=List.length_filter_le (fun v=>Tg.before (Tg.zero n) v) (l.take i)
    rw [List.length_take] at h1
    omega
   refine⟨rfl,_,rfl,_,rfl,cc,z,v,Tg.zero n,rfl,rfl,hs _ _ hcv,hs _ _ hz5,by rw [(lmem v hrm).1]; simp [Tg.zero],_,rfl,?_⟩
   dsimp only
   cases hb:Tg.before (Tg.zero n) v with
   | true=>
     rw [if_pos rfl]
     refine⟨_,rfl,_,hD',?_,?_,es++[(cc,v)],?_,?_,?_⟩
     ·rw [List.length_map,sizeLine_eq]; omega
     ·intro d o e
      rw [aO (aP e hD)]; exact hs d o e
     ·rw [aB,List.map_append]; rfl
     ·rw [List.map_append,he,tg,List.filter_append,List.filter_cons_of_pos hb,List.filter_nil]; rfl
     ·intro x hxx
      rcases List.mem_append.1 hxx with h | h
      ·exact hx x h
      ·simp only [List.mem_cons,List.not_mem_nil,or_false] at h; rw [h]; exact hcv
   | false=>
     rw [if_neg (by decide)]
     refine⟨hs,es,hD',?_,hx⟩
     rw [he,tg,List.filter_append,List.filter_cons_of_neg (by rw [hb]; decide),List.filter_nil,List.append_nil]
  ·rintro H' ⟨hs,es,hD',he,hx⟩
   rw [List.length_map,blen,List.take_length] at he
   have hxl:∀x∈es,x.2∈l:=fun x hxx=>by
    have:x.2∈es.map (·.2):=List.mem_map.2 ⟨x,hxx,rfl⟩
    rw [he] at this
    exact(List.mem_filter.1 this).1
   refine⟨D,es,n+1,rfl,SqL.of hD',fun x hxx=>⟨hs _ _ (hx x hxx),⟨?_,3,fun j=>?_,by decide⟩,?_⟩,fun b2 H6 p perm pw s6 fp hp6=>?_⟩
   ·have:=(lmem _ (hxl x hxx)).1; omega
   ·have:=Wl.num_small (v:=x.2) (by have:=(lmem _ (hxl x hxx)).2; omega) j
    show(Tg.num x.2 j).natAbs<8
    omega
   ·show(Tg.dot x.2 x.2::x.2).length=n+1
    rw [List.length_cons,(lmem _ (hxl x hxx)).1]
   ·have fnd:Tg.short n g bound=b2.map (·.2):=Wl.short_found EH LR.L LR.sp RR (by rw [<- he]; exact perm.map _) (List.pairwise_map.2 pw)
    have b2l:(b2.map (·.2)).length<=3375:=by
     rw [List.length_map,perm.length_eq,<- List.length_map (f:=(·.2)),he]
     have:=List.length_filter_le (fun v=>Tg.before (Tg.zero n) v) l
     omega
    refine kq H6 p ?_ ?_ ?_ ?_
    ·exact fun d o e=>s6 _ _ (hs _ _ (s5 _ _ (s1 _ _ (t2 _ _ e))))
    ·exact t2.free (s1.free (s5.free (hs.free fp)))
    ·rw [fnd]
     refine⟨b2.map (·.1),?_,vecs_es fun x hxx=>s6 _ _ (hs _ _ (hx x (perm.mem_iff.1 hxx)))⟩
     rw [hp6,List.map_map]; rfl
    ·rw [fnd]; exact b2l
abbrev iS:Stmt:=aj "nearest_of"
theorem gk:FnScope ["rows","point","made","rests","least","rest"] ["rows","point"] (aC iS):=⟨rfl,rfl,rfl,by decide +kernel,rfl,by decide +kernel,by decide +kernel⟩
def argScope3(s:Stmt):Scope:=match s with
 | .Assign _ (.Call _ (.ListComp _ _ sc _::_) _ _) _=>sc
 | _=>{kind:=.function,names:=[],isGenerator:=false,isCoroutine:=false}
theorem blkNs1:BlkOk ["rows","point","made","rests","least","rest"] (aC iS) (argScope3 (cQ iS 2)) [("rest",5)]:=bq (by decide +kernel)
theorem blkNs2:BlkOk ["rows","point","made","rests","least","rest"] (aC iS) (g6 (cQ iS 3)) [("rest",5)]:=bq (by decide +kernel)
theorem srtK(K:W.Frag){X:Cx}(hu:X.A.units+2<cLine)(h:X.K=K:=by rfl):ft X (.builtin "sorted") (rSortV K):=h ▸cr_sortV hu
def spNst:Sp:=fun vs H Q _=>∃(r a:Addr)(n R:Nat)(g:List (List Int))(p:List Int),vs=[.ref r,.ref a]/\ak H r g/\aN H a p/\Wl.Ech n g/\1<=n/\n<=3/\p.length=n/\Wl.Bd 6 p/\Tg.dot p p<=4800/\Wl.Bds R g/\R<=5000/\
 ∀(H':Hp)(q:Addr)(x:Int)(us:List (List Int)),Same H H'->H q=none->ak H' q us->Wl.IsNear n g p x us->x<=33600->Q (.ref q) H'
theorem ok_nst{c:Nat}{f fD fR fN fQ fL:Addr}{fd fdD fdR fdN fdQ fdL:FuncData}(hc:43<=c)(F:Fun K "nearest_of" "nearest_of" iS f fd)(T:Txt K mg)(mn:mg "min"=none)(ms:mg "sorted"=none)
  (GD:FnOk P w K mg base CX0 43 fD fdD ["rows"] jP) (kD:W.keepIn K (.ref fD)=true) (bD:Binds K fdD ["rows"] []) (mD:mg "reduced"=some (.ref fD))
  (GN:FnOk P w K mg base CX0 2 fN fdN ["vector"] iF) (kN:W.keepIn K (.ref fN)=true) (bN:Binds K fdN ["vector"] []) (mN:mg "length"=some (.ref fN))
  (GQ:FnOk P w K mg base CX0 42 fQ fdQ ["vector","rows"] spRnd) (kQ:W.keepIn K (.ref fQ)=true) (bQ:Binds K fdQ ["vector","rows"] []) (mQ:mg "rounded"=some (.ref fQ))
  (GL:FnOk P w K mg base CX0 1 fL fdL ["vector","times","other"] eD) (kL:W.keepIn K (.ref fL)=true) (bL:Binds K fdL ["vector","times","other"] []) (mL:mg "less"=some (.ref fL))
  (GR:∀k,k<=3->FnOk P w K mg base CX0 c fR fdR ["point","rows","bound","most"] (eY k)) (kR:W.keepIn K (.ref fR)=true) (bR:Binds K fdR ["point","rows","bound","most"] [.none]) (mR:mg "reached"=some (.ref fR)) :
  FnOk P w K mg base CX0 (c+1) f fd ["rows","point"] spNst:=by
 refine F.ok gk (fun vs H Q E h=>?_) (fun cdv A outer s H vs Q E hr h=>?_)
 ·obtain⟨r,a,n,R,g,p,rfl,_⟩:=h
  rfl
 ·obtain⟨r,a,n,R,g,p,rfl,hg,ha,EH,n1,n3,lp,Bp6,p48,Bg,hR,kq⟩:=h
  have kn:=EH.rank_n
  have k3:g.length<=3:=by omega
  have hr43:Room 43 _:=hr.mono (by omega)
  have hr42:Room 42 _:=hr.mono (by omega)
  have hr2:Room 2 _:=hr.mono (by omega)
  have hr1:Room 1 _:=hr.mono (by omega)
  have hu:=Nat.lt_of_le_of_lt (Nat.add_le_add_left (show 2<=64 by decide) _) hr.units
  refine⟨_,aF (aZ (i:=2) gk.nd rfl (Or.inl rfl) (aJ GD hr43 rfl mD kD bD .nil aS (aA (pv 0) aE)))
   (aF (aZ (i:=3) gk.nd rfl (Or.inl rfl) (aJ (GR g.length k3) hr rfl mR kR bR (dvs:=[.non]) (.cons rfl .nil) aS (aA (pv 1) (aA (pv 2) (aA (aJ GN hr2 rfl mN kN bN .nil aS (aA (aJ GQ hr42 rfl mQ kQ bQ .nil aS (aA (pv 1) (aA (pv 2) aE))) aE)) aE)))))
   (aF (aZ (i:=4) gk.nd rfl (Or.inr rfl) (ag (minK K) (by rfl) mn boot_min (aA (dN (own:=[("rest",5)]) rfl gk.nd (cD (pv 3)) blkNs1
     (fun s H C cl fp=>b8 (i:=5) gk.nd rfl (Or.inl rfl)) (fun s H C cl fp=>cU)
     (fun s H C cl fp=>aJ GN hr2 rfl mN kN bN .nil aS (aA (pv 5) aE))) aE)))
   (aK (aV (ag (srtK K hu) (by rfl) ms PyProof.Rows.boot_sorted (aA (dN (own:=[("rest",5)]) rfl gk.nd (cD (pv 3)) blkNs2
     (fun s H C cl fp=>b8 (i:=5) gk.nd rfl (Or.inl rfl)) (fun s H C cl fp=>hW (ad cV (aJ GN hr2 rfl mN kN bN .nil aS (aA (pv 5) aE)) (pv 4) (ao _)))
     (fun s H C cl fp=>aJ GL hr1 rfl mL kL bL .nil aS (aA (pv 1) (aA aQ (aA (pv 5) aE))))) aE)))))),?_⟩
  refine⟨_,rfl,r,n,R,g,rfl,hg,EH.len,EH.chain k3,n1,n3,k3,Bg,hR,fun H1 q m s1 hm LR=>?_⟩
  have ml:=LR.len
  have Bp:Wl.Bd (6*R+17) p:=Bp6.mono (by omega)
  have SKb:=Wl.seek_near n1 n3 LR.L LR.ch (by omega) LR.sh lp p48
  obtain⟨SK,hb⟩:=SKb
  have rl:(Wl.aX m m.length p).length=n:=Wl.rnd_len LR.L m.length p (Nat.le_refl _) lp
  have rb:Wl.Bd 8 (Wl.aX m m.length p):=dA (Int.lt_of_le_of_lt hb (by decide))
  refine⟨_,rfl,_,rfl,_,rfl,_,rfl,a,q,n,6*R+17,6*R+17,p,m,rfl,s1 _ _ ha,hm,lp,LR.L,LR.ch,n1,n3,by omega,Bp,LR.bd,Nat.le_refl _,by omega,fun H2 z oz s2 hz=>?_⟩
  refine⟨z,8,Wl.aX m m.length p,rfl,hz,by omega,rb,by decide,fun H3 s3=>?_⟩
  have t3:Same H1 H3:=s2.trans s3
  refine⟨a,q,_,.non,n,6*R+17,6*R+17,Wl.sNr,p,m,rfl,t3 _ _ (s1 _ _ ha),hm.keep t3,lp,ml,SK,Bp,LR.bd,Nat.le_refl _,?_,.inl rfl,fun H5 qq l hqq s5 hl RR=>?_⟩
  ·have:g.length*(4*(6*R+17)+40)<=3*(4*(6*R+17)+40):=Nat.mul_le_mul_right _ k3
   omega
  obtain⟨bs,hbq,hbv⟩:=hl
  have lmem:∀v∈l,v.length=n/\Tg.dot v v<=33600:=fun v hv=>⟨((RR.mem v).1 hv).1.1,Int.le_trans ((RR.mem v).1 hv).2 hb⟩
  have lbd:∀v∈l,Wl.Bd 8 v:=fun v hv=>dA (Int.lt_of_le_of_lt (lmem v hv).2 (by decide))
  have llen:l.length<=16777216:=by have:=RR.len; have:=SK.big; rw [ml] at this; omega
  have blen:=hbv.len
  have t5:Same H H5:=s1.trans (t3.trans s5)
  refine⟨_,rfl,qq,rfl,⟨_,SqL.of hbq⟩,fun D hD=>?_⟩
  refine c4 (K:=K) (a:=qq) (xs:=bs.map V.ref) (fun i H'=>Same H5 H'/\aN H' D ((l.map fun v=>Tg.dot v v).take i)) ⟨Same.new hD,aB⟩ (fun i H' _ q=>SqL.of (q.1 _ _ hbq)) ?_ ?_
  ·rintro i y H' hi ⟨hs,hv⟩
   rw [List.getElem?_map] at hi
   obtain⟨cc,hc,rfl⟩:=Option.map_eq_some_iff.1 hi
   obtain⟨v,hrow,hcv⟩:=hbv.get hc
   have hrm:v∈l:=List.mem_of_getElem? hrow
   have hil:i<l.length:=(List.getElem?_eq_some_iff.1 hrow).1
   refine⟨rfl,?_⟩
   dsimp only [gH]
   rw [if_pos rfl]
   refine⟨_,rfl,cc,8,v,rfl,hs _ _ hcv,by have:=(lmem v hrm).1; omega,lbd v hrm,by decide,fun H6 s6=>?_⟩
   refine⟨_,s6 _ _ hv,?_,?_⟩
   ·rw [List.length_map,List.length_take,List.length_map,sizeLine_eq]; omega
   ·refine⟨fun d o e=>?_,?_⟩
    ·rw [aO (aP e hD)]; exact s6 _ _ (hs d o e)
    ·unfold aN
     rw [aB,br (l:=l.map fun v=>Tg.dot v v) (x:=Tg.dot v v) (by rw [List.getElem?_map,hrow]; rfl),List.map_append]
     rfl
  ·rintro H' ⟨hs,hv⟩
   rw [List.length_map,blen,<- List.length_map (fun v=>Tg.dot v v),List.take_length] at hv
   have rin:Wl.aX m m.length p∈l:=(RR.mem _).2 ⟨by have:=Wl.dU LR.L m.length p (Nat.le_refl _) lp; rwa [List.take_length] at this,Int.le_refl _⟩
   refine⟨D,_,rfl,SqL.of hv,by rw [List.length_map]; exact List.length_pos_of_mem rin,fun x hx hle=>?_⟩
   have xb:x<=33600:=by
    obtain⟨v,hv,rfl⟩:=List.mem_map.1 hx
    exact(lmem v hv).2
   have ha':aN H' a p:=hs _ _ (t5 _ _ ha)
   have hbq':=hs _ _ hbq
   have hbv':=hbv.keep hs
   refine⟨_,rfl,qq,rfl,⟨_,SqL.of hbq'⟩,fun D2 hD2=>?_⟩
   refine c4 (K:=K) (a:=qq) (xs:=bs.map V.ref) (fun i H''=>Same H' H''/\∃es:List (Addr × List Int),H'' D2=some (.lst (es.map fun x=>V.ref x.1))/\es.map (·.2)=((l.take i).filter fun v=>decide (Tg.dot v v=x)).map (fun v=>Tg.minus p (Tg.times 1 v))/\∀e∈es,e.1≠D2/\aN H'' e.1 e.2)
    ⟨Same.new hD2,[],aB,by simp,by simp⟩ (fun i H'' _ q=>SqL.of (q.1 _ _ hbq')) ?_ ?_
   ·rintro i y H'' hi ⟨hs2,es,hD',he,hxx⟩
    rw [List.getElem?_map] at hi
    obtain⟨cc,hc,rfl⟩:=Option.map_eq_some_iff.1 hi
    obtain⟨v,hrow,hcv⟩:=hbv'.get hc
    have hrm:v∈l:=List.mem_of_getElem? hrow
    have hil:i<l.length:=(List.getElem?_eq_some_iff.1 hrow).1
    have tg:=br hrow
    have hel:es.length<16777216:=by
     rw [<- List.length_map (f:=(·.2)),he,List.length_map]
     have h1:=List.length_filter_le (fun v=>decide (Tg.dot v v=x)) (l.take i)
     rw [List.length_take] at h1
     omega
    refine⟨rfl,_,rfl,cc,8,v,rfl,hs2 _ _ hcv,by have:=(lmem v hrm).1; omega,lbd v hrm,by decide,fun H6 s6=>⟨_,rfl,rfl,_,rfl,?_⟩⟩
    dsimp only
    by_cases hb:Tg.dot v v=x
    ·rw [if_pos (decide_eq_true (by rw [hb]))]
     refine⟨_,rfl,_,rfl,a,cc,1,p,v,rfl,s6 _ _ (hs2 _ _ ha'),s6 _ _ (hs2 _ _ hcv),by rw [lp,(lmem v hrm).1],by omega,fun y hy=>cu (m:=1) (n:=8) (by decide) (cO (lbd v hrm) y hy) (by decide),fun H7 pp hpp s7 hv7=>?_⟩
     have hpD:pp≠D2:=fun e=>by rw [e,s6 _ _ hD'] at hpp; cases hpp
     refine⟨_,s7 _ _ (s6 _ _ hD'),?_,?_,es++[(pp,Tg.minus p (Tg.times 1 v))],?_,?_,?_⟩
     ·rw [List.length_map,sizeLine_eq]; omega
     ·intro d o e
      rw [aO (aP e hD2)]; exact s7 _ _ (s6 _ _ (hs2 d o e))
     ·rw [aB,List.map_append]; rfl
     ·rw [List.map_append,he,tg,List.filter_append,List.filter_cons_of_pos (p:=fun v=>decide (Tg.dot v v=x)) (decide_eq_true hb),List.filter_nil,List.map_append]; rfl
     ·intro e hee
      rcases List.mem_append.1 hee with h | h
      ·have:=hxx e h
       refine⟨this.1,?_⟩
       unfold aN
       rw [aO this.1]; exact s7 _ _ (s6 _ _ this.2)
      ·simp only [List.mem_cons,List.not_mem_nil,or_false] at h
       rw [h]
       refine⟨hpD,?_⟩
       unfold aN
       rw [aO hpD]; exact hv7
    ·rw [if_neg (by simpa using hb)]
     refine⟨fun d o e=>s6 _ _ (hs2 d o e),es,s6 _ _ hD',?_,fun e hee=>⟨(hxx e hee).1,s6 _ _ (hxx e hee).2⟩⟩
     rw [he,tg,List.filter_append,List.filter_cons_of_neg (p:=fun v=>decide (Tg.dot v v=x)) (by simpa using hb),List.filter_nil,List.append_nil]
   ·rintro H'' ⟨hs2,es,hD',he,hxx⟩
    rw [List.length_map,blen,List.take_length] at he
    have hel:∀e∈es,e.2.length=n:=fun e hee=>by
     have:e.2∈es.map (·.2):=List.mem_map.2 ⟨e,hee,rfl⟩
     rw [he] at this
     obtain⟨v,hv,e2⟩:=List.mem_map.1 this
     rw [<- e2]
     exact Wl.bY 1 lp (lmem v (List.mem_filter.1 hv).1).1
    refine⟨D2,es,n,rfl,SqL.of hD',fun e hee=>⟨(hxx e hee).2,hel e hee⟩,fun b2 pp perm pw fp=>?_⟩
    have fnd:Wl.IsNear n g p x (b2.map (·.2)):=Wl.near_found EH LR.L LR.sp lp RR hx hle (by rw [<- he]; exact perm.map _) (List.pairwise_map.2 pw)
    have s8:=Same.new (o:=.lst (b2.map fun x=>V.ref x.1)) fp
    refine kq _ pp x (b2.map (·.2)) (fun d o e=>s8 _ _ (hs2 _ _ (hs _ _ (t5 _ _ e)))) (t5.free (hs.free (hs2.free fp))) ?_ fnd xb
    refine⟨b2.map (·.1),?_,vecs_es fun e hee=>s8 _ _ (hxx e (perm.mem_iff.1 hee)).2⟩
    rw [aB,List.map_map]; rfl
abbrev sUn:Stmt:=aj "unit"
theorem scUn:FnScope ["place","n","other"] ["place","n"] (aC sUn):=⟨rfl,rfl,rfl,by decide +kernel,rfl,by decide +kernel,by decide +kernel⟩
theorem blkUn:BlkOk ["place","n","other"] (aC sUn) (dF (cQ sUn 0)) [("other",2)]:=bq (by decide +kernel)
def spUn:Sp:=fun vs H Q _=>∃(j n:Nat),vs=[.int j,.int n]/\n<=3/\∀(H':Hp)(p:Addr),H p=none->Same H H'->aN H' p (Tg.unit n j)->Q (.ref p) H'
abbrev jF:Stmt:=aj "behind"
theorem scBeh:FnScope ["vectors","ahead","n","row"] ["vectors","ahead","n"] (aC jF):=⟨rfl,rfl,rfl,by decide +kernel,rfl,by decide +kernel,by decide +kernel⟩
theorem blkBeh:BlkOk ["vectors","ahead","n","row"] (aC jF) (dF (cQ jF 0)) [("row",3)]:=bq (by decide +kernel)
def spBeh:Sp:=fun vs H Q _=>∃(a:Addr)(ah n B:Nat)(vecs:List (List Int)),vs=[.ref a,.int ah,.int n]/\ak H a vecs/\Wl.Len (ah+n) vecs/\ah+n<=6/\vecs.length<=6/\Wl.Bds B vecs/\B<=5000/\
 ∀(H':Hp)(r:Addr)(bs:List Addr),Same H H'->H r=none->H' r=some (.lst (bs.map V.ref))->aL H' bs (Tg.behind ah (Tg.form (ah+n) vecs))->(∀b∈bs,H b=none)->Q (.ref r) H'
theorem ok_un{f:Addr}{fd:FuncData}(F:Fun K "unit" "unit" sUn f fd)(T:Txt K mg):FnOk P w K mg base CX0 1 f fd ["place","n"] spUn:=by
 refine F.ok scUn (fun vs H Q E h=>?_) (fun cdv A outer s H vs Q E hr h=>?_)
 ·obtain⟨j,n,rfl,_⟩:=h
  rfl
 ·obtain⟨j,n,rfl,n3,kq⟩:=h
  refine⟨_,aK (aV (dN (own:=[("other",2)]) rfl scUn.nd (d6 rfl T.range (aA (pv 1) aE)) blkUn
   (fun s H C cl fp=>b8 (i:=2) scUn.nd rfl (Or.inl rfl)) (fun s H C cl fp=>cU)
   (fun s H C cl fp=>pe_ifExp (ad cV (pv 2) (pv 0) (ao _)) aQ aQ))),?_⟩
  refine⟨_,rfl,_,rfl,by omega,by omega,fun D hD=>?_⟩
  have hlen:(Tg.unit n j).length=n:=Wl.b5 n j
  refine gX (n:=(n:Int).toNat) (fun i H'=>Same H H'/\aN H' D ((Tg.unit n j).take i)) ⟨Same.new hD,aB⟩ ?_ ?_
  ·rintro i H' hi ⟨hs,hv⟩
   have hi:i<n:=by omega
   refine⟨rfl,?_⟩
   dsimp only [gH]
   rw [if_pos rfl]
   have fin:∀z:Int,z=Tg.num (Tg.unit n j) i->∃acc,H' D=some (.lst acc)/\acc.length<sizeLine/\(Same H (upd H' D (.lst (acc++[V.int z])))/\aN (upd H' D (.lst (acc++[V.int z]))) D ((Tg.unit n j).take (i+1))):=fun z hz=>by
    refine⟨_,hv,?_,fun d o e=>?_,?_⟩
    ·rw [List.length_map,List.length_take]; exact aq (by omega)
    ·rw [aO (aP e hD)]; exact hs d o e
    ·unfold aN
     rw [aB,gQ (l:=Tg.unit n j) (i:=i) (by omega),List.map_append,hz]; rfl
   refine⟨_,rfl,_,rfl,rfl,_,rfl,?_⟩
   dsimp only
   by_cases h:i=j
   ·rw [if_pos (decide_eq_true (by rw [h,Int.zero_add]))]
    exact fin 1 (by rw [Wl.cF hi,if_pos h])
   ·rw [if_neg (fun q=>h (by have q:=of_decide_eq_true q; injection q with q; omega))]
    exact fin 0 (by rw [Wl.cF hi,if_neg h])
  ·rintro H' ⟨hs,hv⟩
   refine kq H' D hD hs ?_
   rw [List.take_of_length_le (by omega)] at hv
   exact hv
theorem ok_beh{f fF fP:Addr}{fd fdF fdP:FuncData}(F:Fun K "behind" "behind" jF f fd)
  (GF:FnOk P w K mg base CX0 44 fF fdF ["vectors","n"] iG) (kF:W.keepIn K (.ref fF)=true) (bF:Binds K fdF ["vectors","n"] []) (mF:mg "form_of"=some (.ref fF))
  (GP:FnOk P w K mg base CX0 1 fP fdP ["row"] jQ) (kP:W.keepIn K (.ref fP)=true) (bP:Binds K fdP ["row"] []) (mP:mg "pivot_place"=some (.ref fP)) :
  FnOk P w K mg base CX0 45 f fd ["vectors","ahead","n"] spBeh:=by
 refine F.ok scBeh (fun vs H Q E h=>?_) (fun cdv A outer s H vs Q E hr h=>?_)
 ·obtain⟨a,ah,n,B,vecs,rfl,_⟩:=h
  rfl
 ·obtain⟨a,ah,n,B,vecs,rfl,⟨as,ha,hav⟩,L,h6,v6,Bv,hB,kq⟩:=h
  have hr1:Room 1 _:=hr.mono (by decide)
  refine⟨_,aK (aV (dN (own:=[("row",3)]) rfl scBeh.nd (cD (aJ GF hr rfl mF kF bF .nil aS (aA (pv 0) (aA (af cq (pv 1) (pv 2)) aE)))) blkBeh
   (fun s H C cl fp=>b8 (i:=3) scBeh.nd rfl (Or.inl rfl)) (fun s H C cl fp=>hW (ad op_ge (aJ GP hr1 rfl mP kP bP .nil aS (aA (pv 3) aE)) (pv 1) (ao _)))
   (fun s H C cl fp=>cE (sll K) (pv 3) (cJ (pv 1)) cg))),?_⟩
  have FF:=Wl.bu L
  have EF:=FF.toEch
  have rk:=EF.rank_n
  refine⟨_,rfl,_,rfl,_,rfl,_,_,rfl,rfl,a,as,ah+n,B,vecs,rfl,ha,hav,L,by omega,by omega,Bv,gq_fit6 v6 hB h6,fun H1 r1 cs s1 hr1 hcs hrf ham=>?_⟩
  have clen:=hcs.len
  refine⟨r1,rfl,⟨_,SqL.of hr1⟩,fun D hD=>?_⟩
  refine c4 (K:=K) (a:=r1) (xs:=cs.map V.ref) (fun i H'=>∃bs,LcV H1 D bs (Tg.behind ah ((Tg.form (ah+n) vecs).take i)) H') ⟨[],by simpa [Tg.behind] using LcV.start hD⟩ (fun i H' _ q=>let ⟨bs,q⟩:=q; SqL.of (q.same _ _ hr1)) ?_ ?_
  ·rintro i y H' hi ⟨bs,L1⟩
   rw [List.getElem?_map] at hi
   obtain⟨cc,hc,rfl⟩:=Option.map_eq_some_iff.1 hi
   obtain⟨row,hrow,hcv⟩:=(hcs.keep L1.same).get hc
   have hrm:=List.mem_of_getElem? hrow
   have hne:Tg.num row (Tg.lead row)≠0:=by have:=EF.pos row hrm; omega
   have tg:=br hrow
   have bl:bs.length<=6:=by
    rw [L1.vecs.len]
    unfold Tg.behind
    rw [List.length_map]
    refine Nat.le_trans (List.length_filter_le _ _) ?_
    rw [List.length_take]
    omega
   refine⟨rfl,_,rfl,cc,row,rfl,hcv,hne,_,rfl,_,_,rfl,rfl,_,rfl,?_⟩
   dsimp only
   have tst:=Wl.behind_test (m:=ah) hne
   by_cases h:ah<=Tg.lead row
   ·rw [if_pos (by simpa using h)]
    rw [decide_eq_true h] at tst
    refine⟨_,rfl,_,rfl,_,rfl,cc,_,rfl,SqL.of hcv,fun p hp=>?_⟩
    have t1:Same H' (upd H' p (.lst (cH (row.map V.int) (some (ah:Int)) none))):=Same.new hp
    refine⟨_,t1 _ _ L1.at_,by rw [List.length_map]; exact aq (by omega),bs++[p],?_⟩
    rw [tg,Wl.behind_snoc,if_pos tst]
    refine L1.snoc hD t1 hp ?_
    unfold aN
    rw [aB,ir,List.map_drop]
   ·rw [if_neg (by simpa using h)]
    rw [decide_eq_false h] at tst
    refine⟨bs,?_⟩
    rw [tg,Wl.behind_snoc,if_neg (by rw [tst]; decide),List.append_nil]
    exact L1
  ·rintro H' ⟨bs,L1⟩
   have e:(Tg.form (ah+n) vecs).take (cs.map V.ref).length=Tg.form (ah+n) vecs:=List.take_of_length_le (by rw [List.length_map]; omega)
   rw [e] at L1
   exact kq H' D bs (s1.trans L1.same) (s1.free hD) L1.at_ L1.vecs fun b hb=>s1.free (L1.new b hb).2
abbrev iT:Stmt:=aj "met_of"
theorem iY:FnScope ["rows","others","n","pairs","row","other"] ["rows","others","n"] (aC iT):=⟨rfl,rfl,rfl,by decide +kernel,rfl,by decide +kernel,by decide +kernel⟩
def lcScopeL(s:Stmt):Scope:=match s with
 | .Assign _ (.BinOp (.ListComp _ _ sc _) _ _ _) _=>sc
 | _=>{kind:=.function,names:=[],isGenerator:=false,isCoroutine:=false}
def lcScopeR(s:Stmt):Scope:=match s with
 | .Assign _ (.BinOp _ _ (.ListComp _ _ sc _) _) _=>sc
 | _=>{kind:=.function,names:=[],isGenerator:=false,isCoroutine:=false}
theorem blkMt1:BlkOk ["rows","others","n","pairs","row","other"] (aC iT) (lcScopeL (cQ iT 0)) [("row",4)]:=bq (by decide +kernel)
theorem blkMt2:BlkOk ["rows","others","n","pairs","row","other"] (aC iT) (lcScopeR (cQ iT 0)) [("other",5)]:=bq (by decide +kernel)
def spMet:Sp:=fun vs H Q _=>∃(r o:Addr)(n B:Nat)(g h:List (List Int)),vs=[.ref r,.ref o,.int n]/\ak H r g/\ak H o h/\Wl.Len n g/\Wl.Len n h/\n<=3/\g.length<=3/\h.length<=3/\Wl.Bds B g/\Wl.Bds B h/\B<=5000/\
 ∀(H':Hp)(q:Addr)(bs:List Addr),Same H H'->H q=none->H' q=some (.lst (bs.map V.ref))->aL H' bs (Tg.meet n g h)->(∀b∈bs,H b=none)->Q (.ref q) H'
theorem ok_met{f fB:Addr}{fd fdB:FuncData}(F:Fun K "met_of" "met_of" iT f fd)
  (GB:FnOk P w K mg base CX0 45 fB fdB ["vectors","ahead","n"] spBeh) (kB:W.keepIn K (.ref fB)=true) (bB:Binds K fdB ["vectors","ahead","n"] []) (mB:mg "behind"=some (.ref fB)) :
  FnOk P w K mg base CX0 46 f fd ["rows","others","n"] spMet:=by
 refine F.ok iY (fun vs H Q E h=>?_) (fun cdv A outer s H vs Q E hr h=>?_)
 ·obtain⟨r,o,n,B,g,h,rfl,_⟩:=h
  rfl
 ·obtain⟨r,o,n,B,g,h,rfl,⟨as,ha,hav⟩,⟨os,ho,hov⟩,Lg,Lh,n3,g3,h3,Bg,Bh,hB,kq⟩:=h
  refine⟨_,aF (aZ (i:=3) iY.nd rfl (Or.inl rfl) (af cR
    (dN (own:=[("row",4)]) rfl iY.nd (cD (pv 0)) blkMt1 (fun s H C cl fp=>b8 (i:=4) iY.nd rfl (Or.inl rfl)) (fun s H C cl fp=>cU) (fun s H C cl fp=>af cR (pv 4) (pv 4)))
    (dN (own:=[("other",5)]) rfl iY.nd (cD (pv 1)) blkMt2 (fun s H C cl fp=>b8 (i:=5) iY.nd rfl (Or.inl rfl)) (fun s H C cl fp=>cU) (fun s H C cl fp=>af cR (pv 5) (af ib (bJ (aA aQ aE)) (pv 2))))))
   (aK (aV (aJ GB hr rfl mB kB bB .nil aS (aA (pv 3) (aA (pv 2) (aA (pv 2) aE)))))),?_⟩
  have alen:=hav.len
  have olen:=hov.len
  have sl6:∀x:Nat,x<=6->x<=sizeLine:=fun x hx=>by rw [sizeLine_eq]; omega
  refine⟨_,rfl,r,rfl,⟨_,SqL.of ha⟩,fun D hD=>?_⟩
  refine c4 (K:=K) (a:=r) (xs:=as.map V.ref) (fun i H'=>∃bs,LcV H D bs ((g.map fun(r:List Int)=>r++r).take i) H') ⟨[],by simpa using LcV.start hD⟩ (fun i H' _ q=>let ⟨bs,q⟩:=q; SqL.of (q.same _ _ ha)) ?_ ?_
  ·rintro i y H' hi ⟨bs,L1⟩
   rw [List.getElem?_map] at hi
   obtain⟨cc,hc,rfl⟩:=Option.map_eq_some_iff.1 hi
   obtain⟨row,hrow,hcv⟩:=(hav.keep L1.same).get hc
   have lrow:=Lg row (List.mem_of_getElem? hrow)
   refine⟨rfl,?_⟩
   dsimp only [gH]
   rw [if_pos rfl]
   refine⟨_,rfl,_,rfl,cc,cc,_,_,rfl,rfl,hcv,hcv,by rw [List.length_map]; exact sl6 _ (by omega),fun p hp=>?_⟩
   have t1:Same H' (upd H' p (.lst (row.map V.int++row.map V.int))):=Same.new hp
   refine⟨_,t1 _ _ L1.at_,?_,bs++[p],?_⟩
   ·rw [List.length_map,L1.vecs.len,List.length_take,List.length_map]; exact aq (by omega)
   ·rw [br (l:=g.map fun(r:List Int)=>r++r) (x:=row++row) (by rw [List.getElem?_map,hrow]; rfl)]
    refine L1.snoc hD t1 hp ?_
    unfold aN
    rw [aB,List.map_append]
  ·rintro H1 ⟨bs,L1⟩
   have e1:(g.map fun(r:List Int)=>r++r).take (as.map V.ref).length=g.map fun(r:List Int)=>r++r:=List.take_of_length_le (by simp; omega)
   rw [e1] at L1
   have ho1:=L1.same _ _ ho
   have hov1:=hov.keep L1.same
   refine⟨_,rfl,o,rfl,⟨_,SqL.of ho1⟩,fun D2 hD2=>?_⟩
   refine c4 (K:=K) (a:=o) (xs:=os.map V.ref) (fun i H'=>∃cs,LcV H1 D2 cs ((h.map fun(r:List Int)=>r++Tg.zero n).take i) H') ⟨[],by simpa using LcV.start hD2⟩ (fun i H' _ q=>let ⟨bs,q⟩:=q; SqL.of (q.same _ _ ho1)) ?_ ?_
   ·rintro i y H' hi ⟨cs,L2⟩
    rw [List.getElem?_map] at hi
    obtain⟨cc,hc,rfl⟩:=Option.map_eq_some_iff.1 hi
    obtain⟨row,hrow,hcv⟩:=(hov1.keep L2.same).get hc
    have lrow:=Lh row (List.mem_of_getElem? hrow)
    refine⟨rfl,?_⟩
    dsimp only [gH]
    rw [if_pos rfl]
    refine⟨_,rfl,by show 1<=sizeLine; decide,fun l1 hl1=>?_⟩
    have t1:Same H' (upd H' l1 (.lst [.int 0])):=Same.new hl1
    refine⟨_,rfl,l1,_,[.int 0],rfl,rfl,aB,by omega,by omega,by rw [sizeLine_eq]; show 1*_<=_; omega,fun z hz=>?_⟩
    have ez:(List.replicate (n:Int).toNat [V.int 0]).flatten=(Tg.zero n).map V.int:=by
     simp [Tg.zero]
    have t2:=t1.trans (Same.new (o:=.lst (List.replicate (n:Int).toNat [V.int 0]).flatten) hz)
    refine⟨cc,z,_,_,rfl,rfl,t2 _ _ hcv,aB,?_,fun p hp=>?_⟩
    ·rw [ez,List.length_map,List.length_map]
     exact sl6 _ (by simp [Tg.zero]; omega)
    ·rw [ez] at t2 hp ⊢
     have t3:=t2.trans (Same.new (o:=.lst (row.map V.int++(Tg.zero n).map V.int)) hp)
     refine⟨_,t3 _ _ L2.at_,?_,cs++[p],?_⟩
     ·rw [List.length_map,L2.vecs.len,List.length_take,List.length_map]; exact aq (by omega)
     ·rw [br (l:=h.map fun(r:List Int)=>r++Tg.zero n) (x:=row++Tg.zero n) (by rw [List.getElem?_map,hrow]; rfl)]
      refine L2.snoc hD2 t3 (t2.free hp) ?_
      unfold aN
      rw [aB,List.map_append]
   ·rintro H2 ⟨cs,L2⟩
    have e2:(h.map fun(r:List Int)=>r++Tg.zero n).take (os.map V.ref).length=h.map fun(r:List Int)=>r++Tg.zero n:=List.take_of_length_le (by simp; omega)
    rw [e2] at L2
    have bl:bs.length<=3:=by rw [L1.vecs.len,List.length_map]; exact g3
    have cl:cs.length<=3:=by rw [L2.vecs.len,List.length_map]; exact h3
    refine⟨D,D2,_,_,rfl,rfl,L2.same _ _ L1.at_,L2.at_,by rw [List.length_map,List.length_map]; exact sl6 _ (by omega),fun p hp=>?_⟩
    have t3:=Same.new (o:=.lst (bs.map V.ref++cs.map V.ref)) hp
    have t4:Same H _:=(L1.same.trans L2.same).trans t3
    have Lp:=Wl.meet_rows_len Lg Lh
    rw [Nat.two_mul] at Lp
    refine⟨_,rfl,_,rfl,_,rfl,p,n,n,B,(g.map fun(r:List Int)=>r++r)++h.map fun(r:List Int)=>r++Tg.zero n,rfl,⟨bs++cs,?_,?_⟩,Lp,by omega,by simp; omega,?_,hB,fun H5 q ds s5 hq hq5 hds hdn=>?_⟩
    ·rw [aB,List.map_append]
    ·exact(aL.append (L1.vecs.keep L2.same) L2.vecs).keep t3
    ·intro v hv
     rcases List.mem_append.1 hv with q | q
     ·obtain⟨u,hu,rfl⟩:=List.mem_map.1 q
      exact Wl.Bd.append (Bg u hu) (Bg u hu)
     ·obtain⟨u,hu,rfl⟩:=List.mem_map.1 q
      exact Wl.Bd.append (Bh u hu) (Wl.bd_zero B n)
    ·refine kq H5 q ds (t4.trans s5) (t4.free hq) hq5 ?_ fun b hb=>t4.free (hdn b hb)
     unfold Tg.meet
     rw [Nat.two_mul]; exact hds
abbrev iK:Stmt:=aj "across_of"
theorem jC:FnScope ["rows","n","vectors","place","row"] ["rows","n"] (aC iK):=⟨rfl,rfl,rfl,by decide +kernel,rfl,by decide +kernel,by decide +kernel⟩
def lcScopeI(s:Stmt):Scope:=match s with
 | .Assign _ (.ListComp (.BinOp (.ListComp _ _ sc _) _ _ _) _ _ _) _=>sc
 | _=>{kind:=.function,names:=[],isGenerator:=false,isCoroutine:=false}
theorem blkAc1:BlkOk ["rows","n","vectors","place","row"] (aC iK) (dF (cQ iK 0)) [("place",3)]:=bq (by decide +kernel)
theorem iw:BlkOk ["rows","n","vectors","place","row"] (dF (cQ iK 0)) (lcScopeI (cQ iK 0)) [("row",4)]:=bq (by decide +kernel)
theorem blkAc2{sc:Scope}(h:sc.names.lookup ("place":Str)=some .cell):BlkOk ["rows","n","vectors","place","row"] sc (lcScopeI (cQ iK 0)) [("row",4)]:=by
 refine⟨iw.kind,iw.uniq,iw.ix,fun y hy e=>?_,iw.own⟩
 have hy:y∈[((".0":Str),NameKind.local),(("row":Str),NameKind.local),(("place":Str),NameKind.free)]:=hy
 simp only [List.mem_cons,List.not_mem_nil,or_false] at hy
 rcases hy with rfl | rfl | rfl
 ·cases e
 ·cases e
 ·exact .inl h
def spAcr:Sp:=fun vs H Q _=>∃(r:Addr)(n B:Nat)(g:List (List Int)),vs=[.ref r,.int n]/\ak H r g/\Wl.Len n g/\n<=3/\g.length<=3/\Wl.Bds B g/\1<=B/\B<=5000/\
 ∀(H':Hp)(q:Addr)(bs:List Addr),Same H H'->H q=none->H' q=some (.lst (bs.map V.ref))->aL H' bs (Tg.across n g)->(∀b∈bs,H b=none)->Q (.ref q) H'
abbrev sFil:Stmt:=aj "filled_of"
theorem scFil:FnScope ["rows","n"] ["rows","n"] (aC sFil):=⟨rfl,rfl,rfl,by decide +kernel,rfl,by decide +kernel,by decide +kernel⟩
def spFil:Sp:=fun vs H Q _=>∃(r:Addr)(n B:Nat)(g:List (List Int)),vs=[.ref r,.int n]/\ak H r g/\Wl.Len n g/\n<=3/\g.length<=3/\Wl.Bds B g/\Wl.Bds B (Tg.across n g)/\1<=B/\B<=5000/\
 ∀(H':Hp)(q:Addr)(bs:List Addr),Same H H'->H q=none->H' q=some (.lst (bs.map V.ref))->aL H' bs (Tg.fill n g)->(∀b∈bs,H b=none)->Q (.ref q) H'
theorem pil(K:W.Frag){X:Cx}{tg l:Expr}{tl:TE}(hl:PE X l tl)(h:X.K=K:=by rfl):PI X tg l (iList K tl):=h ▸cD hl
theorem ok_acr{f fB fU:Addr}{fd fdB fdU:FuncData}(F:Fun K "across_of" "across_of" iK f fd)(T:Txt K mg)
  (GB:FnOk P w K mg base CX0 45 fB fdB ["vectors","ahead","n"] spBeh) (kB:W.keepIn K (.ref fB)=true) (bB:Binds K fdB ["vectors","ahead","n"] []) (mB:mg "behind"=some (.ref fB))
  (GU:FnOk P w K mg base CX0 1 fU fdU ["place","n"] spUn) (kU:W.keepIn K (.ref fU)=true) (bU:Binds K fdU ["place","n"] []) (mU:mg "unit"=some (.ref fU)) :
  FnOk P w K mg base CX0 46 f fd ["rows","n"] spAcr:=by
 refine F.ok jC (fun vs H Q E h=>?_) (fun cdv A outer s H vs Q E hr h=>?_)
 ·obtain⟨r,n,B,g,rfl,_⟩:=h
  rfl
 ·obtain⟨r,n,B,g,rfl,⟨as,ha,hav⟩,Lg,n3,g3,Bg,B1,hB,kq⟩:=h
  have hr1:Room 1 _:=hr.mono (by decide)
  refine⟨_,aF (ps_setLc (i:=2) (own:=[("place",3)]) rfl jC.nd rfl rfl (sw_true rfl rfl rfl rfl) (d6 rfl T.range (aA (pv 1) aE)) blkAc1
    (fun s H C cl fp=>b8 (i:=3) jC.nd rfl (Or.inr rfl)) (fun s H C cl fp=>cU)
    (fun s H C cl fp=>af cR
     (dN (own:=[("row",4)]) rfl jC.nd (pil K (pv 0)) (blkAc2 rfl) (fun s H C cl fp=>b8 (i:=4) jC.nd rfl (Or.inl rfl)) (fun s H C cl fp=>cU) (fun s H C cl fp=>bj (ixl K) (pv 4) (pv 3) (fun _ _=>rfl)))
     (aJ GU hr1 rfl mU kU bU .nil aS (aA (pv 3) (aA (pv 1) aE)))))
   (aK (aV (aJ GB hr rfl mB kB bB .nil aS (aA (pv 2) (aA (ag a8 (by rfl) T.len PySem.boot_len (aA (pv 0) aE)) (aA (pv 1) aE)))))),?_⟩
  have alen:=hav.len
  have sl6:∀x:Nat,x<=6->x<=sizeLine:=fun x hx=>by rw [sizeLine_eq]; omega
  have al:=Wl.acrossRows_len n g
  refine⟨_,rfl,_,rfl,by omega,by omega,fun D hD=>?_⟩
  refine gX (n:=(n:Int).toNat) (fun i H'=>∃bs,LcV H D bs ((Wl.cf n g).take i) H') ⟨[],by simpa using LcV.start hD⟩ ?_ ?_
  ·rintro i H' hi ⟨bs,L1⟩
   have hi:i<n:=by omega
   have ha1:=L1.same _ _ ha
   have hav1:=hav.keep L1.same
   refine⟨rfl,?_⟩
   dsimp only [gH]
   rw [if_pos rfl]
   refine⟨_,rfl,r,rfl,⟨_,SqL.of ha1⟩,fun D2 hD2=>?_⟩
   refine c4 (K:=K) (a:=r) (xs:=as.map V.ref) (fun j H''=>Same H' H''/\aN H'' D2 ((g.map fun(r:List Int)=>Tg.num r i).take j)) ⟨Same.new hD2,aB⟩ (fun j H'' _ q=>SqL.of (q.1 _ _ ha1)) ?_ ?_
   ·rintro j y H'' hj ⟨hs,hv⟩
    rw [List.getElem?_map] at hj
    obtain⟨cc,hc,rfl⟩:=Option.map_eq_some_iff.1 hj
    obtain⟨row,hrow,hcv⟩:=(hav1.keep hs).get hc
    have lrow:=Lg row (List.mem_of_getElem? hrow)
    refine⟨rfl,?_⟩
    dsimp only [gH]
    rw [if_pos rfl]
    refine⟨_,rfl,_,rfl,cc,_,_,_,rfl,rfl,SqL.of hcv,ee (by omega),_,hv,?_,fun d o e=>?_,?_⟩
    ·rw [List.length_map,List.length_take,List.length_map]; exact aq (by omega)
    ·rw [aO (aP e hD2)]; exact hs d o e
    ·unfold aN
     rw [aB,br (l:=g.map fun(r:List Int)=>Tg.num r i) (x:=Tg.num row i) (by rw [List.getElem?_map,hrow]; rfl),List.map_append]
     rfl
   ·rintro H1 ⟨hs,hv⟩
    have e1:(g.map fun(r:List Int)=>Tg.num r i).take (as.map V.ref).length=g.map fun(r:List Int)=>Tg.num r i:=List.take_of_length_le (by simp; omega)
    rw [e1] at hv
    refine⟨_,rfl,_,rfl,i,n,by rw [Int.zero_add]; rfl,n3,fun H2 u hu s2 hv2=>?_⟩
    refine⟨D2,u,_,_,rfl,rfl,s2 _ _ hv,hv2,by rw [List.length_map,List.length_map,List.length_map,Wl.b5]; exact sl6 _ (by omega),fun p hp=>?_⟩
    have t3:=(hs.trans s2).trans (Same.new (o:=.lst ((g.map fun(r:List Int)=>Tg.num r i).map V.int++(Tg.unit n i).map V.int)) hp)
    refine⟨_,t3 _ _ L1.at_,?_,bs++[p],?_⟩
    ·rw [List.length_map,L1.vecs.len,List.length_take]; exact aq (by omega)
    ·rw [br (Wl.acrossRows_get g hi)]
     refine L1.snoc hD t3 ((hs.trans s2).free hp) ?_
     unfold aN
     rw [aB,List.map_append]
  ·rintro H1 ⟨bs,L1⟩
   rw [List.take_of_length_le (by omega)] at L1
   have ha1:=L1.same _ _ ha
   refine⟨_,rfl,_,rfl,r,_,rfl,.inl (SqL.of ha1),_,rfl,D,g.length,n,B,Wl.cf n g,by rw [List.length_map,alen]; rfl,⟨bs,L1.at_,L1.vecs⟩,Wl.acrossRows_rows n g,by omega,by omega,Wl.acrossRows_bd B1 Bg,hB,fun H5 q ds s5 hq hq5 hds hdn=>?_⟩
   exact kq H5 q ds (L1.same.trans s5) (L1.same.free hq) hq5 hds fun b hb=>L1.same.free (hdn b hb)
theorem ok_fil{f fA:Addr}{fd fdA:FuncData}(F:Fun K "filled_of" "filled_of" sFil f fd)
  (GA:FnOk P w K mg base CX0 46 fA fdA ["rows","n"] spAcr) (kA:W.keepIn K (.ref fA)=true) (bA:Binds K fdA ["rows","n"] []) (mA:mg "across_of"=some (.ref fA)) :
  FnOk P w K mg base CX0 47 f fd ["rows","n"] spFil:=by
 refine F.ok scFil (fun vs H Q E h=>?_) (fun cdv A outer s H vs Q E hr h=>?_)
 ·obtain⟨r,n,B,g,rfl,_⟩:=h
  rfl
 ·obtain⟨r,n,B,g,rfl,hg,Lg,n3,g3,Bg,Ba,B1,hB,kq⟩:=h
  refine⟨_,aK (aV (aJ GA hr rfl mA kA bA .nil aS (aA (aJ GA hr rfl mA kA bA .nil aS (aA (pv 0) (aA (pv 1) aE))) (aA (pv 1) aE)))),?_⟩
  have FA:=Wl.cb Lg
  have rk:=FA.toEch.rank_n
  refine⟨_,rfl,_,rfl,r,n,B,g,rfl,hg,Lg,n3,g3,Bg,B1,hB,fun H1 q bs s1 hq hq1 hbs hbn=>?_⟩
  refine⟨_,rfl,q,n,B,Tg.across n g,rfl,⟨bs,hq1,hbs⟩,FA.len,n3,by omega,Ba,B1,hB,fun H2 q2 b2 s2 hq2 hq22 hb2 hb2n=>?_⟩
  exact kq H2 q2 b2 (s1.trans s2) (s1.free hq2) hq22 hb2 fun b hb=>s1.free (hb2n b hb)
abbrev jZ:Stmt:=aj "row_answer"
theorem scRow:FnScope ["row"] ["row"] (aC jZ):=⟨rfl,rfl,rfl,by decide +kernel,rfl,by decide +kernel,by decide +kernel⟩
def iy:Sp:=fun vs H Q _=>∃(a:Addr)(v:List Int),vs=[.ref a]/\aN H a v/\v.length<=100000/\
 ∀(H':Hp)(p:Addr),H p=none->Same H H'->aN H' p (0::(v.length:Int)::v)->Q (.ref p) H'
theorem line_100k:200000<sizeLine:=by decide
theorem ok_row{f:Addr}{fd:FuncData}(F:Fun K "row_answer" "row_answer" jZ f fd)(T:Txt K mg):FnOk P w K mg base CX0 1 f fd ["row"] iy:=by
 refine F.ok scRow (fun vs H Q E h=>?_) (fun cdv A outer s H vs Q E hr h=>?_)
 ·obtain⟨a,v,rfl,_⟩:=h
  rfl
 ·obtain⟨a,v,rfl,ha,hl,k⟩:=h
  refine⟨_,aK (aV (af cR (bJ (aA aQ (aA (ag a8 (by rfl) T.len PySem.boot_len (aA (pv 0) aE)) aE))) (pv 0))),?_⟩
  refine⟨_,rfl,a,_,rfl,.inl (SqL.of ha),by show 2<=sizeLine; decide,fun l hl0=>?_⟩
  have s1:Same H (upd H l (.lst [V.int 0,V.int ((v.map V.int).length:Int)])):=Same.new hl0
  refine⟨_,rfl,l,a,_,_,rfl,rfl,aB,s1 _ _ ha,?_,fun p hp=>?_⟩
  ·have:=line_100k
   rw [List.length_map]; simp; omega
  ·have s2:=s1.trans (Same.new (o:=.lst ([V.int 0,V.int ((v.map V.int).length:Int)]++v.map V.int)) hp)
   refine k _ p ?_ s2 ?_
   ·cases e:H p with
    | none=>rfl
    | some o=>rw [s1 _ _ e] at hp; cases hp
   ·unfold aN
    rw [aB,List.length_map]; rfl
abbrev i5:Stmt:=aj "flat"
theorem scFlat:FnScope ["rows","numbers","row"] ["rows"] (aC i5):=⟨rfl,rfl,rfl,by decide +kernel,rfl,by decide +kernel,by decide +kernel⟩
def i8:Sp:=fun vs H Q _=>∃(a:Addr)(rs:List (List Int)),vs=[.ref a]/\ak H a rs/\(TgCalls.flat rs).length<=100000/\
 ∀(H':Hp)(p:Addr),H p=none->Same H H'->aN H' p (TgCalls.flat rs)->Q (.ref p) H'
theorem flat_take{rs:List (List Int)}{i:Nat}{r:List Int}(h:rs[i]? =some r):TgCalls.flat (rs.take (i+1))=TgCalls.flat (rs.take i)++r:=by
 rw [br h]
 simp [TgCalls.flat]
theorem flat_take_le(rs:List (List Int))(i:Nat):(TgCalls.flat (rs.take i)).length<=(TgCalls.flat rs).length:=by
 have:TgCalls.flat rs=TgCalls.flat (rs.take i)++TgCalls.flat (rs.drop i):=by
  unfold TgCalls.flat
  rw [<- List.flatMap_append,List.take_append_drop]
 rw [this]; simp
theorem ok_flat{f:Addr}{fd:FuncData}(F:Fun K "flat" "flat" i5 f fd):FnOk P w K mg base CX0 1 f fd ["rows"] i8:=by
 refine F.ok scFlat (fun vs H Q E h=>?_) (fun cdv A outer s H vs Q E hr h=>?_)
 ·obtain⟨a,rs,rfl,_⟩:=h
  rfl
 ·obtain⟨a,rs,rfl,⟨as,ha,hav⟩,hl,k⟩:=h
  refine⟨_,aF (aZ (i:=1) scFlat.nd rfl (Or.inl rfl) (bJ aE))
   (aF (fe PassesOwn.never rfl (cD (pv 0)) (b8 (i:=2) scFlat.nd rfl (Or.inl rfl))
    (aK (e7 (iM PySem.F.plainAttrs_list PySem.F.slot_list_extend PySem.F.type_list_extend mt_extend (pv 1) (aA (pv 2) aE)))))
   (aK (aV (pv 1)))),?_⟩
  refine⟨Nat.zero_le _,fun q hq=>?_⟩
  have s1:Same H (upd H q (.lst [])):=Same.new hq
  refine⟨_,rfl,a,rfl,⟨_,SqL.of (s1 _ _ ha)⟩,fj (K:=K) (a:=a) (xs:=as.map V.ref) (fun i σ H'=>∃v2:Option L2.V,σ=[some (.ref a),some (.ref q),v2]/\Same H H'/\aN H' q (TgCalls.flat (rs.take i))) ?_ ?_ ?_ ?_⟩
  ·exact⟨none,rfl,s1,aB⟩
  ·rintro i σ H' hi ⟨v2,rfl,hs,_⟩
   exact SqL.of (hs _ _ ha)
  ·rintro i y σ H' hi ⟨v2,rfl,hs,hv⟩
   rw [List.getElem?_map] at hi
   obtain⟨c,hc,rfl⟩:=Option.map_eq_some_iff.1 hi
   obtain⟨r,hr',hcv⟩:=hav.get hc
   have e1:=flat_take hr'
   have e2:=flat_take_le rs (i+1)
   rw [e1,List.length_append] at e2
   refine⟨_,rfl,.inl ⟨rfl,_,SqL.of hv⟩,_,rfl,q,c,_,_,rfl,rfl,hv,hs _ _ hcv,?_,?_⟩
   ·have:=line_100k
    rw [List.length_map,List.length_map]; omega
   ·refine⟨_,rfl,fun d o e=>?_,?_⟩
    ·rw [aO (aP e hq)]; exact hs _ _ e
    ·unfold aN
     rw [aB,e1,List.map_append]
  ·rintro σ H' ⟨v2,rfl,hs,hv⟩
   rw [List.length_map,hav.len,List.take_length] at hv
   exact⟨_,rfl,k H' q hq hs hv⟩
def stF(n:Int)(r:Addr):List (Str × L2.V):=[("n",.int n),("rows",.ref r)]
abbrev gb:Stmt:=aj "stand"
theorem scStand:FnScope ["standing","n","rows"] ["standing","n","rows"] (aC gb):=⟨rfl,rfl,rfl,by decide +kernel,rfl,by decide +kernel,by decide +kernel⟩
def But(a:Addr)(H H':Hp):Prop:=∀b o,H b=some o->b≠a->H' b=some o
def fw(C:Addr):Sp:=fun vs H Q _=>∃(a dx r r0:Addr)(n n0:Int)(as:List Addr),vs=[.ref a,.int n,.ref r]/\H a=some (.ins C dx (stF n0 r0))/\H r=some (.lst (as.map V.ref))/\
 ∀(H':Hp)(p:Addr),But a H H'->H' a=some (.ins C dx (stF n r))->H p=none->aN H' p [0,(as.length:Int)]->Q (.ref p) H'
structure TxtS(K:W.Frag)(C:Addr):Prop where
 cl:Cls K C
 nN:cT K C "n"
 nR:cT K C "rows"
theorem putF_hit(f:Str)(v x:L2.V)(r:List (Str × L2.V)):b6 f v ((f,x)::r)=(f,v)::r:=by
 show(if f=f then _ else _)=_
 rw [if_pos rfl]
theorem putF_miss{f g:Str}(h:¬ g=f)(v x:L2.V)(r:List (Str × L2.V)):b6 f v ((g,x)::r)=(g,x)::b6 f v r:=by
 show(if g=f then _ else _)=_
 rw [if_neg h]
theorem putN(m n:Int)(r:Addr):b6 "n" (.int m) (stF n r)=stF m r:=putF_hit _ _ _ _
theorem putR(n:Int)(r q:Addr):b6 "rows" (.ref q) (stF n r)=stF n q:=(putF_miss (by decide) _ _ _).trans (congrArg (List.cons _) (putF_hit _ _ _ _))
theorem ok_stand{f C:Addr}{fd:FuncData}(F:Fun K "stand" "stand" gb f fd)(T:Txt K mg)(TS:TxtS K C):FnOk P w K mg base CX0 1 f fd ["standing","n","rows"] (fw C):=by
 refine F.ok scStand (fun vs H Q E h=>?_) (fun cdv A outer s H vs Q E hr h=>?_)
 ·obtain⟨a,dx,r,r0,n,n0,as,rfl,_⟩:=h
  rfl
 ·obtain⟨a,dx,r,r0,n,n0,as,rfl,ha,hr',k⟩:=h
  refine⟨_,aF (dD (pv 0) (pv 1) rfl) (aF (dD (pv 0) (pv 2) rfl)
   (aK (aV (bJ (aA aQ (aA (ag a8 (by rfl) T.len PySem.boot_len (aA (pv 2) aE)) aE)))))),?_⟩
  have nar:r≠a:=fun e=>by rw [e,ha] at hr'; cases hr'
  refine⟨_,rfl,_,rfl,a,C,dx,_,rfl,ha,TS.cl,TS.nN,(by show 2<1000; decide),?_⟩
  rw [putN]
  refine⟨_,rfl,_,rfl,a,C,dx,_,rfl,aB,TS.cl,TS.nR,(by show 2<1000; decide),?_⟩
  rw [putR]
  have hr2:upd (upd H a (.ins C dx (stF n r0))) a (.ins C dx (stF n r)) r=some (.lst (as.map V.ref)):=by rw [aO nar,aO nar]; exact hr'
  refine⟨_,rfl,r,_,rfl,.inl (SqL.of hr2),by show 2<=sizeLine; decide,fun p hp=>?_⟩
  have npa:p≠a:=fun e=>by rw [e,aB] at hp; cases hp
  have npH:H p=none:=by rw [aO npa,aO npa] at hp; exact hp
  refine k _ p ?_ ?_ npH ?_
  ·intro b o e hb
   rw [aO (aP e npH),aO hb,aO hb]; exact e
  ·rw [aO npa.symm,aB]
  ·unfold aN
   rw [aB,List.length_map]; rfl
theorem eF(f:Str)(v:L2.V)(fs:List (Str × L2.V)):(b6 f v fs).lookup f=some v:=by rw [dz,if_pos rfl]
theorem bc{f g:Str}(h:¬ g=f)(v:L2.V)(fs:List (Str × L2.V)):(b6 f v fs).lookup g=fs.lookup g:=by rw [dz,if_neg h]
theorem cv(f:Str)(v:L2.V)(fs:List (Str × L2.V)):(b6 f v fs).length<=fs.length+1:=by have:=length_putF f v fs; omega
structure CallF(fs:List (Str × L2.V))(nm:Str)(kd:L2.V)(num:Int)(r:Addr)(aft:Int):Prop where
 name:fs.lookup ("name":Str)=some (.str nm)
 kind:fs.lookup ("row_kind":Str)=some kd
 number:fs.lookup ("number":Str)=some (.int num)
 row:fs.lookup ("row":Str)=some (.ref r)
 after:fs.lookup ("after":Str)=some (.int aft)
 len:fs.length<100
structure TxtC(K:W.Frag)(C:Addr):Prop where
 cl:Cls K C
 nN:cT K C "name"
 nK:cT K C "row_kind"
 nU:cT K C "number"
 nR:cT K C "row"
 nA:cT K C "after"
def TabAt(K:W.Frag)(aT:Addr)(p:Int)(nm:Str)(b:Bool)(kd:L2.V):Prop:=
 ∃(es:Array DictEntry)(t:Addr),ModD K aT es/\findBy gJ es (.inl p)=some (.ref t)/\∀H:Hp,SqT K H t [.str nm,.bl b,kd]
abbrev sCI:Stmt:=inClass (aj "Call") 0
theorem scCI:FnScope ["self","calls","place","kind","start"] ["self","calls","place"] (aC sCI):=⟨rfl,rfl,rfl,by decide +kernel,rfl,by decide +kernel,by decide +kernel⟩
def part(X:Option Int)(R:Option (List Int)):List Int:=X.toList++(match R with | some r=>(r.length:Int)::r | none=>[])
def spCI(K:W.Frag)(C aT:Addr):Sp:=fun vs H Q _=>∃(x a dx:Addr)(pl:Nat)(ns t:List Int)(p:Int)(nm k:Str)(X:Option Int)(R:Option (List Int)),vs=[.ref x,.ref a,.int pl]/\H x=some (.ins C dx [])/\SqL K H a (ns.map V.int)/\ns.length<=1000/\
 ns.drop pl=p::(part X R++t)/\TabAt K aT p nm X.isSome (if R.isSome=true then .str k else .non)/\
 ∀(H':Hp)(fs:List (Str × L2.V))(r:Addr),H' x=some (.ins C dx fs)->CallF fs nm (if R.isSome=true then .str k else .non) (X.getD 0) r ((pl+1+(part X R).length:Nat):Int)->aN H' r (R.getD [])->H r=none->But x H H'->Q .non H'
theorem at_drop{ns:List Int}{pl i:Nat}{l:List Int}{z:Int}(h:ns.drop pl=l)(hz:l[i]? =some z):atI (ns.map V.int) ((pl+i:Nat):Int)=some (V.int z):=by
 subst h
 rw [List.getElem?_drop] at hz
 exact dY (by rw [List.getElem?_map,hz]; rfl)
theorem But.sq{K:W.Frag}{x a:Addr}{H H':Hp}{xs:List L2.V}(b:But x H H')(hx:∀ys,H x≠some (.lst ys))(hf:∀o ys,H x≠some (.frz o ys))(h:SqL K H a xs):SqL K H' a xs:=by
 rcases h with(h | ⟨o,h⟩) | h
 ·exact .inl (.inl (b _ _ h fun e=>hx _ (by rw [<- e]; exact h)))
 ·exact .inl (.inr ⟨o,b _ _ h fun e=>hf _ _ (by rw [<- e]; exact h)⟩)
 ·exact .inr h
theorem sq_upd{K:W.Frag}{x a C dx:Addr}{fs:List (Str × L2.V)}{o:HO}{H:Hp}{xs:List L2.V}(hx:H x=some (.ins C dx fs))(h:SqL K H a xs):SqL K (upd H x o) a xs:=
 But.sq (x:=x) (H:=H) (fun b u e hb=>by rw [aO hb]; exact e) (fun ys e=>by rw [hx] at e; cases e) (fun u ys e=>by rw [hx] at e; cases e) h
structure Mid(K:W.Frag)(H:Hp)(x a C dx:Addr)(xs:List L2.V)(H':Hp)(fs:List (Str × L2.V)):Prop where
 at_:H' x=some (.ins C dx fs)
 but:But x H H'
 sq:SqL K H' a xs
theorem Mid.put{K:W.Frag}{H H':Hp}{x a C dx:Addr}{xs:List L2.V}{fs gs:List (Str × L2.V)}(M:Mid K H x a C dx xs H' fs):Mid K H x a C dx xs (upd H' x (.ins C dx gs)) gs:=
 ⟨aB,fun b o e hb=>by rw [aO hb]; exact M.but b o e hb,sq_upd M.at_ M.sq⟩
theorem Mid.new{K:W.Frag}{H H':Hp}{x a C dx p:Addr}{xs:List L2.V}{fs:List (Str × L2.V)}{o:HO}(M:Mid K H x a C dx xs H' fs)(hp:H' p=none):Mid K H x a C dx xs (upd H' p o) fs:=
 ⟨by rw [aO (aP M.at_ hp)]; exact M.at_,fun b u e hb=>by rw [aO (aP (M.but b u e hb) hp)]; exact M.but b u e hb,(Same.new hp).seq M.sq⟩
theorem Mid.free{K:W.Frag}{H H':Hp}{x a C dx p:Addr}{xs:List L2.V}{fs:List (Str × L2.V)}(M:Mid K H x a C dx xs H' fs)(hpx:p≠x)(hp:H' p=none):H p=none:=by
 cases e:H p with
 | none=>rfl
 | some o=>rw [M.but p o e hpx] at hp; cases hp
theorem drop_at{ns l:List Int}{pl i:Nat}(h:ns.drop pl=l):ns.drop (pl+i)=l.drop i:=by rw [<- h,List.drop_drop]
theorem ok_ci{f C aT:Addr}{fd:FuncData}(F:Fun K "__init__" "Call.__init__" sCI f fd)(TC:TxtC K C)(mT:mg "CALLS"=some (.ref aT)):FnOk P w K mg base CX0 1 f fd ["self","calls","place"] (spCI K C aT):=by
 refine F.ok scCI (fun vs H Q E h=>?_) (fun cdv A outer s H vs Q E hr h=>?_)
 ·obtain⟨x,a,dx,pl,ns,t,p,nm,k,X,R,rfl,_⟩:=h
  rfl
 ·obtain⟨x,a,dx,pl,ns,t,p,nm,k,X,R,rfl,hx,ha,hlen,hdr,⟨es,tt,hM,hfi,hT⟩,kk⟩:=h
  refine⟨_,aF (aZ (i:=3) scCI.nd rfl (Or.inl rfl) (pe_mget (cw rfl mT (v:=.ref aT) rfl) (bj (ixl K) (pv 1) (pv 2) (fun _ _=>rfl)) (fun _ _=>rfl)))
   (aF (dD (pv 0) (bj (ixt K) (pv 3) aQ (fun _ _=>rfl)) rfl)
   (aF (dD (pv 0) (bj (ixt K) (pv 3) aQ (fun _ _=>rfl)) rfl)
   (aF (dD (pv 0) aQ rfl)
   (aF (dD (pv 0) (bJ aE) rfl)
   (aF (dD (pv 0) (af cq (pv 2) aQ) rfl)
   (aF (cC (gg (bj (ixt K) (pv 3) aQ (fun _ _=>rfl)))
    (aF (dD (pv 0) (bj (ixl K) (pv 1) (ae (pv 0) rfl) (fun _ _=>rfl)) rfl) (aK (dD (pv 0) (af cq (ae (pv 0) rfl) aQ) rfl))) bE)
   (aK (cC (pt_cmp (pc_notN (ae (pv 0) rfl)))
    (aF (aZ (i:=4) scCI.nd rfl (Or.inl rfl) (af cq (ae (pv 0) rfl) aQ))
    (aF (dD (pv 0) (af cq (pv 4) (bj (ixl K) (pv 1) (ae (pv 0) rfl) (fun _ _=>rfl))) rfl)
    (aK (dD (pv 0) (cE (sll K) (pv 1) (cJ (pv 4)) (cJ (ae (pv 0) rfl))) rfl)))) bE)))))))),?_⟩
  have h0:=at_drop (i:=0) hdr rfl
  refine⟨_,rfl,_,rfl,a,_,_,_,rfl,rfl,ha,h0,aT,p,es,_,.ref tt,rfl,rfl,hM,hfi,rfl,?_⟩
  refine⟨_,rfl,tt,_,_,_,rfl,rfl,hT _,rfl,_,rfl,x,C,dx,_,rfl,hx,TC.cl,TC.nN,(by show 0<1000; decide),?_⟩
  have M0:Mid K H x a C dx (ns.map V.int) H []:=⟨hx,fun b o e _=>e,ha⟩
  have M1:=M0.put (gs:=b6 "name" (.str nm) [])
  refine⟨_,rfl,tt,_,_,_,rfl,rfl,hT _,rfl,_,rfl,x,C,dx,_,rfl,M1.at_,TC.cl,TC.nK,(by have:=cv "name" (.str nm) []; simp at this; omega),?_⟩
  have M2:=M1.put (gs:=b6 "row_kind" (if R.isSome=true then .str k else .non) (b6 "name" (.str nm) []))
  have l2:(b6 "row_kind" (if R.isSome=true then V.str k else .non) (b6 "name" (.str nm) [])).length<=2:=by
   have a1:=cv "name" (.str nm) []
   have a2:=cv "row_kind" (if R.isSome=true then V.str k else .non) (b6 "name" (.str nm) [])
   simp at a1; omega
  refine⟨_,rfl,x,C,dx,_,rfl,M2.at_,TC.cl,TC.nU,(by omega),?_⟩
  have k2:(b6 "row_kind" (if R.isSome=true then V.str k else .non) (b6 "name" (.str nm) [])).lookup ("name":Str)=some (.str nm):=(bc (by decide) _ _).trans (eF _ _ _)
  have k2':(b6 "row_kind" (if R.isSome=true then V.str k else .non) (b6 "name" (.str nm) [])).lookup ("row_kind":Str)=some (if R.isSome=true then V.str k else .non):=eF _ _ _
  generalize b6 "row_kind" (if R.isSome=true then V.str k else .non) (b6 "name" (.str nm) [])=f2 at *
  have M3:=M2.put (gs:=b6 "number" (.int 0) f2)
  refine⟨Nat.zero_le _,fun r hr=>?_⟩
  have M4:=M3.new (o:=.lst []) hr
  have l3:=cv "number" (.int 0) f2
  refine⟨_,rfl,x,C,dx,_,rfl,M4.at_,TC.cl,TC.nR,(by omega),?_⟩
  have M5:=M4.put (gs:=b6 "row" (.ref r) (b6 "number" (.int 0) f2))
  have l4:=cv "row" (.ref r) (b6 "number" (.int 0) f2)
  refine⟨_,rfl,_,_,rfl,rfl,_,rfl,x,C,dx,_,rfl,M5.at_,TC.cl,TC.nA,(by omega),?_⟩
  have M6:=M5.put (gs:=b6 "after" (.int ((pl:Int)+1)) (b6 "row" (.ref r) (b6 "number" (.int 0) f2)))
  have l5:=cv "after" (.int ((pl:Int)+1)) (b6 "row" (.ref r) (b6 "number" (.int 0) f2))
  have nrx:r≠x:=fun e=>by rw [e,aB] at hr; cases hr
  have frH:H r=none:=M3.free nrx hr
  have hr6:upd (upd (upd (upd (upd (upd H x (.ins C dx (b6 "name" (.str nm) []))) x (.ins C dx f2)) x (.ins C dx (b6 "number" (.int 0) f2))) r (.lst [])) x (.ins C dx (b6 "row" (.ref r) (b6 "number" (.int 0) f2)))) x (.ins C dx (b6 "after" (.int ((pl:Int)+1)) (b6 "row" (.ref r) (b6 "number" (.int 0) f2)))) r=some (.lst []):=by
   rw [aO nrx,aO nrx,aB]
  have C6:CallF (b6 "after" (.int ((pl:Int)+1)) (b6 "row" (.ref r) (b6 "number" (.int 0) f2))) nm (if R.isSome=true then V.str k else .non) 0 r ((pl:Int)+1):=
   ⟨(bc (by decide) _ _).trans ((bc (by decide) _ _).trans ((bc (by decide) _ _).trans k2)),(bc (by decide) _ _).trans ((bc (by decide) _ _).trans ((bc (by decide) _ _).trans k2')),
    (bc (by decide) _ _).trans ((bc (by decide) _ _).trans (eF _ _ _)),(bc (by decide) _ _).trans (eF _ _ _),eF _ _ _,by omega⟩
  generalize b6 "after" (.int ((pl:Int)+1)) (b6 "row" (.ref r) (b6 "number" (.int 0) f2))=f6 at *
  generalize upd (upd (upd (upd (upd (upd H x (.ins C dx (b6 "name" (.str nm) []))) x (.ins C dx f2)) x (.ins C dx (b6 "number" (.int 0) f2))) r (.lst [])) x (.ins C dx (b6 "row" (.ref r) (b6 "number" (.int 0) f2)))) x (.ins C dx f6)=H6 at *
  refine⟨_,rfl,tt,_,_,_,rfl,rfl,hT _,rfl,_,rfl,?_⟩
  have tail:∀(H7:Hp)(f7:List (Str × L2.V)),Mid K H x a C dx (ns.map V.int) H7 f7->H7 r=some (.lst [])->CallF f7 nm (if R.isSome=true then V.str k else .non) (X.getD 0) r ((pl+1+X.toList.length:Nat):Int)->f7.length<=20->
    (tIfS (tB (tNotN (tFld K (gv 0) "row_kind"))) (tSeq (tAsg (tOp (rI0 fun i j=>V.int (i+j)) (tFld K (gv 0) "after") (tC (.int 1))) (jH 4)) (tSeq (sFld K (gv 0) (tOp (rI0 fun i j=>V.int (i+j)) (gv 4) (tOp (rIxL K) (gv 1) (tFld K (gv 0) "after"))) "after") (sFld K (gv 0) (tSl (rSlL K) (gv 1) (tPart (gv 4)) (tPart (tFld K (gv 0) "after"))) "row"))) tNext)
     {nx:=fun _ H'=>Q .non H',rt:=Q} [some (.ref x),some (.ref a),some (.int pl),some (.ref tt),none] H7:=by
   intro H7 f7 M7 hr7 C7 h20
   refine⟨_,rfl,x,C,dx,f7,_,rfl,M7.at_,TC.cl,TC.nK,C7.kind,_,rfl,?_⟩
   dsimp only
   cases R with
   | none=>
     rw [if_neg (by simp)]
     refine kk H7 f7 r M7.at_ ?_ hr7 frH M7.but
     have e:(part X none).length=X.toList.length:=by simp [part]
     rw [e]; exact C7
   | some rw'=>
     rw [if_pos (by simp)]
     have l7:=C7.len
     have hat:(p::(part X (some rw')++t))[1+X.toList.length]? =some (rw'.length:Int):=by
      cases X <;> simp [part]
     have h7:=at_drop hdr hat
     rw [<- Nat.add_assoc] at h7
     have hd2:ns.drop (pl+(2+X.toList.length))=rw'++t:=by
      rw [drop_at hdr]
      cases X <;> simp [part]
     refine⟨_,rfl,x,C,dx,f7,_,rfl,M7.at_,TC.cl,TC.nA,C7.after,_,_,rfl,rfl,?_⟩
     refine⟨_,rfl,_,rfl,_,rfl,x,C,dx,f7,_,rfl,M7.at_,TC.cl,TC.nA,C7.after,a,_,_,_,rfl,rfl,M7.sq,h7,_,_,rfl,rfl,_,rfl,x,C,dx,_,rfl,M7.at_,TC.cl,TC.nA,(by omega),?_⟩
     have l8:=cv "after" (.int (((pl+1+X.toList.length:Nat):Int)+1+(rw'.length:Int))) f7
     have M8:=M7.put (gs:=b6 "after" (.int (((pl+1+X.toList.length:Nat):Int)+1+(rw'.length:Int))) f7)
     refine⟨_,rfl,_,rfl,_,rfl,_,rfl,x,C,dx,_,_,rfl,M8.at_,TC.cl,TC.nA,eF _ _ _,_,rfl,a,_,rfl,M8.sq,fun q hq=>?_⟩
     have M9:=M8.new (o:=.lst (cH (ns.map V.int) (some (((pl+1+X.toList.length:Nat):Int)+1)) (some (((pl+1+X.toList.length:Nat):Int)+1+(rw'.length:Int))))) hq
     refine⟨_,rfl,x,C,dx,_,rfl,M9.at_,TC.cl,TC.nR,(by omega),?_⟩
     have M10:=M9.put (gs:=b6 "row" (.ref q) (b6 "after" (.int (((pl+1+X.toList.length:Nat):Int)+1+(rw'.length:Int))) f7))
     have nqx:q≠x:=fun e=>by rw [e,aB] at hq; cases hq
     have l9:=cv "row" (.ref q) (b6 "after" (.int (((pl+1+X.toList.length:Nat):Int)+1+(rw'.length:Int))) f7)
     refine kk _ _ q M10.at_ ?_ ?_ (M8.free nqx hq) M10.but
     ·have l6:=C7.len
      refine⟨(bc (by decide) _ _).trans ((bc (by decide) _ _).trans C7.name),(bc (by decide) _ _).trans ((bc (by decide) _ _).trans C7.kind),(bc (by decide) _ _).trans ((bc (by decide) _ _).trans C7.number),eF _ _ _,(bc (by decide) _ _).trans ((eF _ _ _).trans ?_),?_⟩
      ·congr 2
       have e:(part X (some rw')).length=X.toList.length+1+rw'.length:=by simp [part]; omega
       rw [e]; omega
      ·omega
     ·unfold aN
      rw [aO nqx,aB]
      have e:((pl+1+X.toList.length:Nat):Int)+1=((pl+(2+X.toList.length):Nat):Int):=by omega
      rw [e,cut_mid,<- List.map_drop,hd2,<- List.map_take,List.take_left]
      rfl
  cases X with
  | none=>
    dsimp only
    rw [if_neg (by simp)]
    exact tail H6 f6 M6 hr6 C6 (by omega)
  | some z=>
    dsimp only
    rw [if_pos (by simp)]
    have h1:=at_drop (i:=1) hdr (z:=z) (by simp [part])
    have l6:=C6.len
    refine⟨_,rfl,_,rfl,x,C,dx,f6,_,rfl,M6.at_,TC.cl,TC.nA,C6.after,a,_,_,_,rfl,rfl,M6.sq,h1,_,rfl,x,C,dx,_,rfl,M6.at_,TC.cl,TC.nU,(by omega),?_⟩
    have M7:=M6.put (gs:=b6 "number" (.int z) f6)
    have l7:=cv "number" (.int z) f6
    have a7:(b6 "number" (V.int z) f6).lookup ("after":Str)=some (.int ((pl:Int)+1)):=(bc (by decide) _ _).trans C6.after
    refine⟨_,rfl,x,C,dx,_,_,rfl,M7.at_,TC.cl,TC.nA,a7,_,_,rfl,rfl,_,rfl,x,C,dx,_,rfl,M7.at_,TC.cl,TC.nA,(by omega),?_⟩
    have M8:=M7.put (gs:=b6 "after" (.int ((pl:Int)+1+1)) (b6 "number" (.int z) f6))
    have l8:=cv "after" (.int ((pl:Int)+1+1)) (b6 "number" (.int z) f6)
    refine tail _ _ M8 (by rw [aO nrx,aO nrx]; exact hr6) ?_ (by omega)
    refine⟨(bc (by decide) _ _).trans ((bc (by decide) _ _).trans C6.name),(bc (by decide) _ _).trans ((bc (by decide) _ _).trans C6.kind),(bc (by decide) _ _).trans (eF _ _ _),(bc (by decide) _ _).trans ((bc (by decide) _ _).trans C6.row),(eF _ _ _).trans ?_,?_⟩
    ·congr 2
    ·omega
abbrev sSI:Stmt:=inClass (aj "Standing") 0
theorem scSI:FnScope ["self"] ["self"] (aC sSI):=⟨rfl,rfl,rfl,by decide +kernel,rfl,by decide +kernel,by decide +kernel⟩
def spSI(C:Addr):Sp:=fun vs H Q _=>∃(x dx:Addr),vs=[.ref x]/\H x=some (.ins C dx [])/\∀(H':Hp)(r:Addr),H' x=some (.ins C dx (stF 0 r))->H' r=some (.lst [])->H r=none->But x H H'->Q .non H'
theorem ok_si{f C:Addr}{fd:FuncData}(F:Fun K "__init__" "Standing.__init__" sSI f fd)(TS:TxtS K C):FnOk P w K mg base CX0 1 f fd ["self"] (spSI C):=by
 refine F.ok scSI (fun vs H Q E h=>?_) (fun cdv A outer s H vs Q E hr h=>?_)
 ·obtain⟨x,dx,rfl,_⟩:=h
  rfl
 ·obtain⟨x,dx,rfl,hx,k⟩:=h
  refine⟨_,aF (dD (pv 0) aQ rfl) (aK (dD (pv 0) (bJ aE) rfl)),?_⟩
  refine⟨_,rfl,x,C,dx,[],rfl,hx,TS.cl,TS.nN,(by show 0<1000; decide),?_⟩
  refine⟨Nat.zero_le _,fun r hr'=>?_⟩
  have nrx:r≠x:=fun e=>by rw [e,aB] at hr'; cases hr'
  have frH:H r=none:=by rw [aO nrx] at hr'; exact hr'
  refine⟨_,rfl,x,C,dx,[("n",.int 0)],rfl,?_,TS.cl,TS.nR,(by show 1<1000; decide),?_⟩
  ·rw [aO nrx.symm,aB]; rfl
  ·refine k _ r ?_ ?_ frH ?_
   ·rw [aB]
    rfl
   ·rw [aO nrx,aB]
   ·intro b o e hb
    rw [aO hb,aO (aP e frH),aO hb]; exact e
def KindOk(p:Int)(X:Option Int)(R:Option (List Int)):Prop:=
 (p=1/\X.isSome=true/\R.isSome=true)\/(p=14/\X.isSome=true/\R=none)\/(Wl.cz p/\X=none/\R.isSome=true)\/(Wl.isPlain p/\X=none/\R=none)
def callC(p:Int)(X:Option Int)(R:Option (List Int)):List (List Int):=(p::X.toList)::R.toList
theorem reads_head{l:List Int}{c:List (List Int)}{cs:List (List (List Int))}(h:Wl.Reads l (c::cs)):∃(p:Int)(X:Option Int)(R:Option (List Int))(t:List Int),l=p::(part X R++t)/\c=callC p X R/\Wl.Reads t cs/\KindOk p X R:=by
 cases h with
 | plain hp ht=>exact⟨_,none,none,_,rfl,rfl,ht,.inr (.inr (.inr ⟨hp,rfl,rfl⟩))⟩
 | short ht=>exact⟨14,some _,none,_,rfl,rfl,ht,.inr (.inl ⟨rfl,rfl,rfl⟩)⟩
 | row hp ht=>exact⟨_,none,some _,_,rfl,rfl,ht,.inr (.inr (.inl ⟨hp,rfl,rfl⟩))⟩
 | fresh ht=>exact⟨1,some _,some _,_,rfl,rfl,ht,.inl ⟨rfl,rfl,rfl⟩⟩
def nameOf(p:Int):Str:=if p=1 then "new" else if p=2 then "add" else if p=3 then "form" else if p=4 then "has" else if p=5 then "left" else if p=6 then "size" else if p=7 then "same" else if p=8 then "index"
 else if p=9 then "join" else if p=10 then "meet" else if p=11 then "across" else if p=12 then "fill" else if p=13 then "least" else if p=14 then "short" else "near"
def kindOf(p:Int):Str:=if p=2\/p=4\/p=5\/p=15 then "vector" else "lattice"
def c5(p:Int)(R:Option (List Int)):L2.V:=if R.isSome=true then .str (kindOf p) else .non
def TabOk(K:W.Frag)(aT:Addr):Prop:=∀(p:Int)(X:Option Int)(R:Option (List Int)),KindOk p X R->TabAt K aT p (nameOf p) X.isSome (c5 p R)
def nOf:TgCalls.State->Int
 | none=>0
 | some g=>(g.n:Int)
def hOf:TgCalls.State->List (List Int)
 | none=>[]
 | some g=>g.h
def di(C:Addr)(H:Hp)(T S:Addr)(s:TgCalls.State):Prop:=∃(dx r:Addr)(bs:List Addr),H S=some (.ins C dx (stF (nOf s) r))/\H r=some (.lst (bs.map V.ref))/\aL H bs (hOf s)/\r≠T/\∀b∈bs,b≠T
theorem di.upd{C T S:Addr}{H:Hp}{s:TgCalls.State}{o:HO}(h:di C H T S s)(hT:∃us,H T=some (.lst us)):di C (L2.upd H T o) T S s:=by
 obtain⟨dx,r,bs,h1,h2,h3,h4,h5⟩:=h
 obtain⟨us,hT⟩:=hT
 have nS:S≠T:=fun e=>by rw [e,hT] at h1; cases h1
 exact⟨dx,r,bs,by rw [aO nS]; exact h1,by rw [aO h4]; exact h2,h3.updN h5,h4,h5⟩
theorem di.keep{C T S:Addr}{H H':Hp}{s:TgCalls.State}(e:Same H H')(h:di C H T S s):di C H' T S s:=
 let ⟨dx,r,bs,h1,h2,h3,h4,h5⟩:=h; ⟨dx,r,bs,e _ _ h1,e _ _ h2,h3.keep e,h4,h5⟩
def dk:Nat:=20000
def spTo(C CC:Addr):Sp:=fun vs H Q _=>∃(S x T dx r:Addr)(fs:List (Str × L2.V))(us:List L2.V)(s:TgCalls.State)(p:Int)(X:Option Int)(R:Option (List Int))(aft:Int)(k:Nat),
 vs=[.ref S,.ref x]/\H T=some (.lst us)/\di C H T S s/\H x=some (.ins CC dx fs)/\CallF fs (nameOf p) (c5 p R) (X.getD 0) r aft/\aN H r (R.getD [])/\(R.getD []).length<=1000/\r≠T/\KindOk p X R/\Wl.Fair (callC p X R)/\Wl.fo k s/\k+Wl.costOf (callC p X R)<=7/\
 ∀(H':Hp)(q:Addr),But S H H'->di C H' T S (GridNeutral.step s (callC p X R)).1->H q=none->aN H' q (GridNeutral.step s (callC p X R)).2->(GridNeutral.step s (callC p X R)).2.length<=dk->Q (.ref q) H'
abbrev iU:Stmt:=aj "answers"
theorem iJ:FnScope ["calls","standing","told","place","call","answer"] ["calls"] (aC iU):=⟨rfl,rfl,rfl,by decide +kernel,rfl,by decide +kernel,by decide +kernel⟩
def spAns(K:W.Frag):Sp:=fun vs H Q _=>∃(a:Addr)(ns:List Int),vs=[.ref a]/\SqL K H a (ns.map V.int)/\PyYqtgda.answers_asked ns=true/\ns.length<=800/\∀(H':Hp)(p:Addr),H' p=some (.lst ((PyYqtgda.answers ns).map V.int))->Q (.ref p) H'
theorem sq_but{K:W.Frag}{x a C dx:Addr}{fs:List (Str × L2.V)}{H H':Hp}{xs:List L2.V}(hx:H x=some (.ins C dx fs))(b:But x H H')(h:SqL K H a xs):SqL K H' a xs:=
 But.sq b (fun ys e=>by rw [hx] at e; cases e) (fun u ys e=>by rw [hx] at e; cases e) h
theorem sq_ne{K:W.Frag}{T a:Addr}{o:HO}{H:Hp}{xs:List L2.V}(hn:a≠T)(h:SqL K H a xs):SqL K (upd H T o) a xs:=by
 rcases h with(h | ⟨u,h⟩) | h
 ·exact .inl (.inl (by rw [aO hn]; exact h))
 ·exact .inl (.inr ⟨u,by rw [aO hn]; exact h⟩)
 ·exact .inr h
theorem line_ans:280014+20001<sizeLine:=by decide
theorem ok_ans{f C CC aT fS fC fA:Addr}{fd fdS fdC fdA:FuncData}{kA:Nat}(F:Fun K "answers" "answers" iU f fd)(T:Txt K mg)(TS:TxtS K C)(TC:TxtC K CC)(tab:TabOk K aT)
  (MS:Mk K C fS) (GS:FnOk P w K mg base CX0 1 fS fdS ["self"] (spSI C)) (bS:Binds K fdS ["self"] []) (mS:mg "Standing"=some (.ref C))
  (MC:Mk K CC fC) (GC:FnOk P w K mg base CX0 1 fC fdC ["self","calls","place"] (spCI K CC aT)) (bC:Binds K fdC ["self","calls","place"] []) (mC:mg "Call"=some (.ref CC))
  (GA:FnOk P w K mg base CX0 kA fA fdA ["standing","call"] (spTo C CC)) (kkA:W.keepIn K (.ref fA)=true) (bA:Binds K fdA ["standing","call"] []) (mA:mg "answer_to"=some (.ref fA)) (hkA:2<=kA) :
  FnOk P w K mg base CX0 (kA+1) f fd ["calls"] (spAns K):=by
 refine F.ok iJ (fun vs H Q E h=>?_) (fun cdv A outer s H vs Q E hr h=>?_)
 ·obtain⟨a,ns,rfl,_⟩:=h
  rfl
 ·obtain⟨a,ns,rfl,ha,hask,hlen,k⟩:=h
  obtain⟨cs0,_,hA,hans⟩:=Wl.asked_of hask
  have hr2:Room 2 _:=hr.mono hkA
  refine⟨_,aF (aZ (i:=1) iJ.nd rfl (Or.inl rfl) (pe_make0 MS GS hr2 rfl mS bS .nil aS))
   (aF (aZ (i:=2) iJ.nd rfl (Or.inl rfl) (bJ aE))
   (aF (aZ (i:=3) iJ.nd rfl (Or.inl rfl) aQ)
   (aF (fc PassesOwn.never (ad jS (pv 3) (ag a8 (by rfl) T.len PySem.boot_len (aA (pv 0) aE)) (ao _))
    (aF (aZ (i:=4) iJ.nd rfl (Or.inl rfl) (pe_make MC GC hr2 rfl mC bC .nil aS (aA (pv 0) (aA (pv 3) aE))))
    (aF (aZ (i:=3) iJ.nd rfl (Or.inl rfl) (ae (pv 4) rfl))
    (aF (aZ (i:=5) iJ.nd rfl (Or.inl rfl) (aJ GA hr rfl mA kkA bA .nil aS (aA (pv 1) (aA (pv 4) aE))))
    (aF (e7 (iM PySem.F.plainAttrs_list PySem.F.slot_list_append PySem.F.type_list_append fz (pv 2) (aA (ag a8 (by rfl) T.len PySem.boot_len (aA (pv 5) aE)) aE)))
    (aK (e7 (iM PySem.F.plainAttrs_list PySem.F.slot_list_extend PySem.F.type_list_extend mt_extend (pv 2) (aA (pv 5) aE)))))))))
   (aK (aV (pv 2)))))),?_⟩
  intro S dS nS ndS neS
  refine⟨S,dS,rfl,aB,fun H1 r0 h1 h2 h3 h4=>⟨rfl,?_⟩⟩
  have ha1:SqL K (upd (upd H dS (.own S)) S (.ins C dS [])) a (ns.map V.int):=((Same.new ndS).trans (Same.new (by rw [aO neS.symm]; exact nS))).seq ha
  have ha2:SqL K H1 a (ns.map V.int):=sq_but aB h4 ha1
  refine⟨Nat.zero_le _,fun TT hTT=>?_⟩
  have s2:Same H1 (upd H1 TT (.lst [])):=Same.new hTT
  have nr0:r0≠TT:=aP h2 hTT
  have hKa:a≠TT\/∀Hx:Hp,SqL K Hx a (ns.map V.int):=by
   rcases ha2 with(h | ⟨o,h⟩) | h
   ·exact .inl (aP h hTT)
   ·exact .inl (aP h hTT)
   ·exact .inr fun Hx=>.inr h
  refine⟨fun m σ H'=>∃(pl:Nat)(cs:List (List (List Int)))(t:List Int)(us:List Int)(st:TgCalls.State)(kc:Nat)(v4 v5:Option L2.V),σ=[some (.ref a),some (.ref S),some (.ref TT),some (.int pl),v4,v5]/\m=cs.length/\
    SqL K H' a (ns.map V.int)/\di C H' TT S st/\aN H' TT us/\pl<=ns.length/\ns.drop pl=t/\Wl.Reads t cs/\(∀c∈cs,Wl.Fair c)/\Wl.fo kc st/\kc+Wl.gK cs<=7/\us.length+20001*cs.length<=280014/\
    us++PyFlat.told (PyFlat.played GridNeutral.step st cs)=PyYqtgda.answers ns,⟨_,0,cs0,ns,[],TgCalls.start,0,none,none,rfl,rfl,s2.seq ha2,⟨dS,r0,[],s2 _ _ h1,s2 _ _ h2,trivial,nr0,by simp⟩,aB,Nat.zero_le _,rfl,hA.reads,hA.fair,Wl.fo.start,by have:=hA.cost; omega,by have:=hA.few; simp; omega,hans.symm⟩,?_⟩
  rintro m σ H' ⟨pl,cs,t,us,st,kc,v4,v5,rfl,rfl,hsq,hst,hus,hpl,hdr,hrd,hfair,hg,hcost,hful,heq⟩
  refine⟨_,rfl,_,rfl,a,_,rfl,.inl hsq,_,_,rfl,rfl,_,rfl,?_⟩
  have hnl:(ns.map V.int).length=ns.length:=List.length_map _
  dsimp only
  cases hrd':cs with
  | nil=>
    subst hrd'
    have ht:t=[]:=by cases hrd; rfl
    have hple:ns.length<=pl:=by
     rw [ht] at hdr
     exact List.drop_eq_nil_iff.1 hdr
    rw [if_neg (by rw [hnl]; simp; omega)]
    refine⟨_,rfl,?_⟩
    refine k H' TT ?_
    have:us=PyYqtgda.answers ns:=by
     rw [<- heq]
     show us=us++[]
     simp
    rw [<- this]; exact hus
  | cons c cs'=>
    subst hrd'
    obtain⟨p,X,R,t',ht,rfl,hrd2,hk⟩:=reads_head hrd
    have hpl2:pl<ns.length:=by
     rcases Nat.lt_or_ge pl ns.length with h | h
     ·exact h
     ·rw [List.drop_of_length_le h] at hdr; rw [<- hdr] at ht; cases ht
    rw [if_pos (by rw [hnl]; simp; omega)]
    have hF:=hfair _ List.mem_cons_self
    have ec:Wl.gK (callC p X R::cs')=Wl.costOf (callC p X R)+Wl.gK cs':=by simp [Wl.gK]
    refine⟨fun σ' H''=>∃(pl':Nat)(us':List Int)(v4' v5':Option L2.V),σ'=[some (.ref a),some (.ref S),some (.ref TT),some (.int pl'),v4',v5']/\SqL K H'' a (ns.map V.int)/\di C H'' TT S (GridNeutral.step st (callC p X R)).1/\aN H'' TT us'/\pl'<=ns.length/\ns.drop pl'=t'/\
      us'=us++(((GridNeutral.step st (callC p X R)).2.length:Int)::(GridNeutral.step st (callC p X R)).2)/\(GridNeutral.step st (callC p X R)).2.length<=dk,?_,?_⟩
    ·rintro σ' H'' ⟨pl',us',v4',v5',rfl,q1,q2,q3,q4,q5,rfl,q7⟩
     refine⟨cs'.length,by simp,pl',cs',t',_,_,kc+Wl.costOf (callC p X R),v4',v5',rfl,rfl,q1,q2,q3,q4,q5,hrd2,fun c hc=>hfair c (List.mem_cons_of_mem _ hc),hg.turn hF,by omega,?_,?_⟩
     ·unfold dk at q7
      simp at hful ⊢
      omega
     ·rw [<- heq,Wl.played_cons,List.append_assoc]
    ·
     refine⟨_,rfl,_,rfl,?_⟩
     intro x dx nx ndx nex
     have sx:Same H' (upd (upd H' dx (.own x)) x (.ins CC dx [])):=(Same.new ndx).trans (Same.new (by rw [aO nex.symm]; exact nx))
     refine⟨x,a,dx,pl,ns,t',p,nameOf p,kindOf p,X,R,rfl,aB,sx.seq hsq,by omega,by rw [hdr]; exact ht,tab p X R hk,fun H3 fs r e1 e2 e3 e4 e5=>⟨rfl,?_⟩⟩
     have s3:Same H' H3:=fun b o e=>e5 b o (sx b o e) (aP e nx)
     have ply:pl+1+(part X R).length<=ns.length:=by
      have:=congrArg List.length (hdr.trans ht)
      simp at this
      omega
     have hrl:(R.getD []).length<=1000:=by
      have:(R.getD []).length<=(part X R).length:=by
       cases R <;> simp [part] <;> omega
      omega
     have rT:r≠TT:=fun e=>by rw [e] at e4; rw [sx _ _ hus] at e4; cases e4
     refine⟨_,rfl,x,CC,dx,fs,_,rfl,e1,TC.cl,TC.nA,e2.after,?_⟩
     refine⟨_,rfl,_,rfl,S,x,TT,dx,r,fs,_,st,p,X,R,_,kc,rfl,s3 _ _ hus,hst.keep s3,e1,e2,e3,hrl,rT,hk,hF,hg,by omega,fun H4 q b4 st4 fq hq lq=>?_⟩
     obtain⟨dx0,rr0,bs0,hS3,_⟩:=hst.keep s3
     have nST:TT≠S:=fun e=>by rw [<- e] at hS3; rw [s3 _ _ hus] at hS3; cases hS3
     have hus4:aN H4 TT us:=b4 _ _ (s3 _ _ hus) nST
     have nqT:q≠TT:=fun e=>by rw [e] at fq; rw [s3 _ _ hus] at fq; cases fq
     have hsq4:SqL K H4 a (ns.map V.int):=sq_but hS3 b4 (s3.seq hsq)
     have hl20:us.length<=280014:=by omega
     have hln:=line_ans
     refine⟨_,rfl,.inl ⟨rfl,_,SqL.of hus4⟩,_,rfl,q,_,rfl,.inl (SqL.of hq),TT,_,_,rfl,rfl,hus4,by rw [List.length_map]; omega,?_⟩
     have hT5:(upd H4 TT (.lst (us.map V.int++[V.int (((GridNeutral.step st (callC p X R)).2.map V.int).length:Int)]))) TT=some (.lst (us.map V.int++[V.int (((GridNeutral.step st (callC p X R)).2.map V.int).length:Int)])):=aB
     have hq5:aN (upd H4 TT (.lst (us.map V.int++[V.int (((GridNeutral.step st (callC p X R)).2.map V.int).length:Int)]))) q (GridNeutral.step st (callC p X R)).2:=by
      unfold aN; rw [aO nqT]; exact hq
     refine⟨_,rfl,.inl ⟨rfl,_,SqL.of hT5⟩,_,rfl,TT,q,_,_,rfl,rfl,hT5,hq5,?_,?_⟩
     ·unfold dk at lq
      simp only [List.length_append,List.length_map,List.length_cons,List.length_nil]
      omega
     ·have st5:=st4.upd (o:=.lst (us.map V.int++[V.int (((GridNeutral.step st (callC p X R)).2.map V.int).length:Int)])) ⟨_,hus4⟩
      have st6:=st5.upd (o:=.lst (us.map V.int++[V.int (((GridNeutral.step st (callC p X R)).2.map V.int).length:Int)]++(GridNeutral.step st (callC p X R)).2.map V.int)) ⟨_,hT5⟩
      refine⟨pl+1+(part X R).length,_,_,_,rfl,?_,st6,?_,ply,?_,rfl,lq⟩
      ·rcases hKa with h | h
       ·exact sq_ne h (sq_ne h hsq4)
       ·exact h _
      ·unfold aN
       rw [aB,List.map_append,List.map_cons,List.length_map,List.append_assoc]
       rfl
      ·have e:pl+1+(part X R).length=pl+(1+(part X R).length):=by omega
       rw [e,drop_at (hdr.trans ht)]
       rw [Nat.add_comm 1,List.drop_succ_cons,List.drop_left]
structure TxtN(mg:Str->Option Value):Prop where
 places:∃t,mg "MOST_PLACES"=some (.int 3 t)
 vectors:∃t,mg "MOST_VECTORS"=some (.int 12 t)
 noL:∃t,mg "NO_LATTICE"=some (.int (-9) t)
 bad:∃t,mg "BAD_HANDED"=some (.int (-1) t)
 notIn:∃t,mg "NOT_IN_IT"=some (.int (-2) t)
abbrev i6:Stmt:=aj "fits"
theorem scFits:FnScope ["call","n"] ["call","n"] (aC i6):=⟨rfl,rfl,rfl,by decide +kernel,rfl,by decide +kernel,by decide +kernel⟩
def df(kd:L2.V)(l:List Int)(n:Nat):Bool:=if kd=.str "vector" then decide (l.length=n) else decide (l.length%n=0) && decide (l.length<=12*n)
def spFits(CC:Addr):Sp:=fun vs H Q _=>∃(x dx r:Addr)(fs:List (Str × L2.V))(nm:Str)(kd:L2.V)(num aft:Int)(l:List Int)(n:Nat),vs=[.ref x,.int n]/\H x=some (.ins CC dx fs)/\CallF fs nm kd num r aft/\(kd=.non\/∃k,kd=.str k)/\aN H r l/\l.length<=1000/\1<=n/\n<=3/\Q (.bl (df kd l n)) H
theorem ok_fits{f CC:Addr}{fd:FuncData}(F:Fun K "fits" "fits" i6 f fd)(T:Txt K mg)(TN:TxtN mg)(TC:TxtC K CC):FnOk P w K mg base CX0 1 f fd ["call","n"] (spFits CC):=by
 refine F.ok scFits (fun vs H Q E h=>?_) (fun cdv A outer s H vs Q E hr h=>?_)
 ·obtain⟨x,dx,r,fs,nm,kd,num,aft,l,n,rfl,_⟩:=h
  rfl
 ·obtain⟨x,dx,r,fs,nm,kd,num,aft,l,n,rfl,hx,CF,hkd,hl,hlen,hn1,hn3,k⟩:=h
  obtain⟨tv,hv⟩:=TN.vectors
  refine⟨_,aF (cC (ad cV (ae (pv 0) rfl) cy (ao _)) (aK (aV (pe_cmpR cV (ag a8 (by rfl) T.len PySem.boot_len (aA (ae (pv 0) rfl) aE)) (pv 1) (ao _)))) bE)
   (aK (aV (pe_and (pe_cmpR cV (af op_mod (ag a8 (by rfl) T.len PySem.boot_len (aA (ae (pv 0) rfl) aE)) (pv 1)) aQ (ao _))
    (pe_one (pe_cmpR jT (ag a8 (by rfl) T.len PySem.boot_len (aA (ae (pv 0) rfl) aE)) (af ci (cw rfl hv (v:=.int 12) ⟨_,rfl⟩) (pv 1)) (ao _)))))),?_⟩
  have hll:(l.map V.int).length=l.length:=List.length_map _
  have sc:scal kd (.str "vector")=true:=by
   rcases hkd with e | ⟨k,e⟩ <;> subst e <;> rfl
  refine⟨_,rfl,x,CC,dx,fs,_,rfl,hx,TC.cl,TC.nK,CF.kind,sc,_,rfl,?_⟩
  dsimp only
  by_cases hk:kd=.str "vector"
  ·rw [if_pos (by simpa using hk)]
   refine⟨_,rfl,x,CC,dx,fs,_,rfl,hx,TC.cl,TC.nR,CF.row,r,_,rfl,.inl (SqL.of hl),_,rfl,rfl,?_⟩
   have e:decide (V.int ((l.map V.int).length:Int)=V.int (n:Int))=df kd l n:=by
    unfold df
    rw [if_pos hk,hll,Bool.eq_iff_iff]
    simp
    omega
   rw [e]; exact k
  ·rw [if_neg (by simpa using hk)]
   refine⟨_,rfl,x,CC,dx,fs,_,rfl,hx,TC.cl,TC.nR,CF.row,r,_,rfl,.inl (SqL.of hl),_,rfl,_,_,rfl,rfl,(by show(0:Int)<n; omega),rfl,_,rfl,?_⟩
   have em:((l.map V.int).length:Int)%(n:Int)=((l.length%n:Nat):Int):=by rw [hll]; simp
   by_cases h0:l.length%n=0
   ·rw [if_pos (decide_eq_true (show V.int (((l.map V.int).length:Int)%(n:Int))=V.int 0 by rw [em,h0]; rfl))]
    refine⟨_,rfl,x,CC,dx,fs,_,rfl,hx,TC.cl,TC.nR,CF.row,r,_,rfl,.inl (SqL.of hl),_,rfl,_,_,rfl,rfl,cu (m:=4) (n:=4) (by decide) (by simp; omega) (by decide),_,_,rfl,rfl,?_⟩
    have e:decide (((l.map V.int).length:Int)<=12*(n:Int))=df kd l n:=by
     unfold df
     rw [if_neg hk,hll,h0,Bool.eq_iff_iff]
     simp
     omega
    show Q (.bl (decide (((l.map V.int).length:Int)<=12*(n:Int)))) H
    rw [e]; exact k
   ·rw [if_neg (fun e=>by
     have e:V.int (((l.map V.int).length:Int)%(n:Int))=V.int 0:=of_decide_eq_true e
     injection e with e
     rw [em] at e
     omega)]
    have e:df kd l n=false:=by
     unfold df
     rw [if_neg hk]; simp [h0]
    rw [e] at k; exact k
def dh(C T S:Addr)(H:Hp)(s:TgCalls.State)(c:List (List Int))(Q:VK):Prop:=
 ∀(H':Hp)(q:Addr),But S H H'->di C H' T S (GridNeutral.step s c).1->H q=none->aN H' q (GridNeutral.step s c).2->(GridNeutral.step s c).2.length<=dk->Q (.ref q) H'
theorem But.of_same{S:Addr}{H H':Hp}(h:Same H H'):But S H H':=fun b o e _=>h b o e
theorem dh.plain{C T S:Addr}{H H':Hp}{s:TgCalls.State}{c:List (List Int)}{Q:VK}{q:Addr}{ans:List Int}(h:dh C T S H s c Q)(e:GridNeutral.step s c=(s,ans))(st:di C H T S s)(sm:Same H H')(hq:H q=none)(hv:aN H' q ans)(hl:ans.length<=dk):Q (.ref q) H':=
 h H' q (But.of_same sm) (by rw [e]; exact st.keep sm) hq (by rw [e]; exact hv) (by rw [e]; exact hl)
theorem eW{H:Hp}{q:Addr}{z:Int}:aN (upd H q (.lst [V.int z])) q [z]:=aB
theorem step_fresh{s:TgCalls.State}{n:Int}{l:List Int}(hn:0<=n):GridNeutral.step s [[1,n],l]=match TgCalls.vecsOf n.toNat l with
  | none=>(s,[-1])
  | some x=>(some ⟨n.toNat,Tg.form n.toNat x⟩,[0,((Tg.form n.toNat x).length:Int)]):=by
 have e:GridNeutral.callOf [[1,n],l]=some (.fresh n.toNat l):=by
  show(GridNeutral.nat n).bind _=_
  unfold GridNeutral.nat
  rw [if_neg (by omega)]
  rfl
 unfold GridNeutral.step
 rw [e]
 show((TgCalls.step s (.fresh n.toNat l)).1,GridNeutral.told (TgCalls.step s (.fresh n.toNat l)).2)=_
 show((match TgCalls.vecsOf n.toNat l with | none=>(s,TgCalls.no (-1)) | some x=>(some ⟨n.toNat,Tg.form n.toNat x⟩,TgCalls.rankOf ⟨n.toNat,Tg.form n.toNat x⟩):TgCalls.State × TgCalls.Answer).1,GridNeutral.told (match TgCalls.vecsOf n.toNat l with | none=>(s,TgCalls.no (-1)) | some x=>(some ⟨n.toNat,Tg.form n.toNat x⟩,TgCalls.rankOf ⟨n.toNat,Tg.form n.toNat x⟩):TgCalls.State × TgCalls.Answer).2)=_
 split <;> rfl
abbrev sNew:Stmt:=aj "answer_new"
theorem scNew:FnScope ["standing","call","n"] ["standing","call"] (aC sNew):=⟨rfl,rfl,rfl,by decide +kernel,rfl,by decide +kernel,by decide +kernel⟩
def spNew(C CC:Addr):Sp:=fun vs H Q _=>∃(S x T dx r:Addr)(fs:List (Str × L2.V))(us:List L2.V)(s:TgCalls.State)(nm:Str)(n aft:Int)(l:List Int),vs=[.ref S,.ref x]/\H T=some (.lst us)/\di C H T S s/\H x=some (.ins CC dx fs)/\CallF fs nm (.str "lattice") n r aft/\aN H r l/\0<=n/\l.length<=1000/\GridNeutral.upTo 9 l=true/\dh C T S H s [[1,n],l] Q
theorem aL.but{S:Addr}{H H':Hp}{bs:List Addr}{rs:List (List Int)}{C dx:Addr}{fs:List (Str × L2.V)}(hS:H S=some (.ins C dx fs))(b:But S H H')(h:aL H bs rs):aL H' bs rs:=
 h.same fun c hc o e=>b c o e fun ec=>by
  obtain⟨r,_,hv⟩:=h.mem hc
  rw [ec] at hv
  unfold aN at hv
  rw [hS] at hv; cases hv
theorem ok_new{f C CC fF fR fT:Addr}{fd fdF fdR fdT:FuncData}(F:Fun K "answer_new" "answer_new" sNew f fd)(TN:TxtN mg)(TC:TxtC K CC)
  (GF:FnOk P w K mg base CX0 1 fF fdF ["call","n"] (spFits CC)) (kF:W.keepIn K (.ref fF)=true) (bF:Binds K fdF ["call","n"] []) (mF:mg "fits"=some (.ref fF))
  (GR:FnOk P w K mg base CX0 45 fR fdR ["row","n"] spFor) (kR:W.keepIn K (.ref fR)=true) (bR:Binds K fdR ["row","n"] []) (mR:mg "form_of_row"=some (.ref fR))
  (GT:FnOk P w K mg base CX0 1 fT fdT ["standing","n","rows"] (fw C)) (kT:W.keepIn K (.ref fT)=true) (bT:Binds K fdT ["standing","n","rows"] []) (mT:mg "stand"=some (.ref fT)) :
  FnOk P w K mg base CX0 46 f fd ["standing","call"] (spNew C CC):=by
 refine F.ok scNew (fun vs H Q E h=>?_) (fun cdv A outer s H vs Q E hr h=>?_)
 ·obtain⟨S,x,T,dx,r,fs,us,s,nm,n,aft,l,rfl,_⟩:=h
  rfl
 ·obtain⟨S,x,T,dx,r,fs,us,st,nm,n,aft,l,rfl,hT,hst,hx,CF,hl,hn0,hlen,hup,k⟩:=h
  have hr1:Room 1 _:=hr.mono (by decide)
  obtain⟨t1,hv1⟩:=TN.places
  obtain⟨t2,hv2⟩:=TN.bad
  refine⟨_,aF (aZ (i:=2) scNew.nd rfl (Or.inl rfl) (ae (pv 1) rfl))
   (aF (cC (PW.pt (pw_or (ad jS (pv 2) aQ (ao _)) (pw_or (ad jU (pv 2) (cw rfl hv1 (v:=.int 3) ⟨_,rfl⟩) (ao _))
     (pw_or1 (pt_not (gg (aJ GF hr1 rfl mF kF bF .nil aS (aA (pv 1) (aA (pv 2) aE)))))))))
    (aK (aV (bJ (aA (cw rfl hv2 (v:=.int (-1)) ⟨_,rfl⟩) aE)))) bE)
   (aK (aV (aJ GT hr1 rfl mT kT bT .nil aS (aA (pv 0) (aA (pv 2) (aA (aJ GR hr rfl mR kR bR .nil aS (aA (ae (pv 1) rfl) (aA (pv 2) aE))) aE))))))),?_⟩
  refine⟨_,rfl,x,CC,dx,fs,_,rfl,hx,TC.cl,TC.nU,CF.number,?_⟩
  have bad:TgCalls.vecsOf n.toNat l=none->∀(q:Addr),H q=none->Q (.ref q) (upd H q (.lst [V.int (-1)])):=fun hv q hq=>
   k.plain (ans:=[-1]) (by rw [step_fresh hn0,hv]) hst (Same.new hq) hq eW (by unfold dk; decide)
  refine⟨_,rfl,_,_,rfl,rfl,_,rfl,?_⟩
  dsimp only
  by_cases h1:n<1
  ·rw [if_pos (by simpa using h1)]
   rw [if_pos rfl]
   exact⟨by show 1<=sizeLine; decide,fun q hq=>bad (Wl.eV (by omega) l) q hq⟩
  ·rw [if_neg (by simpa using h1)]
   refine⟨_,rfl,_,_,rfl,rfl,_,rfl,?_⟩
   dsimp only
   by_cases h3:3<n
   ·rw [if_pos (by simpa using h3)]
    rw [if_pos rfl]
    exact⟨by show 1<=sizeLine; decide,fun q hq=>bad (Wl.eV (by omega) l) q hq⟩
   ·rw [if_neg (by simpa using h3)]
    obtain⟨m,rfl⟩:∃m:Nat,n=(m:Int):=⟨n.toNat,by omega⟩
    have hm1:1<=m:=by omega
    have hm3:m<=3:=by omega
    have hve:=Wl.vecsOf_eq hm1 hm3 l
    refine⟨_,rfl,_,rfl,x,dx,r,fs,nm,_,_,aft,l,m,rfl,hx,CF,.inr ⟨_,rfl⟩,hl,hlen,hm1,hm3,_,rfl,?_⟩
    dsimp only
    have ef:df (.str "lattice") l m=decide (l.length%m=0/\l.length<=12*m):=by
     unfold df
     rw [if_neg (by decide),Bool.eq_iff_iff]
     simp
    by_cases hf:l.length%m=0/\l.length<=12*m
    ·rw [if_neg (by rw [ef]; simp; exact hf)]
     rw [if_pos hf] at hve
     refine⟨_,rfl,_,rfl,_,rfl,x,CC,dx,fs,_,rfl,hx,TC.cl,TC.nR,CF.row,_,rfl,?_⟩
     refine⟨r,m,4,l,rfl,hl,hm1,hm3,hf.1,hf.2,Wl.d8 (b:=4) (by decide) hup,by decide,fun H2 rr bs s2 h2 hbs hrf hbf=>?_⟩
     obtain⟨dS,r0,bs0,hS,_⟩:=hst
     refine⟨S,dS,rr,r0,_,_,bs,rfl,s2 _ _ hS,h2,fun H3 q b3 hS3 hq hqv=>?_⟩
     have est:GridNeutral.step st [[1,(m:Int)],l]=(some ⟨m,Tg.form m (Wl.ca m (l.length/m) l)⟩,[0,((Tg.form m (Wl.ca m (l.length/m) l)).length:Int)]):=by
      rw [step_fresh hn0,Int.toNat_natCast,hve]
     have nrT:rr≠T:=fun e=>by rw [e,hT] at hrf; cases hrf
     have nrS:rr≠S:=fun e=>by rw [e,hS] at hrf; cases hrf
     refine k H3 q ?_ ?_ (s2.free hq) ?_ ?_
     ·intro b o e hb
      exact b3 _ _ (s2 _ _ e) hb
     ·rw [est]
      refine⟨dS,rr,bs,hS3,b3 _ _ h2 nrS,aL.but (s2 _ _ hS) b3 hbs,nrT,fun b hb e=>?_⟩
      have:=hbf b hb
      rw [e,hT] at this; cases this
     ·rw [est,<- hbs.len]; exact hqv
     ·rw [est]; show 2<=dk; decide
    ·rw [if_pos (by rw [ef,decide_eq_false hf]; rfl)]
     rw [if_neg hf] at hve
     exact⟨by show 1<=sizeLine; decide,fun q hq=>bad hve q hq⟩
def ik(g:List (List Int))(v:List Int):List Int:=if Tg.has g v=true then 0::((Tg.divided g v).1.length:Int)::(Tg.divided g v).1 else [-2]
def iP(g h:List (List Int)):List Int:=if (h.all (Tg.has g))=false then [-2] else if h.length=g.length then [0,Tg.index g h] else [0,0]
def iO(n:Nat)(g:List (List Int)):List Int:=match Tg.least n g with
 | some x=>[0,x]
 | none=>[-2]
def i9(l:List Int):List Int:=0::(l.length:Int)::l
def iA(g:List (List Int))(p:List Int):List Int:=0::(Tg.near g p).1::((Tg.near g p).2.length:Int)::((TgCalls.flat (Tg.near g p).2).length:Int)::TgCalls.flat (Tg.near g p).2
theorem fk{n:Nat}:∀{h:List (List Int)},Wl.Len n h->(TgCalls.flat h).length=h.length*n
 | [],_=>by simp [TgCalls.flat]
 | r::h,L=>by
   have ih:=fk L.tail
   have e:TgCalls.flat (r::h)=r++TgCalls.flat h:=by simp [TgCalls.flat]
   rw [e,List.length_append,ih,L.head,List.length_cons]
   grind
theorem step_form{g:TgCalls.Grid}:GridNeutral.step (some g) [[3]]=(some g,i9 (TgCalls.flat g.h)):=rfl
theorem step_size{g:TgCalls.Grid}:GridNeutral.step (some g) [[6]]=(some g,[0,Tg.sizeOf g.h]):=rfl
theorem step_across{g:TgCalls.Grid}:GridNeutral.step (some g) [[11]]=(some ⟨g.n,Tg.across g.n g.h⟩,[0,((Tg.across g.n g.h).length:Int)]):=rfl
theorem step_fill{g:TgCalls.Grid}:GridNeutral.step (some g) [[12]]=(some ⟨g.n,Tg.fill g.n g.h⟩,[0,((Tg.fill g.n g.h).length:Int)]):=rfl
theorem step_least{g:TgCalls.Grid}:GridNeutral.step (some g) [[13]]=(some g,iO g.n g.h):=by
 show(some g,GridNeutral.told (match Tg.least g.n g.h with | some x=>.nums [x] | none=>TgCalls.no (-2)))=_
 unfold iO
 split <;> rfl
theorem step_short{g:TgCalls.Grid}{b:Int}(hb:0<=b)(hl:(Tg.short g.n g.h b).length<=4096):GridNeutral.step (some g) [[14,b]]=(some g,i9 (TgCalls.flat (Tg.short g.n g.h b))):=by
 have e:GridNeutral.callOf [[14,b]]=some (.short b.toNat):=by
  show(GridNeutral.nat b).bind _=_
  unfold GridNeutral.nat
  rw [if_neg (by omega)]
  rfl
 have eb:((b.toNat:Nat):Int)=b:=Int.toNat_of_nonneg hb
 unfold GridNeutral.step
 rw [e]
 show(some g,GridNeutral.told (if TgCalls.LISTED<(Tg.short g.n g.h (b.toNat:Int)).length then TgCalls.no (-6) else .row (TgCalls.flat (Tg.short g.n g.h (b.toNat:Int)))))=_
 rw [eb,if_neg (by unfold TgCalls.LISTED; omega)]
 rfl
theorem step_add{g:TgCalls.Grid}{v:List Int}(hv:v.length=g.n):GridNeutral.step (some g) [[2],v]=(some ⟨g.n,Tg.form g.n (g.h++[v])⟩,[0,((Tg.form g.n (g.h++[v])).length:Int)]):=by
 show(some (TgCalls.act g (.add v)).1,GridNeutral.told (TgCalls.act g (.add v)).2)=_
 have e:TgCalls.act g (.add v)=(⟨g.n,Tg.form g.n (g.h++[v])⟩,TgCalls.rankOf ⟨g.n,Tg.form g.n (g.h++[v])⟩):=by
  show(if v.length=g.n then _ else _)=_
  rw [if_pos hv]
 rw [e]; rfl
theorem step_has{g:TgCalls.Grid}{v:List Int}(hv:v.length=g.n):GridNeutral.step (some g) [[4],v]=(some g,if Tg.has g.h v=true then 0::((Tg.divided g.h v).1.length:Int)::(Tg.divided g.h v).1 else [-2]):=by
 show(some (TgCalls.act g (.has v)).1,GridNeutral.told (TgCalls.act g (.has v)).2)=_
 have e:TgCalls.act g (.has v)=(g,if Tg.has g.h v=true then .row (Tg.divided g.h v).1 else TgCalls.no (-2)):=by
  show(g,if v.length=g.n then _ else _)=_
  rw [if_pos hv]
 rw [e]
 split <;> rfl
theorem step_left{g:TgCalls.Grid}{v:List Int}(hv:v.length=g.n):GridNeutral.step (some g) [[5],v]=(some g,0::((Tg.divided g.h v).2.length:Int)::(Tg.divided g.h v).2):=by
 show(some (TgCalls.act g (.left v)).1,GridNeutral.told (TgCalls.act g (.left v)).2)=_
 have e:TgCalls.act g (.left v)=(g,.row (Tg.leftOf g.h v)):=by
  show(g,if v.length=g.n then _ else _)=_
  rw [if_pos hv]
 rw [e]; rfl
theorem step_same{g:TgCalls.Grid}{l:List Int}{x:List (List Int)}(h:TgCalls.vecsOf g.n l=some x):GridNeutral.step (some g) [[7],l]=(some g,[0,if Tg.form g.n x=g.h then 1 else 0]):=by
 show(some (TgCalls.act g (.same l)).1,GridNeutral.told (TgCalls.act g (.same l)).2)=_
 have e:TgCalls.act g (.same l)=(g,.nums [if Tg.form g.n x=g.h then 1 else 0]):=by
  show(g,match TgCalls.vecsOf g.n l with | none=>TgCalls.no (-1) | some x=>_)=_
  rw [h]
 rw [e]; rfl
theorem step_index{g:TgCalls.Grid}{l:List Int}{x:List (List Int)}(h:TgCalls.vecsOf g.n l=some x):GridNeutral.step (some g) [[8],l]=(some g,if ((Tg.form g.n x).all (Tg.has g.h))=false then [-2] else if (Tg.form g.n x).length=g.h.length then [0,Tg.index g.h (Tg.form g.n x)] else [0,0]):=by
 show(some (TgCalls.act g (.index l)).1,GridNeutral.told (TgCalls.act g (.index l)).2)=_
 have e:TgCalls.act g (.index l)=(g,if ((Tg.form g.n x).all (Tg.has g.h))=false then TgCalls.no (-2) else if (Tg.form g.n x).length=g.h.length then .nums [Tg.index g.h (Tg.form g.n x)] else .nums [0]):=by
  show(g,match TgCalls.vecsOf g.n l with | none=>TgCalls.no (-1) | some x=>_)=_
  rw [h]
 rw [e]
 split
 ·rfl
 ·split <;> rfl
theorem fresh_bd{n:Nat}{l:List Int}{x:List (List Int)}(h:TgCalls.vecsOf n l=some x)(hs:GridNeutral.upTo 9 l=true):Wl.Bds 4489 (Tg.form n x):=
 (Wl.Good.fresh (k:=0) h hs).bd (by decide)
theorem step_near{g:TgCalls.Grid}{v:List Int}(hv:v.length=g.n):GridNeutral.step (some g) [[15],v]=(some g,iA g.h v):=by
 show(some (TgCalls.act g (.near v)).1,GridNeutral.told (TgCalls.act g (.near v)).2)=_
 have e:TgCalls.act g (.near v)=(g,.near (Tg.near g.h v).1 (Tg.near g.h v).2.length (TgCalls.flat (Tg.near g.h v).2)):=by
  show(g,if v.length=g.n then _ else _)=_
  rw [if_pos hv]
 rw [e]; rfl
theorem step_join{g:TgCalls.Grid}{l:List Int}{x:List (List Int)}(h:TgCalls.vecsOf g.n l=some x)(hn1:1<=g.n)(hn3:g.n<=3)(hg:Wl.Len g.n g.h):GridNeutral.step (some g) [[9],l]=(some ⟨g.n,Tg.form g.n (g.h++Tg.form g.n x)⟩,[0,((Tg.form g.n (g.h++Tg.form g.n x)).length:Int)]):=by
 have Lx:=Wl.eJ hn1 hn3 h
 have ef:Tg.form g.n (g.h++Tg.form g.n x)=Tg.join g.n g.h x:=
  Wl.form_congr (hg.append (Wl.bu Lx).len) (hg.append Lx) (Wl.Same.append hg hg (Wl.bu Lx).len Lx Wl.Same.refl (Wl.dE Lx))
 rw [ef]
 show(some (TgCalls.act g (.join l)).1,GridNeutral.told (TgCalls.act g (.join l)).2)=_
 have e:TgCalls.act g (.join l)=(⟨g.n,Tg.join g.n g.h x⟩,TgCalls.rankOf ⟨g.n,Tg.join g.n g.h x⟩):=by
  show(match TgCalls.vecsOf g.n l with | none=>(g,TgCalls.no (-1)) | some x=>_)=_
  rw [h]
 rw [e]; rfl
theorem step_meet{g:TgCalls.Grid}{l:List Int}{x:List (List Int)}(h:TgCalls.vecsOf g.n l=some x):GridNeutral.step (some g) [[10],l]=(some ⟨g.n,Tg.meet g.n g.h (Tg.form g.n x)⟩,[0,((Tg.meet g.n g.h (Tg.form g.n x)).length:Int)]):=by
 show(some (TgCalls.act g (.meet l)).1,GridNeutral.told (TgCalls.act g (.meet l)).2)=_
 have e:TgCalls.act g (.meet l)=(⟨g.n,Tg.meet g.n g.h (Tg.form g.n x)⟩,TgCalls.rankOf ⟨g.n,Tg.meet g.n g.h (Tg.form g.n x)⟩):=by
  show(match TgCalls.vecsOf g.n l with | none=>(g,TgCalls.no (-1)) | some x=>_)=_
  rw [h]
 rw [e]; rfl
theorem upTo_cons{m a:Int}{v:List Int}(h:GridNeutral.upTo m (a::v)=true):(-m<=a/\a<=m)/\GridNeutral.upTo m v=true:=by
 unfold GridNeutral.upTo at h
 rw [List.all_cons,Bool.and_eq_true,Bool.and_eq_true] at h
 exact⟨⟨of_decide_eq_true h.1.1,of_decide_eq_true h.1.2⟩,h.2⟩
theorem upTo_more{v:List Int}(h:GridNeutral.upTo 9 v=true):GridNeutral.upTo 40 v=true:=by
 induction v with
 | nil=>rfl
 | cons a v ih=>
   obtain⟨h1,h2⟩:=upTo_cons h
   have:=ih h2
   unfold GridNeutral.upTo at this ⊢
   rw [List.all_cons,this,Bool.and_true,Bool.and_eq_true]
   exact⟨decide_eq_true (by omega),decide_eq_true (by omega)⟩
theorem dot_upTo:∀{v:List Int},GridNeutral.upTo 40 v=true->Tg.dot v v<=1600*(v.length:Int)
 | [],_=>by rw [Wl.dH]; decide
 | a::v,h=>by
   obtain⟨h1,h2⟩:=upTo_cons h
   have ih:=dot_upTo h2
   rw [Wl.b9,List.length_cons]
   have:a*a<=1600:=by
    rcases Int.le_total 0 a with q | q
    ·exact Int.mul_le_mul (show a<=40 by omega) (show a<=40 by omega) q (by decide)
    ·have:=Int.mul_le_mul (show -a<=40 by omega) (show -a<=40 by omega) (show 0<=-a by omega) (by decide)
     have e:-a* -a=a*a:=by grind
     omega
   push_cast
   omega
theorem bd_upTo{v:List Int}(h:GridNeutral.upTo 40 v=true):Wl.Bd 6 v:=Wl.small_bd (Wl.d8 (b:=6) (by decide) h)
theorem step_none{c:List (List Int)}{x:TgCalls.Call}(hc:GridNeutral.callOf c=some x)(hx:∀n l,x≠.fresh n l):GridNeutral.step none c=(none,[-9]):=by
 unfold GridNeutral.step
 rw [hc]
 cases x <;> first | rfl | exact absurd rfl (hx _ _)
theorem step_badV{g:TgCalls.Grid}{p:Int}{v:List Int}(hp:p=2\/p=4\/p=5\/p=15)(hv:v.length≠g.n):GridNeutral.step (some g) [[p],v]=(some g,[-1]):=by
 rcases hp with e | e | e | e
 ·subst e
  show(some (TgCalls.act g (.add v)).1,GridNeutral.told (TgCalls.act g (.add v)).2)=_
  have e:TgCalls.act g (.add v)=(g,TgCalls.no (-1)):=by
   show(if v.length=g.n then _ else _)=_
   rw [if_neg hv]
  rw [e]; rfl
 ·subst e
  show(some (TgCalls.act g (.has v)).1,GridNeutral.told (TgCalls.act g (.has v)).2)=_
  have e:TgCalls.act g (.has v)=(g,TgCalls.no (-1)):=by
   show(g,if v.length=g.n then _ else _)=_
   rw [if_neg hv]
  rw [e]; rfl
 ·subst e
  show(some (TgCalls.act g (.left v)).1,GridNeutral.told (TgCalls.act g (.left v)).2)=_
  have e:TgCalls.act g (.left v)=(g,TgCalls.no (-1)):=by
   show(g,if v.length=g.n then _ else _)=_
   rw [if_neg hv]
  rw [e]; rfl
 ·subst e
  show(some (TgCalls.act g (.near v)).1,GridNeutral.told (TgCalls.act g (.near v)).2)=_
  have e:TgCalls.act g (.near v)=(g,TgCalls.no (-1)):=by
   show(g,if v.length=g.n then _ else _)=_
   rw [if_neg hv]
  rw [e]; rfl
theorem step_badL{g:TgCalls.Grid}{p:Int}{l:List Int}(hp:p=7\/p=8\/p=9\/p=10)(h:TgCalls.vecsOf g.n l=none):GridNeutral.step (some g) [[p],l]=(some g,[-1]):=by
 rcases hp with e | e | e | e
 ·subst e
  show(some (TgCalls.act g (.same l)).1,GridNeutral.told (TgCalls.act g (.same l)).2)=_
  have e:TgCalls.act g (.same l)=(g,TgCalls.no (-1)):=by
   show(g,match TgCalls.vecsOf g.n l with | none=>TgCalls.no (-1) | some x=>_)=_
   rw [h]
  rw [e]; rfl
 ·subst e
  show(some (TgCalls.act g (.index l)).1,GridNeutral.told (TgCalls.act g (.index l)).2)=_
  have e:TgCalls.act g (.index l)=(g,TgCalls.no (-1)):=by
   show(g,match TgCalls.vecsOf g.n l with | none=>TgCalls.no (-1) | some x=>_)=_
   rw [h]
  rw [e]; rfl
 ·subst e
  show(some (TgCalls.act g (.join l)).1,GridNeutral.told (TgCalls.act g (.join l)).2)=_
  have e:TgCalls.act g (.join l)=(g,TgCalls.no (-1)):=by
   show(match TgCalls.vecsOf g.n l with | none=>(g,TgCalls.no (-1)) | some x=>_)=_
   rw [h]
  rw [e]; rfl
 ·subst e
  show(some (TgCalls.act g (.meet l)).1,GridNeutral.told (TgCalls.act g (.meet l)).2)=_
  have e:TgCalls.act g (.meet l)=(g,TgCalls.no (-1)):=by
   show(match TgCalls.vecsOf g.n l with | none=>(g,TgCalls.no (-1)) | some x=>_)=_
   rw [h]
  rw [e]; rfl
theorem fair_new{n:Int}{l:List Int}(h:Wl.Fair [[1,n],l]):0<=n/\GridNeutral.upTo 9 l=true:=by
 have h0:0<=n:=by
  have:=h.asked
  have:GridNeutral.natural n 32=true:=this
  unfold GridNeutral.natural at this
  rw [Bool.and_eq_true] at this
  exact of_decide_eq_true this.1
 obtain⟨x,e,hm⟩:=h.fits
 have e2:GridNeutral.callOf [[1,n],l]=some (.fresh n.toNat l):=by
  show(GridNeutral.nat n).bind _=_
  unfold GridNeutral.nat
  rw [if_neg (by omega)]
  rfl
 rw [e2] at e
 cases e
 exact⟨h0,hm⟩
theorem fair_short{b:Int}(h:Wl.Fair [[14,b]]):0<=b/\b<=60/\GridNeutral.callOf [[14,b]]=some (.short b.toNat):=by
 have h0:0<=b:=by
  have:=h.asked
  have:GridNeutral.natural b 32=true:=this
  unfold GridNeutral.natural at this
  rw [Bool.and_eq_true] at this
  exact of_decide_eq_true this.1
 obtain⟨x,e,hm⟩:=h.fits
 have e2:GridNeutral.callOf [[14,b]]=some (.short b.toNat):=by
  show(GridNeutral.nat b).bind _=_
  unfold GridNeutral.nat
  rw [if_neg (by omega)]
  rfl
 rw [e2] at e
 cases e
 have:b.toNat<=60:=of_decide_eq_true hm
 exact⟨h0,by omega,e2⟩
theorem fair_vec{p:Int}{v:List Int}(hp:p=2\/p=4\/p=5\/p=15)(h:Wl.Fair [[p],v]):GridNeutral.upTo 40 v=true:=by
 obtain⟨x,e,hm⟩:=h.fits
 rcases hp with q | q | q | q
 ·subst q; cases e; exact upTo_more hm
 ·subst q; cases e; exact hm
 ·subst q; cases e; exact hm
 ·subst q; cases e; exact hm
theorem fair_lat{p:Int}{v:List Int}(hp:p=7\/p=8\/p=9\/p=10)(h:Wl.Fair [[p],v]):GridNeutral.upTo 9 v=true:=by
 obtain⟨x,e,hm⟩:=h.fits
 rcases hp with q | q | q | q
 ·subst q; cases e; exact hm
 ·subst q; cases e; exact hm
 ·subst q; cases e; exact hm
 ·subst q; cases e; exact hm
structure TxtM(mg:Str->Option Value):Prop where
 short:∃t,mg "MOST_SHORT"=some (.int 4096 t)
 none_:∃t,mg "NONE_BUT_ZERO"=some (.int (-2) t)
 many:∃t,mg "TOO_MANY"=some (.int (-6) t)
def g9(H:Hp)(ans:List Int)(Q:VK):Prop:=∀(H':Hp)(q:Addr),H q=none->Same H H'->aN H' q ans->Q (.ref q) H'
abbrev sHas:Stmt:=aj "answer_has"
theorem scHas:FnScope ["rows","vector","pair"] ["rows","vector"] (aC sHas):=⟨rfl,rfl,rfl,by decide +kernel,rfl,by decide +kernel,by decide +kernel⟩
def spHas:Sp:=fun vs H Q _=>∃(a r:Addr)(n:Nat)(v:List Int)(g:List (List Int)),vs=[.ref a,.ref r]/\ak H a g/\aN H r v/\Wl.Ech n g/\v.length=n/\n<=3/\Wl.Bd 6 v/\Wl.Bds 4489 g/\g9 H (ik g v) Q
abbrev sIx:Stmt:=aj "answer_index"
theorem scIx:FnScope ["rows","others"] ["rows","others"] (aC sIx):=⟨rfl,rfl,rfl,by decide +kernel,rfl,by decide +kernel,by decide +kernel⟩
def spIx:Sp:=fun vs H Q _=>∃(a o:Addr)(n:Nat)(g h:List (List Int)),vs=[.ref a,.ref o]/\ak H a g/\ak H o h/\Wl.Ech n g/\Wl.Ech n h/\n<=3/\Wl.Bds 4489 g/\Wl.Bds 4489 h/\g9 H (iP g h) Q
abbrev sLs:Stmt:=aj "answer_least"
theorem scLs:FnScope ["rows"] ["rows"] (aC sLs):=⟨rfl,rfl,rfl,by decide +kernel,rfl,by decide +kernel,by decide +kernel⟩
def spLs:Sp:=fun vs H Q _=>∃(a:Addr)(n:Nat)(g:List (List Int)),vs=[.ref a]/\ak H a g/\Wl.Ech n g/\1<=n/\n<=3/\Wl.Bds 4489 g/\g9 H (iO n g) Q
abbrev sNr:Stmt:=aj "answer_near"
theorem scNr:FnScope ["rows","vector","vectors","numbers"] ["rows","vector"] (aC sNr):=⟨rfl,rfl,rfl,by decide +kernel,rfl,by decide +kernel,by decide +kernel⟩
def spNr:Sp:=fun vs H Q _=>∃(a r:Addr)(n:Nat)(v:List Int)(g:List (List Int)),vs=[.ref a,.ref r]/\ak H a g/\aN H r v/\Wl.Ech n g/\v.length=n/\1<=n/\n<=3/\Wl.Bd 6 v/\Tg.dot v v<=4800/\Wl.Bds 4489 g/\g9 H (iA g v) Q
theorem ok_has{f fD fR:Addr}{fd fdD fdR:FuncData}(F:Fun K "answer_has" "answer_has" sHas f fd)(TN:TxtN mg)(anyN:mg "any"=none)
  (GD:FnOk P w K mg base CX0 42 fD fdD ["vector","rows"] jR) (kD:W.keepIn K (.ref fD)=true) (bD:Binds K fdD ["vector","rows"] []) (mD:mg "divided"=some (.ref fD))
  (GR:FnOk P w K mg base CX0 1 fR fdR ["row"] iy) (kR:W.keepIn K (.ref fR)=true) (bR:Binds K fdR ["row"] []) (mR:mg "row_answer"=some (.ref fR)) :
  FnOk P w K mg base CX0 43 f fd ["rows","vector"] spHas:=by
 refine F.ok scHas (fun vs H Q E h=>?_) (fun cdv A outer s H vs Q E hr h=>?_)
 ·obtain⟨a,r,n,v,g,rfl,_⟩:=h
  rfl
 ·obtain⟨a,r,n,v,g,rfl,ha,hv,EH,lv,n3,Bv,Bg,k⟩:=h
  have hr1:Room 1 _:=hr.mono (by decide)
  obtain⟨t2,hv2⟩:=TN.notIn
  have rk:=EH.rank_n
  refine⟨_,aF (aZ (i:=2) scHas.nd rfl (Or.inl rfl) (aJ GD hr rfl mD kD bD .nil aS (aA (pv 1) (aA (pv 0) aE))))
   (aF (cC (gg (ag (anyI K) (by rfl) anyN PyProof.Rows.boot_any (aA (bj (ixt K) (pv 2) aQ (fun _ _=>rfl)) aE)))
    (aK (aV (bJ (aA (cw rfl hv2 (v:=.int (-2)) ⟨_,rfl⟩) aE)))) bE)
   (aK (aV (aJ GR hr1 rfl mR kR bR .nil aS (aA (bj (ixt K) (pv 2) aQ (fun _ _=>rfl)) aE))))),?_⟩
  have DV:=Wl.ck EH lv
  have lx:(Tg.divided g v).1.length=g.length:=DV.qlen
  refine⟨_,rfl,_,rfl,r,a,n,6,4489,v,g,rfl,hv,ha,EH,lv,by omega,by omega,Bv,Bg,?_,fun H2 t x y s2 ht hx hy=>?_⟩
  ·have:g.length*(4489+1)<=3*4490:=Nat.mul_le_mul (by omega) (by omega)
   omega
  refine⟨_,rfl,t,_,_,_,rfl,rfl,SqT.of ht,rfl,y,_,rfl,SqL.of hy,_,rfl,?_⟩
  dsimp only
  cases e:Tg.has g v with
  | true=>
    have e':Tg.isZero (Tg.divided g v).2=true:=e
    rw [e',if_neg (by decide)]
    refine⟨_,rfl,t,_,_,_,rfl,rfl,SqT.of ht,rfl,x,_,rfl,hx,by omega,fun H3 q hq s3 hqv=>?_⟩
    refine k H3 q (s2.free hq) (s2.trans s3) ?_
    unfold ik
    rw [if_pos e]; exact hqv
  | false=>
    have e':Tg.isZero (Tg.divided g v).2=false:=e
    rw [e',if_pos (by decide)]
    refine⟨by show 1<=sizeLine; decide,fun q hq=>?_⟩
    refine k _ q (s2.free hq) (s2.trans (Same.new hq)) ?_
    unfold ik
    rw [if_neg (by rw [e]; decide)]; exact eW
theorem ok_ix{f fA fI:Addr}{fd fdA fdI:FuncData}(F:Fun K "answer_index" "answer_index" sIx f fd)(T:Txt K mg)(TN:TxtN mg)
  (GA:FnOk P w K mg base CX0 43 fA fdA ["vectors","rows"] spAll) (kA:W.keepIn K (.ref fA)=true) (bA:Binds K fdA ["vectors","rows"] []) (mA:mg "all_in"=some (.ref fA))
  (GI:FnOk P w K mg base CX0 42 fI fdI ["part","rows"] spIdx) (kI:W.keepIn K (.ref fI)=true) (bI:Binds K fdI ["part","rows"] []) (mI:mg "index_of"=some (.ref fI)) :
  FnOk P w K mg base CX0 44 f fd ["rows","others"] spIx:=by
 refine F.ok scIx (fun vs H Q E h=>?_) (fun cdv A outer s H vs Q E hr h=>?_)
 ·obtain⟨a,o,n,g,h,rfl,_⟩:=h
  rfl
 ·obtain⟨a,o,n,g,h,rfl,⟨as,ha1,hav⟩,⟨os,ho1,hov⟩,EG,EO,n3,Bg,Bo,k⟩:=h
  have hr42:Room 42 _:=hr.mono (by decide)
  obtain⟨t2,hv2⟩:=TN.notIn
  have rg:=EG.rank_n
  have ro:=EO.rank_n
  refine⟨_,aF (cC (pt_not (gg (aJ GA hr rfl mA kA bA .nil aS (aA (pv 1) (aA (pv 0) aE)))))
    (aK (aV (bJ (aA (cw rfl hv2 (v:=.int (-2)) ⟨_,rfl⟩) aE)))) bE)
   (aF (cC (ad op_ne (ag a8 (by rfl) T.len PySem.boot_len (aA (pv 1) aE)) (ag a8 (by rfl) T.len PySem.boot_len (aA (pv 0) aE)) (ao _))
    (aK (aV (bJ (aA aQ (aA aQ aE))))) bE)
   (aK (aV (bJ (aA aQ (aA (aJ GI hr42 rfl mI kI bI .nil aS (aA (pv 1) (aA (pv 0) aE))) aE)))))),?_⟩
  refine⟨_,rfl,_,rfl,o,a,n,4489,4489,h,g,rfl,⟨os,ho1,hov⟩,⟨as,ha1,hav⟩,EG,EO.len,by omega,by omega,Bo,Bg,?_,fun H2 s2=>⟨_,rfl,?_⟩⟩
  ·have:g.length*(4489+1)<=3*4490:=Nat.mul_le_mul (by omega) (by omega)
   omega
  dsimp only
  cases e:h.all (Tg.has g) with
  | false=>
    rw [if_pos (by decide)]
    refine⟨by show 1<=sizeLine; decide,fun q hq=>k _ q (s2.free hq) (s2.trans (Same.new hq)) ?_⟩
    unfold iP
    rw [if_pos e]; exact eW
  | true=>
    rw [if_neg (by decide)]
    refine⟨_,rfl,o,_,rfl,.inl (SqL.of (s2 _ _ ho1)),_,rfl,a,_,rfl,.inl (SqL.of (s2 _ _ ha1)),rfl,_,rfl,?_⟩
    dsimp only
    have lo:(os.map V.ref).length=h.length:=by rw [List.length_map]; exact hov.len
    have la:(as.map V.ref).length=g.length:=by rw [List.length_map]; exact hav.len
    by_cases hl:h.length=g.length
    ·rw [if_neg (by rw [lo,la,hl]; simp)]
     refine⟨_,rfl,_,rfl,a,o,n,4489,g,h,rfl,⟨as,s2 _ _ ha1,hav.keep s2⟩,⟨os,s2 _ _ ho1,hov.keep s2⟩,EG,EO,hl,fun r hr=>?_,by omega,by omega,Bg,Bo,?_,by show 2<=sizeLine; decide,fun q hq=>?_⟩
     ·exact(Wl.has_iff EG (EO.len r hr)).1 (List.all_eq_true.1 e r hr)
     ·have:(h.length+1)*4489<=4*4489:=Nat.mul_le_mul_right _ (by omega)
      omega
     ·refine k _ q (s2.free hq) (s2.trans (Same.new hq)) ?_
      unfold iP
      rw [if_neg (by rw [e]; decide),if_pos hl]; exact aB
    ·rw [if_pos (by rw [lo,la]; simp; omega)]
     refine⟨by show 2<=sizeLine; decide,fun q hq=>k _ q (s2.free hq) (s2.trans (Same.new hq)) ?_⟩
     unfold iP
     rw [if_neg (by rw [e]; decide),if_neg hl]; exact aB
theorem ok_ls{c:Nat}{f fL:Addr}{fd fdL:FuncData}(F:Fun K "answer_least" "answer_least" sLs f fd)(T:Txt K mg)(TM:TxtM mg)
  (GL:FnOk P w K mg base CX0 c fL fdL ["rows"] spLst) (kL:W.keepIn K (.ref fL)=true) (bL:Binds K fdL ["rows"] []) (mL:mg "least_of"=some (.ref fL)) :
  FnOk P w K mg base CX0 (c+1) f fd ["rows"] spLs:=by
 refine F.ok scLs (fun vs H Q E h=>?_) (fun cdv A outer s H vs Q E hr h=>?_)
 ·obtain⟨a,n,g,rfl,_⟩:=h
  rfl
 ·obtain⟨a,n,g,rfl,⟨as,ha,hav⟩,EH,n1,n3,Bg,k⟩:=h
  obtain⟨t2,hv2⟩:=TM.none_
  have rk:=EH.rank_n
  have alen:=hav.len
  refine⟨_,aF (cC (ad cV (ag a8 (by rfl) T.len PySem.boot_len (aA (pv 0) aE)) aQ (ao _))
    (aK (aV (bJ (aA (cw rfl hv2 (v:=.int (-2)) ⟨_,rfl⟩) aE)))) bE)
   (aK (aV (bJ (aA aQ (aA (aJ GL hr rfl mL kL bL .nil aS (aA (pv 0) aE)) aE))))),?_⟩
  refine⟨_,rfl,a,_,rfl,.inl (SqL.of ha),rfl,_,rfl,?_⟩
  dsimp only
  have la:(as.map V.ref).length=g.length:=by rw [List.length_map]; exact alen
  rw [la]
  by_cases h0:g.length=0
  ·rw [if_pos (by rw [h0]; rfl)]
   have eg:g=[]:=List.eq_nil_of_length_eq_zero h0
   subst eg
   exact⟨by show 1<=sizeLine; decide,fun q hq=>k _ q hq (Same.new hq) eW⟩
  ·rw [if_neg (fun q=>h0 (by have q:=of_decide_eq_true q; injection q with q; omega))]
   refine⟨_,rfl,a,n,4489,g,rfl,⟨as,ha,hav⟩,EH,n1,n3,by omega,by omega,Bg,by decide,fun H2 x s2 hx=>?_⟩
   refine⟨by show 2<=sizeLine; decide,fun q hq=>k _ q (s2.free hq) (s2.trans (Same.new hq)) ?_⟩
   unfold iO
   rw [hx]; exact aB
theorem ok_nr{c:Nat}{f fS fF fN fL:Addr}{fd fdS fdF fdN fdL:FuncData}(hc:2<=c)(F:Fun K "answer_near" "answer_near" sNr f fd)(T:Txt K mg)
  (GS:FnOk P w K mg base CX0 c fS fdS ["rows","point"] spNst) (kS:W.keepIn K (.ref fS)=true) (bS:Binds K fdS ["rows","point"] []) (mS:mg "nearest_of"=some (.ref fS))
  (GF:FnOk P w K mg base CX0 1 fF fdF ["rows"] i8) (kF:W.keepIn K (.ref fF)=true) (bF:Binds K fdF ["rows"] []) (mF:mg "flat"=some (.ref fF))
  (GN:FnOk P w K mg base CX0 2 fN fdN ["vector"] iF) (kN:W.keepIn K (.ref fN)=true) (bN:Binds K fdN ["vector"] []) (mN:mg "length"=some (.ref fN))
  (GL:FnOk P w K mg base CX0 1 fL fdL ["vector","times","other"] eD) (kL:W.keepIn K (.ref fL)=true) (bL:Binds K fdL ["vector","times","other"] []) (mL:mg "less"=some (.ref fL)) :
  FnOk P w K mg base CX0 (c+1) f fd ["rows","vector"] spNr:=by
 refine F.ok scNr (fun vs H Q E h=>?_) (fun cdv A outer s H vs Q E hr h=>?_)
 ·obtain⟨a,r,n,v,g,rfl,_⟩:=h
  rfl
 ·obtain⟨a,r,n,v,g,rfl,ha,hv,EH,lv,n1,n3,Bv,v48,Bg,k⟩:=h
  have hr1:Room 1 _:=hr.mono (by omega)
  have hr2:Room 2 _:=hr.mono (by omega)
  refine⟨_,aF (aZ (i:=2) scNr.nd rfl (Or.inl rfl) (aJ GS hr rfl mS kS bS .nil aS (aA (pv 0) (aA (pv 1) aE))))
   (aF (aZ (i:=3) scNr.nd rfl (Or.inl rfl) (aJ GF hr1 rfl mF kF bF .nil aS (aA (pv 2) aE)))
   (aK (aV (af cR (bJ (aA aQ (aA (aJ GN hr2 rfl mN kN bN .nil aS (aA (aJ GL hr1 rfl mL kL bL .nil aS (aA (pv 1) (aA aQ (aA (bj (ixl K) (pv 2) aQ (fun _ _=>rfl)) aE)))) aE))
    (aA (ag a8 (by rfl) T.len PySem.boot_len (aA (pv 2) aE)) (aA (ag a8 (by rfl) T.len PySem.boot_len (aA (pv 3) aE)) aE))))) (pv 3))))),?_⟩
  refine⟨_,rfl,_,rfl,a,r,n,4489,g,v,rfl,ha,hv,EH,n1,n3,lv,Bv,v48,Bg,by decide,fun H1 q x us s1 hq hus IN hx=>?_⟩
  have hne:=Wl.near_eq EH lv IN
  have cnt:us.length<=8:=by
   have h1:=Wl.near_count EH lv
   rw [hne] at h1
   have h2:2^g.length<=2^3:=Nat.pow_le_pow_right (by decide) (by have:=EH.rank_n; omega)
   have h1:us.length<=2^g.length:=h1
   omega
  have Lu:Wl.Len n us:=fun u hu=>((IN.mem u).1 hu).1.len
  have fl:(TgCalls.flat us).length<=24:=by
   rw [fk Lu]
   exact Nat.mul_le_mul cnt n3
  obtain⟨bs,hb1,hbv⟩:=hus
  refine⟨_,rfl,q,us,rfl,⟨bs,hb1,hbv⟩,by omega,fun H2 p hp s2 hp2=>?_⟩
  obtain⟨u1,hu1,eu1⟩:=IN.some
  have hum:u1∈us:=(IN.mem u1).2 ⟨hu1,eu1⟩
  have u0:0<us.length:=List.length_pos_of_mem hum
  have blen:=hbv.len
  have b0:0<bs.length:=by omega
  obtain⟨u,hu,hbu⟩:=hbv.get (i:=0) (List.getElem?_eq_getElem b0)
  have humm:u∈us:=List.mem_of_getElem? hu
  obtain⟨hsp,hdist⟩:=(IN.mem u).1 humm
  have lu:=hsp.len
  have eml:Tg.minus v (Tg.times 1 u)=Tg.minus v u:=Wl.eP lu
  have lm:(Tg.minus v u).length=n:=Wl.aG lv lu
  have hdd:Tg.dot (Tg.minus v u) (Tg.minus v u)=x:=hdist
  have Bm:Wl.Bd 8 (Tg.minus v u):=dA (Int.lt_of_le_of_lt (show _<=(33600:Int) by rw [hdd]; exact hx) (by decide))
  have Bu:Wl.Bd 9 u:=fun j=>by
   have h1:=Bm j
   have h2:=Bv j
   rw [Wl.aa lv lu] at h1
   show(Tg.num u j).natAbs<2^9
   have h1:(Tg.num v j - Tg.num u j).natAbs<256:=h1
   have h2:(Tg.num v j).natAbs<64:=h2
   have:(2:Nat)^9=512:=rfl
   omega
  have at0:atI (bs.map V.ref) 0=some (V.ref (bs[0]'b0)):=dY (j:=0) (by rw [List.getElem?_map,List.getElem?_eq_getElem b0]; rfl)
  have t2:=s1.trans s2
  refine⟨_,rfl,_,rfl,q,bs.map V.ref,_,.ref (bs[0]'b0),rfl,rfl,SqL.of (s2 _ _ hb1),at0,r,bs[0]'b0,1,v,u,rfl,t2 _ _ hv,s2 _ _ hbu,by rw [lv,lu],by omega,fun y hy=>cu (m:=1) (n:=9) (by decide) (cO Bu y hy) (by decide),fun H3 z hz s3 hzv=>?_⟩
  have hzv:aN H3 z (Tg.minus v u):=by
   have:aN H3 z (Tg.minus v (Tg.times 1 u)):=hzv
   rwa [eml] at this
  refine⟨z,8,Tg.minus v u,rfl,hzv,by omega,Bm,by decide,fun H4 s4=>?_⟩
  have t4:=s3.trans s4
  refine⟨_,rfl,q,_,rfl,.inl (SqL.of (t4 _ _ (s2 _ _ hb1))),_,rfl,p,_,rfl,.inl (SqL.of (t4 _ _ hp2)),by show 4<=sizeLine; decide,fun l hl=>?_⟩
  have t5:=t4.trans (Same.new (o:=.lst [V.int 0,V.int (Tg.dot (Tg.minus v u) (Tg.minus v u)),V.int ((bs.map V.ref).length:Int),V.int (((TgCalls.flat us).map V.int).length:Int)]) hl)
  refine⟨_,rfl,l,p,_,_,rfl,rfl,aB,t5 _ _ hp2,?_,fun z2 hz2=>?_⟩
  ·rw [List.length_map,sizeLine_eq]; simp; omega
  ·have t6:=t5.trans (Same.new (o:=.lst ([V.int 0,V.int (Tg.dot (Tg.minus v u) (Tg.minus v u)),V.int ((bs.map V.ref).length:Int),V.int (((TgCalls.flat us).map V.int).length:Int)]++(TgCalls.flat us).map V.int)) hz2)
   refine k _ z2 (t2.free (t5.free hz2)) (t2.trans t6) ?_
   unfold aN iA
   rw [aB,hne,hdd,List.length_map,List.length_map,blen]
   rfl
theorem f9{C T S:Addr}{H H3:Hp}{g:TgCalls.Grid}{c:List (List Int)}{Q:VK}{E:XK}{us:List L2.V}{dS r0 rr:Addr}{cs:List Addr}{m:Nat}{n0:Int}{h':List (List Int)}(k:dh C T S H (some g) c Q)(est:GridNeutral.step (some g) c=(some ⟨m,h'⟩,[0,(h'.length:Int)]))
  (hT:H T=some (.lst us)) (hS:H S=some (.ins C dS (stF n0 r0))) (s:Same H H3) (hr:H3 rr=some (.lst (cs.map V.ref))) (hrf:H rr=none) (hcs:aL H3 cs h') (hcT:∀b∈cs,b≠T):fw C [.ref S,.int m,.ref rr] H3 Q E:=by
 have nrT:rr≠T:=fun e=>by rw [e,hT] at hrf; cases hrf
 have nrS:rr≠S:=fun e=>by rw [e,hS] at hrf; cases hrf
 refine⟨S,dS,rr,r0,_,_,cs,rfl,s _ _ hS,hr,fun H4 q b4 hS4 hq hqv=>?_⟩
 refine k H4 q (fun b o e hb=>b4 _ _ (s _ _ e) hb) ?_ (s.free hq) ?_ ?_
 ·rw [est]
  exact⟨dS,rr,cs,hS4,b4 _ _ hr nrS,aL.but (s _ _ hS) b4 hcs,nrT,hcT⟩
 ·rw [est,<- hcs.len]; exact hqv
 ·rw [est]; show 2<=dk; decide
theorem ic{H:Hp}{T:Addr}{us:List L2.V}{cs:List Addr}(hT:H T=some (.lst us))(h:∀b∈cs,H b=none):∀b∈cs,b≠T:=fun b hb e=>by
 have:=h b hb
 rw [e,hT] at this; cases this
theorem dh.new{C T S:Addr}{H:Hp}{s:TgCalls.State}{c:List (List Int)}{Q:VK}{ans:List Int}(h:dh C T S H s c Q)(e:GridNeutral.step s c=(s,ans))(st:di C H T S s)(hl:ans.length<=dk):g9 H ans Q:=
 fun H' q hq sm hv=>h.plain e st sm hq hv hl
abbrev sSh:Stmt:=aj "answer_short"
theorem scSh:FnScope ["standing","bound","vectors"] ["standing","bound"] (aC sSh):=⟨rfl,rfl,rfl,by decide +kernel,rfl,by decide +kernel,by decide +kernel⟩
def spSh(C:Addr):Sp:=fun vs H Q _=>∃(S T:Addr)(us:List L2.V)(g:TgCalls.Grid)(b:Int)(k:Nat),vs=[.ref S,.int b]/\H T=some (.lst us)/\di C H T S (some g)/\Wl.Good k g/\k<=7/\0<=b/\b<=60/\dh C T S H (some g) [[14,b]] Q
abbrev sPl:Stmt:=aj "answer_plain"
theorem scPl:FnScope ["standing","name"] ["standing","name"] (aC sPl):=⟨rfl,rfl,rfl,by decide +kernel,rfl,by decide +kernel,by decide +kernel⟩
def spPl(C:Addr):Sp:=fun vs H Q _=>∃(S T:Addr)(us:List L2.V)(g:TgCalls.Grid)(p:Int)(k:Nat),vs=[.ref S,.str (nameOf p)]/\H T=some (.lst us)/\di C H T S (some g)/\Wl.Good k g/\k<=7/\(p=11\/p=12->k+2<=7)/\(p=3\/p=6\/p=13\/p=11\/p=12)/\dh C T S H (some g) [[p]] Q
theorem ok_sh{c:Nat}{f C fS fF fR:Addr}{fd fdS fdF fdR:FuncData}(hc:1<=c)(F:Fun K "answer_short" "answer_short" sSh f fd)(TM:TxtM mg)(TS:TxtS K C)
  (GS:FnOk P w K mg base CX0 c fS fdS ["rows","n","bound","most"] spSht) (kS:W.keepIn K (.ref fS)=true) (bS:Binds K fdS ["rows","n","bound","most"] []) (mS:mg "short_of"=some (.ref fS))
  (GF:FnOk P w K mg base CX0 1 fF fdF ["rows"] i8) (kF:W.keepIn K (.ref fF)=true) (bF:Binds K fdF ["rows"] []) (mF:mg "flat"=some (.ref fF))
  (GR:FnOk P w K mg base CX0 1 fR fdR ["row"] iy) (kR:W.keepIn K (.ref fR)=true) (bR:Binds K fdR ["row"] []) (mR:mg "row_answer"=some (.ref fR)) :
  FnOk P w K mg base CX0 (c+1) f fd ["standing","bound"] (spSh C):=by
 refine F.ok scSh (fun vs H Q E h=>?_) (fun cdv A outer s H vs Q E hr h=>?_)
 ·obtain⟨S,T,us,g,b,k,rfl,_⟩:=h
  rfl
 ·obtain⟨S,T,us,g,b,kc,rfl,hT,hst,G,hk7,b0,b60,k⟩:=h
  have hr1:Room 1 _:=hr.mono hc
  obtain⟨t1,hv1⟩:=TM.short
  obtain⟨t2,hv2⟩:=TM.many
  have hn1:=G.n1
  have hn3:=G.n3
  have hbd:=G.bd hk7
  have EH:=G.form.toEch
  obtain⟨dS,r0,bs,hS,hr0,hbs,nr0,nbs⟩:=hst
  have hst:di C H T S (some g):=⟨dS,r0,bs,hS,hr0,hbs,nr0,nbs⟩
  refine⟨_,aF (aZ (i:=2) scSh.nd rfl (Or.inl rfl) (aJ GS hr rfl mS kS bS .nil aS (aA (ae (pv 0) rfl) (aA (ae (pv 0) rfl) (aA (pv 1) (aA (cw rfl hv1 (v:=.int 4096) ⟨_,rfl⟩) aE))))))
   (aF (cC (ad op_isN (pv 2) pe_non (ao _)) (aK (aV (bJ (aA (cw rfl hv2 (v:=.int (-6)) ⟨_,rfl⟩) aE)))) bE)
   (aK (aV (aJ GR hr1 rfl mR kR bR .nil aS (aA (aJ GF hr1 rfl mF kF bF .nil aS (aA (pv 2) aE)) aE))))),?_⟩
  have lkN:(stF (nOf (some g)) r0).lookup ("n":Str)=some (.int (g.n:Int)):=rfl
  have lkR:(stF (nOf (some g)) r0).lookup ("rows":Str)=some (.ref r0):=rfl
  refine⟨_,rfl,S,C,dS,_,_,rfl,hS,TS.cl,TS.nR,lkR,_,rfl,S,C,dS,_,_,rfl,hS,TS.cl,TS.nN,lkN,_,rfl,r0,g.n,4489,b,g.h,rfl,⟨bs,hr0,hbs⟩,EH,hn1,hn3,hbd,by decide,b0,b60,fun H2 q s2 hq hqr hlen=>?_⟩
  refine⟨_,rfl,rfl,_,rfl,?_⟩
  dsimp only
  rw [if_neg (fun z=>by cases of_decide_eq_true z)]
  have Ls:Wl.Len g.n (Tg.short g.n g.h b):=fun u hu=>((Wl.mem_short EH b u).1 hu).1.len
  have fl:(TgCalls.flat (Tg.short g.n g.h b)).length<=10125:=by
   rw [fk Ls]
   exact Nat.mul_le_mul hlen hn3
  refine⟨_,rfl,q,_,rfl,hqr,by omega,fun H3 p hp s3 hpv=>?_⟩
  refine⟨p,_,rfl,hpv,by omega,fun H4 p4 hp4 s4 hv4=>?_⟩
  have s24:=s2.trans s3
  exact k.plain (step_short b0 (by omega)) hst (s24.trans s4) (s24.free hp4) hv4 (by unfold i9 dk; simp; omega)
theorem ok_pl{c:Nat}{f C fF fR fZ fL fA fI fT:Addr}{fd fdF fdR fdZ fdL fdA fdI fdT:FuncData}(hc:47<=c)(F:Fun K "answer_plain" "answer_plain" sPl f fd)(TS:TxtS K C)
  (GF:FnOk P w K mg base CX0 1 fF fdF ["rows"] i8) (kF:W.keepIn K (.ref fF)=true) (bF:Binds K fdF ["rows"] []) (mF:mg "flat"=some (.ref fF))
  (GR:FnOk P w K mg base CX0 1 fR fdR ["row"] iy) (kR:W.keepIn K (.ref fR)=true) (bR:Binds K fdR ["row"] []) (mR:mg "row_answer"=some (.ref fR))
  (GZ:FnOk P w K mg base CX0 11 fZ fdZ ["rows"] gL) (kZ:W.keepIn K (.ref fZ)=true) (bZ:Binds K fdZ ["rows"] []) (mZ:mg "size_of"=some (.ref fZ))
  (GL:FnOk P w K mg base CX0 c fL fdL ["rows"] spLs) (kL:W.keepIn K (.ref fL)=true) (bL:Binds K fdL ["rows"] []) (mL:mg "answer_least"=some (.ref fL))
  (GA:FnOk P w K mg base CX0 46 fA fdA ["rows","n"] spAcr) (kA:W.keepIn K (.ref fA)=true) (bA:Binds K fdA ["rows","n"] []) (mA:mg "across_of"=some (.ref fA))
  (GI:FnOk P w K mg base CX0 47 fI fdI ["rows","n"] spFil) (kI:W.keepIn K (.ref fI)=true) (bI:Binds K fdI ["rows","n"] []) (mI:mg "filled_of"=some (.ref fI))
  (GT:FnOk P w K mg base CX0 1 fT fdT ["standing","n","rows"] (fw C)) (kT:W.keepIn K (.ref fT)=true) (bT:Binds K fdT ["standing","n","rows"] []) (mT:mg "stand"=some (.ref fT)) :
  FnOk P w K mg base CX0 (c+1) f fd ["standing","name"] (spPl C):=by
 refine F.ok scPl (fun vs H Q E h=>?_) (fun cdv A outer s H vs Q E hr h=>?_)
 ·obtain⟨S,T,us,g,p,k,rfl,_⟩:=h
  rfl
 ·obtain⟨S,T,us,g,p,kc,rfl,hT,hst,G,hk7,hk2,hp,k⟩:=h
  have hr1:Room 1 _:=hr.mono (by omega)
  have hr11:Room 11 _:=hr.mono (by omega)
  have hr46:Room 46 _:=hr.mono (by omega)
  have hr47:Room 47 _:=hr.mono (by omega)
  have hrank:=G.rank
  have hn1:=G.n1
  have hn3:=G.n3
  have hbd:=G.bd hk7
  have EH:=G.form.toEch
  obtain⟨dS,r0,bs,hS,hr0,hbs,nr0,nbs⟩:=hst
  have hst:di C H T S (some g):=⟨dS,r0,bs,hS,hr0,hbs,nr0,nbs⟩
  refine⟨_,aF (cC (ad cV (pv 1) cy (ao _)) (aK (aV (aJ GR hr1 rfl mR kR bR .nil aS (aA (aJ GF hr1 rfl mF kF bF .nil aS (aA (ae (pv 0) rfl) aE)) aE)))) bE)
   (aF (cC (ad cV (pv 1) cy (ao _)) (aK (aV (bJ (aA aQ (aA (aJ GZ hr11 rfl mZ kZ bZ .nil aS (aA (ae (pv 0) rfl) aE)) aE))))) bE)
   (aF (cC (ad cV (pv 1) cy (ao _)) (aK (aV (aJ GL hr rfl mL kL bL .nil aS (aA (ae (pv 0) rfl) aE)))) bE)
   (aF (cC (ad cV (pv 1) cy (ao _)) (aK (aV (aJ GT hr1 rfl mT kT bT .nil aS (aA (pv 0) (aA (ae (pv 0) rfl) (aA (aJ GA hr46 rfl mA kA bA .nil aS (aA (ae (pv 0) rfl) (aA (ae (pv 0) rfl) aE))) aE)))))) bE)
   (aK (aV (aJ GT hr1 rfl mT kT bT .nil aS (aA (pv 0) (aA (ae (pv 0) rfl) (aA (aJ GI hr47 rfl mI kI bI .nil aS (aA (ae (pv 0) rfl) (aA (ae (pv 0) rfl) aE))) aE))))))))),?_⟩
  have lkN:(stF (nOf (some g)) r0).lookup ("n":Str)=some (.int (g.n:Int)):=rfl
  have lkR:(stF (nOf (some g)) r0).lookup ("rows":Str)=some (.ref r0):=rfl
  have rws:ak H r0 g.h:=⟨bs,hr0,hbs⟩
  rcases hp with e | e | e | e | e
  ·subst e
   refine⟨_,rfl,rfl,_,rfl,?_⟩
   dsimp only
   rw [if_pos (by decide)]
   have hfl:(TgCalls.flat g.h).length<=9:=by
    rw [fk G.form.len]
    exact Nat.mul_le_mul (show g.h.length<=3 by omega) hn3
   refine⟨_,rfl,S,C,dS,_,_,rfl,hS,TS.cl,TS.nR,lkR,r0,g.h,rfl,rws,by omega,fun H2 q hq s2 hqv=>?_⟩
   refine⟨q,_,rfl,hqv,by omega,fun H3 q3 hq3 s3 hv3=>?_⟩
   exact k.plain step_form hst (s2.trans s3) (s2.free hq3) hv3 (by unfold i9 dk; simp; omega)
  ·subst e
   refine⟨_,rfl,rfl,_,rfl,?_⟩
   dsimp only
   rw [if_neg (by decide)]
   refine⟨_,rfl,rfl,_,rfl,?_⟩
   dsimp only
   rw [if_pos (by decide)]
   refine⟨_,rfl,S,C,dS,_,_,rfl,hS,TS.cl,TS.nR,lkR,r0,g.n,4489,g.h,rfl,rws,G.form.len,by omega,by omega,hbd,by omega,fun H2 s2=>?_⟩
   exact⟨by show 2<=sizeLine; decide,fun q hq=>k.plain step_size hst (s2.trans (Same.new hq)) (s2.free hq) aB (by show 2<=dk; decide)⟩
  ·subst e
   refine⟨_,rfl,rfl,_,rfl,?_⟩
   dsimp only
   rw [if_neg (by decide)]
   refine⟨_,rfl,rfl,_,rfl,?_⟩
   dsimp only
   rw [if_neg (by decide)]
   refine⟨_,rfl,rfl,_,rfl,?_⟩
   dsimp only
   rw [if_pos (by decide)]
   refine⟨_,rfl,S,C,dS,_,_,rfl,hS,TS.cl,TS.nR,lkR,r0,g.n,g.h,rfl,rws,EH,hn1,hn3,hbd,k.new step_least hst ?_⟩
   unfold iO dk
   split <;> simp
  ·subst e
   refine⟨_,rfl,rfl,_,rfl,?_⟩
   dsimp only
   rw [if_neg (by decide)]
   refine⟨_,rfl,rfl,_,rfl,?_⟩
   dsimp only
   rw [if_neg (by decide)]
   refine⟨_,rfl,rfl,_,rfl,?_⟩
   dsimp only
   rw [if_neg (by decide)]
   refine⟨_,rfl,rfl,_,rfl,?_⟩
   dsimp only
   rw [if_pos (by decide)]
   refine⟨_,rfl,_,rfl,S,C,dS,_,_,rfl,hS,TS.cl,TS.nN,lkN,_,rfl,S,C,dS,_,_,rfl,hS,TS.cl,TS.nR,lkR,_,rfl,S,C,dS,_,_,rfl,hS,TS.cl,TS.nN,lkN,r0,g.n,4489,g.h,rfl,rws,G.form.len,hn3,by omega,hbd,by decide,by decide,fun H2 q cs s2 hq hq2 hcs hcn=>?_⟩
   exact f9 (E:=E0) k step_across hT hS s2 hq2 hq hcs (ic hT hcn)
  ·subst e
   refine⟨_,rfl,rfl,_,rfl,?_⟩
   dsimp only
   rw [if_neg (by decide)]
   refine⟨_,rfl,rfl,_,rfl,?_⟩
   dsimp only
   rw [if_neg (by decide)]
   refine⟨_,rfl,rfl,_,rfl,?_⟩
   dsimp only
   rw [if_neg (by decide)]
   refine⟨_,rfl,rfl,_,rfl,?_⟩
   dsimp only
   rw [if_neg (by decide)]
   refine⟨_,rfl,_,rfl,S,C,dS,_,_,rfl,hS,TS.cl,TS.nN,lkN,_,rfl,S,C,dS,_,_,rfl,hS,TS.cl,TS.nR,lkR,_,rfl,S,C,dS,_,_,rfl,hS,TS.cl,TS.nN,lkN,r0,g.n,4489,g.h,rfl,rws,G.form.len,hn3,by omega,hbd,Wl.across_bd G (hk2 (.inr rfl)),by decide,by decide,fun H2 q cs s2 hq hq2 hcs hcn=>?_⟩
   exact f9 (E:=E0) k step_fill hT hS s2 hq2 hq hcs (ic hT hcn)
def dV(v:List Int):PyData:=.list (v.map .int)
def dR(rs:List (List Int)):PyData:=.list (rs.map dV)
theorem dp_ints{K:W.Frag}{H:Hp}:∀v:List Int,DpAll K H (v.map V.int) (v.map PyData.int)
 | []=>.nil
 | x::v=>.cons (.int x) (dp_ints v)
theorem dp_vec{K:W.Frag}{H:Hp}{a:Addr}{v:List Int}(h:aN H a v):Dp K H (.ref a) (dV v):=.lst (SqL.of h) (dp_ints v)
theorem dp_vecs{K:W.Frag}{H:Hp}:∀{as:List Addr}{rs:List (List Int)},aL H as rs->DpAll K H (as.map V.ref) (rs.map dV)
 | [],[],_=>.nil
 | a::as,r::rs,h=>.cons (dp_vec h.1) (dp_vecs h.2)
 | [],_::_,h=>h.elim
 | _::_,[],h=>h.elim
theorem dp_rows{K:W.Frag}{H:Hp}{a:Addr}{rs:List (List Int)}(h:ak H a rs):Dp K H (.ref a) (dR rs):=by
 obtain⟨as,h1,h2⟩:=h
 exact .lst (SqL.of h1) (dp_vecs h2)
theorem eqv_vecs(rs qs:List (List Int)):PyData.eqvAll (rs.map dV) (qs.map dV)=decide (rs=qs):=by
 induction rs generalizing qs with
 | nil=>cases qs <;> simp [PyData.eqvAll]
 | cons r rs ih=>
   cases qs with
   | nil=>simp [PyData.eqvAll]
   | cons q qs=>
     have e:PyData.eqv (dV r) (dV q)=decide (r=q):=W.ked_eqvAll r q
     simp only [List.map_cons,PyData.eqvAll]
     rw [ih qs,e,Bool.eq_iff_iff]
     simp
theorem eqv_rows(rs qs:List (List Int)):PyData.eqv (dR rs) (dR qs)=decide (rs=qs):=eqv_vecs rs qs
theorem lay_ints:∀v:List Int,PyData.canLayAll0 (v.map PyData.int)=true
 | []=>rfl
 | x::v=>by
   simp only [List.map_cons,PyData.canLayAll0,lay_ints v,Bool.and_true]
   rfl
theorem lay_vecs:∀rs:List (List Int),PyData.canLayAll0 (rs.map dV)=true
 | []=>rfl
 | r::rs=>by
   simp only [List.map_cons,PyData.canLayAll0,lay_vecs rs,Bool.and_true]
   exact lay_ints r
theorem dep_ints:∀v:List Int,PyData.depthAll (v.map PyData.int)<=1
 | []=>by simp [PyData.depthAll]
 | x::v=>by
   have:=dep_ints v
   simp only [List.map_cons,PyData.depthAll,PyData.depth]
   omega
theorem dep_vecs:∀rs:List (List Int),PyData.depthAll (rs.map dV)<=2
 | []=>by simp [PyData.depthAll]
 | r::rs=>by
   have:=dep_vecs rs
   have h2:=dep_ints r
   simp only [List.map_cons,PyData.depthAll,dV,PyData.depth]
   omega
theorem shaped_rows(rs:List (List Int)):SeqAt.shaped (dR rs)=true:=by
 unfold SeqAt.shaped
 rw [Bool.and_eq_true]
 refine⟨lay_vecs rs,decide_eq_true ?_⟩
 have:=dep_vecs rs
 simp only [dR,PyData.depth]
 omega
abbrev jY:Stmt:=aj "answer_vector"
theorem scVec:FnScope ["standing","name","vector"] ["standing","name","vector"] (aC jY):=⟨rfl,rfl,rfl,by decide +kernel,rfl,by decide +kernel,by decide +kernel⟩
def spVec(C:Addr):Sp:=fun vs H Q _=>∃(S T r:Addr)(us:List L2.V)(g:TgCalls.Grid)(p:Int)(v:List Int)(k:Nat),vs=[.ref S,.str (nameOf p),.ref r]/\H T=some (.lst us)/\di C H T S (some g)/\aN H r v/\r≠T/\v.length=g.n/\Wl.Bd 6 v/\Tg.dot v v<=4800/\Wl.Good k g/\k<=7/\(p=2\/p=4\/p=5\/p=15)/\dh C T S H (some g) [[p],v] Q
abbrev sLat:Stmt:=aj "answer_lattice"
theorem scLat:FnScope ["standing","name","others"] ["standing","name","others"] (aC sLat):=⟨rfl,rfl,rfl,by decide +kernel,rfl,by decide +kernel,by decide +kernel⟩
def spLat(C:Addr):Sp:=fun vs H Q _=>∃(S T o:Addr)(os:List Addr)(us:List L2.V)(g:TgCalls.Grid)(p:Int)(l:List Int)(x:List (List Int))(k:Nat),vs=[.ref S,.str (nameOf p),.ref o]/\H T=some (.lst us)/\di C H T S (some g)/\H o=some (.lst (os.map V.ref))/\aL H os (Tg.form g.n x)/\(∀b∈os,b≠T)/\TgCalls.vecsOf g.n l=some x/\GridNeutral.upTo 9 l=true/\Wl.Good k g/\k<=7/\(p=7\/p=8\/p=9\/p=10)/\dh C T S H (some g) [[p],l] Q
theorem ok_vec{c:Nat}{f C fF fD fR fT fH fN:Addr}{fd fdF fdD fdR fdT fdH fdN:FuncData}(hc:44<=c)(F:Fun K "answer_vector" "answer_vector" jY f fd)(TS:TxtS K C)
  (GF:FnOk P w K mg base CX0 44 fF fdF ["vectors","n"] iG) (kF:W.keepIn K (.ref fF)=true) (bF:Binds K fdF ["vectors","n"] []) (mF:mg "form_of"=some (.ref fF))
  (GD:FnOk P w K mg base CX0 42 fD fdD ["vector","rows"] jR) (kD:W.keepIn K (.ref fD)=true) (bD:Binds K fdD ["vector","rows"] []) (mD:mg "divided"=some (.ref fD))
  (GR:FnOk P w K mg base CX0 1 fR fdR ["row"] iy) (kR:W.keepIn K (.ref fR)=true) (bR:Binds K fdR ["row"] []) (mR:mg "row_answer"=some (.ref fR))
  (GH:FnOk P w K mg base CX0 43 fH fdH ["rows","vector"] spHas) (kH:W.keepIn K (.ref fH)=true) (bH:Binds K fdH ["rows","vector"] []) (mH:mg "answer_has"=some (.ref fH))
  (GN:FnOk P w K mg base CX0 c fN fdN ["rows","vector"] spNr) (kN:W.keepIn K (.ref fN)=true) (bN:Binds K fdN ["rows","vector"] []) (mN:mg "answer_near"=some (.ref fN))
  (GT:FnOk P w K mg base CX0 1 fT fdT ["standing","n","rows"] (fw C)) (kT:W.keepIn K (.ref fT)=true) (bT:Binds K fdT ["standing","n","rows"] []) (mT:mg "stand"=some (.ref fT)) :
  FnOk P w K mg base CX0 (c+1) f fd ["standing","name","vector"] (spVec C):=by
 refine F.ok scVec (fun vs H Q E h=>?_) (fun cdv A outer s H vs Q E hr h=>?_)
 ·obtain⟨S,T,r,us,g,p,v,k,rfl,_⟩:=h
  rfl
 ·obtain⟨S,T,r,us,g,p,v,kc,rfl,hT,hst,hv,nrT,hlv,bv,v48,G,hk7,hp,k⟩:=h
  have hr1:Room 1 _:=hr.mono (by omega)
  have hr42:Room 42 _:=hr.mono (by omega)
  have hr43:Room 43 _:=hr.mono (by omega)
  have hr44:Room 44 _:=hr.mono (by omega)
  have hbd:=G.bd hk7
  have hrank:=G.rank
  have hn1:=G.n1
  have hn3:=G.n3
  have EH:=G.form.toEch
  have DV:=Wl.ck EH hlv
  obtain⟨dS,r0,bs,hS,hr0,hbs,nr0,nbs⟩:=hst
  have hst:di C H T S (some g):=⟨dS,r0,bs,hS,hr0,hbs,nr0,nbs⟩
  refine⟨_,aF (cC (ad cV (pv 1) cy (ao _))
    (aK (aV (aJ GT hr1 rfl mT kT bT .nil aS (aA (pv 0) (aA (ae (pv 0) rfl) (aA (aJ GF hr44 rfl mF kF bF .nil aS (aA (af cR (ae (pv 0) rfl) (bJ (aA (pv 2) aE))) (aA (ae (pv 0) rfl) aE))) aE)))))) bE)
   (aF (cC (ad cV (pv 1) cy (ao _)) (aK (aV (aJ GH hr43 rfl mH kH bH .nil aS (aA (ae (pv 0) rfl) (aA (pv 2) aE))))) bE)
   (aF (cC (ad cV (pv 1) cy (ao _)) (aK (aV (aJ GR hr1 rfl mR kR bR .nil aS (aA (bj (ixt K) (aJ GD hr42 rfl mD kD bD .nil aS (aA (pv 2) (aA (ae (pv 0) rfl) aE))) aQ (fun _ _=>rfl)) aE)))) bE)
   (aK (aV (aJ GN hr rfl mN kN bN .nil aS (aA (ae (pv 0) rfl) (aA (pv 2) aE))))))),?_⟩
  have lkN:(stF (nOf (some g)) r0).lookup ("n":Str)=some (.int (g.n:Int)):=rfl
  have lkR:(stF (nOf (some g)) r0).lookup ("rows":Str)=some (.ref r0):=rfl
  have rws:ak H r0 g.h:=⟨bs,hr0,hbs⟩
  rcases hp with e | e | e | e
  ·subst e
   refine⟨_,rfl,rfl,_,rfl,?_⟩
   dsimp only
   rw [if_pos (by decide)]
   refine⟨_,rfl,_,rfl,S,C,dS,_,_,rfl,hS,TS.cl,TS.nN,lkN,_,rfl,S,C,dS,_,_,rfl,hS,TS.cl,TS.nR,lkR,_,rfl,by show 1<=sizeLine; decide,fun l0 hl0=>?_⟩
   have s1:Same H (upd H l0 (.lst [V.ref r])):=Same.new hl0
   refine⟨r0,l0,_,_,rfl,rfl,s1 _ _ hr0,aB,?_,fun l1 hl1=>?_⟩
   ·rw [List.length_map,hbs.len]
    have e:hOf (some g)=g.h:=rfl
    rw [e]
    have:1000<sizeLine:=aq (by omega)
    simp; omega
   have s2:=s1.trans (Same.new (o:=.lst (bs.map V.ref++[V.ref r])) hl1)
   have hL:Wl.Len g.n (g.h++[v]):=G.form.len.append (Wl.Len.one hlv)
   have hcat:(upd (upd H l0 (.lst [V.ref r])) l1 (.lst (bs.map V.ref++[V.ref r]))) l1=some (.lst ((bs++[r]).map V.ref)):=by
    rw [aB,List.map_append]; rfl
   refine⟨_,rfl,S,C,dS,_,_,rfl,s2 _ _ hS,TS.cl,TS.nN,lkN,l1,bs++[r],g.n,4489,g.h++[v],rfl,hcat,aL.append (hbs.keep s2) (aL.one (hv.same s2)),hL,by omega,by simp; omega,hbd.append (Wl.Bds.one (bv.mono (by decide))),?_,fun H3 rr cs s3 h3 hcs hrf hca=>?_⟩
   ·refine gq_fit3 ?_ (by decide) hn3
    simp; omega
   refine f9 (E:=E0) k (step_add (g:=g) hlv) hT hS (s2.trans s3) h3 (s2.free hrf) hcs fun b hb e=>?_
   rcases hca b hb with h | h
   ·rcases List.mem_append.1 h with h | h
    ·exact nbs b h e
    ·simp only [List.mem_cons,List.not_mem_nil,or_false] at h
     exact nrT (h.symm.trans e)
   ·rw [e,s2 _ _ hT] at h; cases h
  ·subst e
   refine⟨_,rfl,rfl,_,rfl,?_⟩
   dsimp only
   rw [if_neg (by decide)]
   refine⟨_,rfl,rfl,_,rfl,?_⟩
   dsimp only
   rw [if_pos (by decide)]
   refine⟨_,rfl,S,C,dS,_,_,rfl,hS,TS.cl,TS.nR,lkR,_,rfl,r0,r,g.n,v,g.h,rfl,rws,hv,EH,hlv,hn3,bv,hbd,k.new (step_has hlv) hst ?_⟩
   have lx:(Tg.divided g.h v).1.length=g.h.length:=DV.qlen
   unfold ik dk
   split
   ·simp; omega
   ·simp
  ·subst e
   refine⟨_,rfl,rfl,_,rfl,?_⟩
   dsimp only
   rw [if_neg (by decide)]
   refine⟨_,rfl,rfl,_,rfl,?_⟩
   dsimp only
   rw [if_neg (by decide)]
   refine⟨_,rfl,rfl,_,rfl,?_⟩
   dsimp only
   rw [if_pos (by decide)]
   refine⟨_,rfl,_,rfl,S,C,dS,_,_,rfl,hS,TS.cl,TS.nR,lkR,r,r0,g.n,6,4489,v,g.h,rfl,hv,rws,EH,hlv,by omega,by omega,bv,hbd,?_,fun H2 t x y s2 ht hx hy=>?_⟩
   ·have:g.h.length*(4489+1)<=3*4490:=Nat.mul_le_mul (by omega) (by omega)
    omega
   have ly:(Tg.divided g.h v).2.length=g.n:=DV.len
   refine⟨t,_,_,_,rfl,rfl,SqT.of ht,rfl,y,_,rfl,hy,by omega,fun H3 q hq s3 hqv=>?_⟩
   exact k.plain (step_left hlv) hst (s2.trans s3) (s2.free hq) hqv (by simp [dk]; omega)
  ·subst e
   refine⟨_,rfl,rfl,_,rfl,?_⟩
   dsimp only
   rw [if_neg (by decide)]
   refine⟨_,rfl,rfl,_,rfl,?_⟩
   dsimp only
   rw [if_neg (by decide)]
   refine⟨_,rfl,rfl,_,rfl,?_⟩
   dsimp only
   rw [if_neg (by decide)]
   refine⟨_,rfl,S,C,dS,_,_,rfl,hS,TS.cl,TS.nR,lkR,_,rfl,r0,r,g.n,v,g.h,rfl,rws,hv,EH,hlv,hn1,hn3,bv,v48,hbd,k.new (step_near hlv) hst ?_⟩
   have IN:=Wl.near_isNear EH hlv
   have h1:=Wl.near_count EH hlv
   have h2:2^g.h.length<=2^3:=Nat.pow_le_pow_right (by decide) (by omega)
   have Lu:Wl.Len g.n (Tg.near g.h v).2:=fun u hu=>((IN.mem u).1 hu).1.len
   have fl:(TgCalls.flat (Tg.near g.h v).2).length<=8*3:=by
    rw [fk Lu]
    exact Nat.mul_le_mul (by omega) hn3
   unfold iA dk
   simp; omega
theorem ok_lat{f C fX fF fM fT:Addr}{fd fdX fdF fdM fdT:FuncData}(F:Fun K "answer_lattice" "answer_lattice" sLat f fd)(TS:TxtS K C)
  (GX:FnOk P w K mg base CX0 44 fX fdX ["rows","others"] spIx) (kX:W.keepIn K (.ref fX)=true) (bX:Binds K fdX ["rows","others"] []) (mX:mg "answer_index"=some (.ref fX))
  (GF:FnOk P w K mg base CX0 44 fF fdF ["vectors","n"] iG) (kF:W.keepIn K (.ref fF)=true) (bF:Binds K fdF ["vectors","n"] []) (mF:mg "form_of"=some (.ref fF))
  (GM:FnOk P w K mg base CX0 46 fM fdM ["rows","others","n"] spMet) (kM:W.keepIn K (.ref fM)=true) (bM:Binds K fdM ["rows","others","n"] []) (mM:mg "met_of"=some (.ref fM))
  (GT:FnOk P w K mg base CX0 1 fT fdT ["standing","n","rows"] (fw C)) (kT:W.keepIn K (.ref fT)=true) (bT:Binds K fdT ["standing","n","rows"] []) (mT:mg "stand"=some (.ref fT)) :
  FnOk P w K mg base CX0 47 f fd ["standing","name","others"] (spLat C):=by
 refine F.ok scLat (fun vs H Q E h=>?_) (fun cdv A outer s H vs Q E hr h=>?_)
 ·obtain⟨S,TT,o,os,us,g,p,l,x,k,rfl,_⟩:=h
  rfl
 ·obtain⟨S,T,o,os,us,g,p,l,x,kc,rfl,hT,hst,ho1,hov,nos,hx,hup,G,hk7,hp,k⟩:=h
  have hr1:Room 1 _:=hr.mono (by omega)
  have hr44:Room 44 _:=hr.mono (by omega)
  have hbd:=G.bd hk7
  have hbo:=fresh_bd hx hup
  have hrank:=G.rank
  have hn1:=G.n1
  have hn3:=G.n3
  have Lx:=Wl.eJ hn1 hn3 hx
  have FX:=Wl.bu Lx
  have rx:=FX.toEch.rank_n
  have hu:=hr.units
  obtain⟨dS,r0,bs,hS,hr0,hbs,nr0,nbs⟩:=hst
  have hst:di C H T S (some g):=⟨dS,r0,bs,hS,hr0,hbs,nr0,nbs⟩
  refine⟨_,aF (cC (ad cV (pv 1) cy (ao _))
    (aK (aV (bJ (aA aQ (aA (pe_ifExp (ad (op_eqD hu) (pv 2) (ae (pv 0) rfl) (ao _)) aQ aQ) aE))))) bE)
   (aF (cC (ad cV (pv 1) cy (ao _)) (aK (aV (aJ GX hr44 rfl mX kX bX .nil aS (aA (ae (pv 0) rfl) (aA (pv 2) aE))))) bE)
   (aF (cC (ad cV (pv 1) cy (ao _)) (aK (aV (aJ GT hr1 rfl mT kT bT .nil aS (aA (pv 0) (aA (ae (pv 0) rfl) (aA (aJ GF hr44 rfl mF kF bF .nil aS (aA (af cR (ae (pv 0) rfl) (pv 2)) (aA (ae (pv 0) rfl) aE))) aE)))))) bE)
   (aK (aV (aJ GT hr1 rfl mT kT bT .nil aS (aA (pv 0) (aA (ae (pv 0) rfl) (aA (aJ GM hr rfl mM kM bM .nil aS (aA (ae (pv 0) rfl) (aA (pv 2) (aA (ae (pv 0) rfl) aE)))) aE)))))))),?_⟩
  have lkN:(stF (nOf (some g)) r0).lookup ("n":Str)=some (.int (g.n:Int)):=rfl
  have lkR:(stF (nOf (some g)) r0).lookup ("rows":Str)=some (.ref r0):=rfl
  have rws:ak H r0 g.h:=⟨bs,hr0,hbs⟩
  rcases hp with e | e | e | e
  ·subst e
   refine⟨_,rfl,rfl,_,rfl,?_⟩
   dsimp only
   rw [if_pos (by decide)]
   refine⟨_,rfl,_,rfl,S,C,dS,_,_,rfl,hS,TS.cl,TS.nR,lkR,dR (Tg.form g.n x),dR g.h,dp_rows ⟨os,ho1,hov⟩,dp_rows rws,shaped_rows _,shaped_rows _,_,rfl,?_⟩
   rw [eqv_rows]
   dsimp only
   have fin:∀z:Int,z=(if Tg.form g.n x=g.h then 1 else 0)->∀q,H q=none->Q (.ref q) (upd H q (.lst [V.int 0,V.int z])):=fun z hz q hq=>
    k.plain (ans:=[0,z]) (by rw [step_same hx,hz]) hst (Same.new hq) hq aB (by show 2<=dk; decide)
   by_cases he:Tg.form g.n x=g.h
   ·rw [if_pos (decide_eq_true he)]
    exact⟨by show 2<=sizeLine; decide,fun q hq=>fin 1 (by rw [if_pos he]) q hq⟩
   ·rw [if_neg (by rw [decide_eq_false he]; decide)]
    exact⟨by show 2<=sizeLine; decide,fun q hq=>fin 0 (by rw [if_neg he]) q hq⟩
  ·subst e
   refine⟨_,rfl,rfl,_,rfl,?_⟩
   dsimp only
   rw [if_neg (by decide)]
   refine⟨_,rfl,rfl,_,rfl,?_⟩
   dsimp only
   rw [if_pos (by decide)]
   refine⟨_,rfl,S,C,dS,_,_,rfl,hS,TS.cl,TS.nR,lkR,_,rfl,r0,o,g.n,g.h,Tg.form g.n x,rfl,rws,⟨os,ho1,hov⟩,G.form.toEch,FX.toEch,hn3,hbd,hbo,k.new (step_index hx) hst ?_⟩
   unfold iP dk
   split
   ·simp
   ·split <;> simp
  ·subst e
   refine⟨_,rfl,rfl,_,rfl,?_⟩
   dsimp only
   rw [if_neg (by decide)]
   refine⟨_,rfl,rfl,_,rfl,?_⟩
   dsimp only
   rw [if_neg (by decide)]
   refine⟨_,rfl,rfl,_,rfl,?_⟩
   dsimp only
   rw [if_pos (by decide)]
   have bl:=hbs.len
   have e0:hOf (some g)=g.h:=rfl
   rw [e0] at bl
   have ol:=hov.len
   refine⟨_,rfl,_,rfl,S,C,dS,_,_,rfl,hS,TS.cl,TS.nN,lkN,_,rfl,S,C,dS,_,_,rfl,hS,TS.cl,TS.nR,lkR,_,rfl,r0,o,_,_,rfl,rfl,hr0,ho1,?_,fun l1 hl1=>?_⟩
   ·rw [List.length_map,List.length_map]
    have:1000<sizeLine:=aq (by omega)
    omega
   have s2:Same H (upd H l1 (.lst (bs.map V.ref++os.map V.ref))):=Same.new hl1
   have hL:Wl.Len g.n (g.h++Tg.form g.n x):=G.form.len.append FX.len
   have hcat:(upd H l1 (.lst (bs.map V.ref++os.map V.ref))) l1=some (.lst ((bs++os).map V.ref)):=by
    rw [aB,List.map_append]
   refine⟨_,rfl,S,C,dS,_,_,rfl,s2 _ _ hS,TS.cl,TS.nN,lkN,l1,bs++os,g.n,4489,g.h++Tg.form g.n x,rfl,hcat,aL.append (hbs.keep s2) (hov.keep s2),hL,by omega,by simp; omega,hbd.append hbo,?_,fun H3 rr cs s3 h3 hcs hrf hca=>?_⟩
   ·refine gq_fit3 ?_ (by decide) hn3
    simp; omega
   refine f9 (E:=E0) k (step_join (g:=g) hx hn1 hn3 G.form.len) hT hS (s2.trans s3) h3 (s2.free hrf) hcs fun b hb e=>?_
   rcases hca b hb with h | h
   ·rcases List.mem_append.1 h with h | h
    ·exact nbs b h e
    ·exact nos b h e
   ·rw [e,s2 _ _ hT] at h; cases h
  ·subst e
   refine⟨_,rfl,rfl,_,rfl,?_⟩
   dsimp only
   rw [if_neg (by decide)]
   refine⟨_,rfl,rfl,_,rfl,?_⟩
   dsimp only
   rw [if_neg (by decide)]
   refine⟨_,rfl,rfl,_,rfl,?_⟩
   dsimp only
   rw [if_neg (by decide)]
   refine⟨_,rfl,_,rfl,S,C,dS,_,_,rfl,hS,TS.cl,TS.nN,lkN,_,rfl,S,C,dS,_,_,rfl,hS,TS.cl,TS.nR,lkR,_,rfl,_,rfl,S,C,dS,_,_,rfl,hS,TS.cl,TS.nN,lkN,r0,o,g.n,4489,g.h,Tg.form g.n x,rfl,rws,⟨os,ho1,hov⟩,G.form.len,FX.len,hn3,by omega,by omega,hbd,hbo,by decide,fun H2 q cs s2 hq hq2 hcs hcn=>?_⟩
   exact f9 (E:=E0) k (step_meet hx) hT hS s2 hq2 hq hcs (ic hT hcn)
abbrev sTo:Stmt:=aj "answer_to"
theorem scTo:FnScope ["standing","call"] ["standing","call"] (aC sTo):=⟨rfl,rfl,rfl,by decide +kernel,rfl,by decide +kernel,by decide +kernel⟩
theorem ok_to{c:Nat}{f C CC fW fI fO fV fL fS fP:Addr}{fd fdW fdI fdO fdV fdL fdS fdP:FuncData}(hc:47<=c)(F:Fun K "answer_to" "answer_to" sTo f fd)(TN:TxtN mg)(TS:TxtS K C)(TC:TxtC K CC)
  (GW:FnOk P w K mg base CX0 46 fW fdW ["standing","call"] (spNew C CC)) (kW:W.keepIn K (.ref fW)=true) (bW:Binds K fdW ["standing","call"] []) (mW:mg "answer_new"=some (.ref fW))
  (GI:FnOk P w K mg base CX0 1 fI fdI ["call","n"] (spFits CC)) (kI:W.keepIn K (.ref fI)=true) (bI:Binds K fdI ["call","n"] []) (mI:mg "fits"=some (.ref fI))
  (GO:FnOk P w K mg base CX0 45 fO fdO ["row","n"] spFor) (kO:W.keepIn K (.ref fO)=true) (bO:Binds K fdO ["row","n"] []) (mO:mg "form_of_row"=some (.ref fO))
  (GV:FnOk P w K mg base CX0 c fV fdV ["standing","name","vector"] (spVec C)) (kV:W.keepIn K (.ref fV)=true) (bV:Binds K fdV ["standing","name","vector"] []) (mV:mg "answer_vector"=some (.ref fV))
  (GL:FnOk P w K mg base CX0 47 fL fdL ["standing","name","others"] (spLat C)) (kL:W.keepIn K (.ref fL)=true) (bL:Binds K fdL ["standing","name","others"] []) (mL:mg "answer_lattice"=some (.ref fL))
  (GS:FnOk P w K mg base CX0 c fS fdS ["standing","bound"] (spSh C)) (kS:W.keepIn K (.ref fS)=true) (bS:Binds K fdS ["standing","bound"] []) (mS:mg "answer_short"=some (.ref fS))
  (GP:FnOk P w K mg base CX0 c fP fdP ["standing","name"] (spPl C)) (kP:W.keepIn K (.ref fP)=true) (bP:Binds K fdP ["standing","name"] []) (mP:mg "answer_plain"=some (.ref fP)) :
  FnOk P w K mg base CX0 (c+1) f fd ["standing","call"] (spTo C CC):=by
 refine F.ok scTo (fun vs H Q E h=>?_) (fun cdv A outer s H vs Q E hr h=>?_)
 ·obtain⟨S,x,T,dx,r,fs,us,s,p,X,R,aft,k,rfl,_⟩:=h
  rfl
 ·obtain⟨S,x,T,dx,r,fs,us,st,p,X,R,aft,kc,rfl,hT,hst,hx,CF,hrv,hrl,nrT,hk,hF,hg,hcost,k⟩:=h
  have k:dh C T S H st (callC p X R) Q:=k
  have hr1:Room 1 _:=hr.mono (by omega)
  have hr45:Room 45 _:=hr.mono (by omega)
  have hr46:Room 46 _:=hr.mono (by omega)
  have hr47:Room 47 _:=hr.mono (by omega)
  obtain⟨t9,hv9⟩:=TN.noL
  obtain⟨t1,hv1⟩:=TN.bad
  obtain⟨dS,r0,bs,hS,hr0,hbs,nr0,nbs⟩:=hst
  have hst:di C H T S st:=⟨dS,r0,bs,hS,hr0,hbs,nr0,nbs⟩
  refine⟨_,aF (cC (ad cV (ae (pv 1) rfl) cy (ao _)) (aK (aV (aJ GW hr46 rfl mW kW bW .nil aS (aA (pv 0) (aA (pv 1) aE))))) bE)
   (aF (cC (ad cV (ae (pv 0) rfl) aQ (ao _)) (aK (aV (bJ (aA (cw rfl hv9 (v:=.int (-9)) ⟨_,rfl⟩) aE)))) bE)
   (aF (cC (pt_not (gg (aJ GI hr1 rfl mI kI bI .nil aS (aA (pv 1) (aA (ae (pv 0) rfl) aE))))) (aK (aV (bJ (aA (cw rfl hv1 (v:=.int (-1)) ⟨_,rfl⟩) aE)))) bE)
   (aF (cC (ad cV (ae (pv 1) rfl) cy (ao _)) (aK (aV (aJ GV hr rfl mV kV bV .nil aS (aA (pv 0) (aA (ae (pv 1) rfl) (aA (ae (pv 1) rfl) aE)))))) bE)
   (aF (cC (ad cV (ae (pv 1) rfl) cy (ao _)) (aK (aV (aJ GL hr47 rfl mL kL bL .nil aS (aA (pv 0) (aA (ae (pv 1) rfl) (aA (aJ GO hr45 rfl mO kO bO .nil aS (aA (ae (pv 1) rfl) (aA (ae (pv 0) rfl) aE))) aE)))))) bE)
   (aF (cC (ad cV (ae (pv 1) rfl) cy (ao _)) (aK (aV (aJ GS hr rfl mS kS bS .nil aS (aA (pv 0) (aA (ae (pv 1) rfl) aE))))) bE)
   (aK (aV (aJ GP hr rfl mP kP bP .nil aS (aA (pv 0) (aA (ae (pv 1) rfl) aE)))))))))),?_⟩
  have lkN:(stF (nOf st) r0).lookup ("n":Str)=some (.int (nOf st)):=rfl
  refine⟨_,rfl,x,CC,dx,fs,_,rfl,hx,TC.cl,TC.nN,CF.name,rfl,_,rfl,?_⟩
  dsimp only
  by_cases h1:p=1
  ·
   subst h1
   rw [if_pos (by decide)]
   have hXR:X.isSome=true/\R.isSome=true:=by
    rcases hk with h | h | h | h
    ·exact h.2
    ·exact absurd h.1 (by decide)
    ·rcases h.1 with q | q | q | q | q | q | q | q <;> exact absurd q (by decide)
    ·rcases h.1 with q | q | q | q | q <;> exact absurd q (by decide)
   cases X with
   | none=>exact absurd hXR.1 (by decide)
   | some n=>
     cases R with
     | none=>exact absurd hXR.2 (by decide)
     | some l=>
       obtain⟨hn0,hup⟩:=fair_new hF
       exact⟨_,rfl,_,rfl,S,x,T,dx,r,fs,us,st,_,n,aft,l,rfl,hT,hst,hx,CF,hrv,hn0,hrl,hup,k⟩
  ·have hnew:¬ V.str (nameOf p)=V.str "new":=by
    rcases hk with h | h | h | h
    ·exact absurd h.1 h1
    ·rw [h.1]; decide
    ·rcases h.1 with q | q | q | q | q | q | q | q <;> rw [q] <;> decide
    ·rcases h.1 with q | q | q | q | q <;> rw [q] <;> decide
   rw [if_neg (by rw [decide_eq_false hnew]; decide)]
   refine⟨_,rfl,S,C,dS,_,_,rfl,hS,TS.cl,TS.nN,lkN,rfl,_,rfl,?_⟩
   dsimp only
   have notFresh:∀y,GridNeutral.callOf (callC p X R)=some y->∀n l,y≠.fresh n l:=by
    intro y hy n l e
    subst e
    rcases hk with h | h | h | h
    ·exact h1 h.1
    ·obtain⟨rfl,hX,rfl⟩:=h
     cases X with
     | none=>exact absurd hX (by decide)
     | some b=>cases (fair_short hF).2.2.symm.trans hy
    ·obtain⟨hp,rfl,hR⟩:=h
     cases R with
     | none=>exact absurd hR (by decide)
     | some v=>rcases hp with q | q | q | q | q | q | q | q <;> subst q <;> cases hy
    ·obtain⟨hp,rfl,rfl⟩:=h
     rcases hp with q | q | q | q | q <;> subst q <;> cases hy
   cases st with
   | none=>
     rw [if_pos (by decide)]
     obtain⟨y,hy,_⟩:=hF.fits
     exact⟨by show 1<=sizeLine; decide,fun q hq=>k.plain (ans:=[-9]) (step_none hy (notFresh y hy)) hst (Same.new hq) hq eW (by show 1<=dk; decide)⟩
   | some g=>
     have G:=hg g rfl
     have hn1:=G.n1
     have hn3:=G.n3
     have hkc:kc<=7:=by omega
     rw [if_neg (fun q=>by have q:=of_decide_eq_true q; injection q with q; have q:(g.n:Int)=0:=q; omega)]
     have hkd:c5 p R=.non\/∃z,c5 p R=.str z:=by
      unfold c5
      split
      ·exact .inr ⟨_,rfl⟩
      ·exact .inl rfl
     have scV:scal (c5 p R) (.str "vector")=true:=by rcases hkd with e | ⟨z,e⟩ <;> rw [e] <;> rfl
     have scL:scal (c5 p R) (.str "lattice")=true:=by rcases hkd with e | ⟨z,e⟩ <;> rw [e] <;> rfl
     refine⟨_,rfl,_,rfl,S,C,dS,_,_,rfl,hS,TS.cl,TS.nN,lkN,x,dx,r,fs,_,_,_,aft,R.getD [],g.n,rfl,hx,CF,hkd,hrv,hrl,hn1,hn3,_,rfl,?_⟩
     dsimp only
     rcases hk with h | h | h | h
     ·exact absurd h.1 h1
     ·
      obtain⟨rfl,hX,rfl⟩:=h
      cases X with
      | none=>exact absurd hX (by decide)
      | some b=>
        obtain⟨b0,b60,_⟩:=fair_short hF
        have ef:df (c5 14 none) (([]:List Int)) g.n=true:=by
         show(decide (0%g.n=0) && decide (0<=12*g.n))=true
         simp
        rw [if_neg (by show ¬ (!df (c5 14 none) [] g.n)=true; rw [ef]; decide)]
        refine⟨_,rfl,x,CC,dx,fs,_,rfl,hx,TC.cl,TC.nK,CF.kind,scV,_,rfl,?_⟩
        dsimp only
        rw [if_neg (by decide)]
        refine⟨_,rfl,x,CC,dx,fs,_,rfl,hx,TC.cl,TC.nK,CF.kind,scL,_,rfl,?_⟩
        dsimp only
        rw [if_neg (by decide)]
        refine⟨_,rfl,x,CC,dx,fs,_,rfl,hx,TC.cl,TC.nN,CF.name,rfl,_,rfl,?_⟩
        dsimp only
        rw [if_pos (by decide)]
        exact⟨_,rfl,_,rfl,x,CC,dx,fs,_,rfl,hx,TC.cl,TC.nU,CF.number,S,T,us,g,b,kc,rfl,hT,hst,G,hkc,b0,b60,k⟩
     ·
      obtain⟨hp,rfl,hR⟩:=h
      cases R with
      | none=>exact absurd hR (by decide)
      | some l=>
        have hl:aN H r l:=hrv
        by_cases hv:p=2\/p=4\/p=5\/p=15
        ·
         have ek:c5 p (some l)=.str "vector":=by
          rcases hv with q | q | q | q <;> rw [q] <;> rfl
         have up:=fair_vec hv hF
         by_cases hlen:l.length=g.n
         ·have ef:df (c5 p (some l)) l g.n=true:=by
           rw [ek]
           unfold df
           rw [if_pos rfl]
           exact decide_eq_true hlen
          rw [if_neg (by show ¬ (!df (c5 p (some l)) l g.n)=true; rw [ef]; decide)]
          refine⟨_,rfl,x,CC,dx,fs,_,rfl,hx,TC.cl,TC.nK,CF.kind,scV,_,rfl,?_⟩
          dsimp only
          rw [if_pos (decide_eq_true ek)]
          refine⟨_,rfl,_,rfl,x,CC,dx,fs,_,rfl,hx,TC.cl,TC.nN,CF.name,_,rfl,x,CC,dx,fs,_,rfl,hx,TC.cl,TC.nR,CF.row,S,T,r,us,g,p,l,kc,rfl,hT,hst,hl,nrT,hlen,bd_upTo up,?_,G,hkc,hv,k⟩
          have:=dot_upTo up
          omega
         ·have ef:df (c5 p (some l)) l g.n=false:=by
           rw [ek]
           unfold df
           rw [if_pos rfl]
           exact decide_eq_false hlen
          rw [if_pos (by show(!df (c5 p (some l)) l g.n)=true; rw [ef]; decide)]
          exact⟨by show 1<=sizeLine; decide,fun q hq=>k.plain (ans:=[-1]) (step_badV hv hlen) hst (Same.new hq) hq eW (by show 1<=dk; decide)⟩
        ·
         have hlt:p=7\/p=8\/p=9\/p=10:=by
          rcases hp with q | q | q | q | q | q | q | q <;> omega
         have ek:c5 p (some l)=.str "lattice":=by
          rcases hlt with q | q | q | q <;> rw [q] <;> rfl
         have up:=fair_lat hlt hF
         have hve:=Wl.vecsOf_eq hn1 hn3 l
         have ef:df (c5 p (some l)) l g.n=decide (l.length%g.n=0/\l.length<=12*g.n):=by
          rw [ek]
          unfold df
          rw [if_neg (by decide),Bool.eq_iff_iff]
          simp
         by_cases hf:l.length%g.n=0/\l.length<=12*g.n
         ·rw [if_pos hf] at hve
          rw [if_neg (by show ¬ (!df (c5 p (some l)) l g.n)=true; rw [ef,decide_eq_true hf]; decide)]
          refine⟨_,rfl,x,CC,dx,fs,_,rfl,hx,TC.cl,TC.nK,CF.kind,scV,_,rfl,?_⟩
          dsimp only
          rw [if_neg (by rw [ek]; decide)]
          refine⟨_,rfl,x,CC,dx,fs,_,rfl,hx,TC.cl,TC.nK,CF.kind,scL,_,rfl,?_⟩
          dsimp only
          rw [if_pos (decide_eq_true ek)]
          refine⟨_,rfl,_,rfl,x,CC,dx,fs,_,rfl,hx,TC.cl,TC.nN,CF.name,_,rfl,x,CC,dx,fs,_,rfl,hx,TC.cl,TC.nR,CF.row,_,rfl,S,C,dS,_,_,rfl,hS,TS.cl,TS.nN,lkN,r,g.n,4,l,rfl,hl,hn1,hn3,hf.1,hf.2,Wl.d8 (b:=4) (by decide) up,by decide,fun H2 o os s2 ho hos hof hon=>?_⟩
          refine⟨S,T,o,os,us,g,p,l,_,kc,rfl,s2 _ _ hT,hst.keep s2,ho,hos,ic hT hon,hve,up,G,hkc,hlt,fun H3 q b3 st3 hq hv3 hl3=>k H3 q (fun b o e hb=>b3 _ _ (s2 _ _ e) hb) st3 (s2.free hq) hv3 hl3⟩
         ·rw [if_neg hf] at hve
          rw [if_pos (by show(!df (c5 p (some l)) l g.n)=true; rw [ef,decide_eq_false hf]; decide)]
          exact⟨by show 1<=sizeLine; decide,fun q hq=>k.plain (ans:=[-1]) (step_badL hlt hve) hst (Same.new hq) hq eW (by show 1<=dk; decide)⟩
     ·
      obtain⟨hp,rfl,rfl⟩:=h
      have ef:df (c5 p none) (([]:List Int)) g.n=true:=by
       show(decide (0%g.n=0) && decide (0<=12*g.n))=true
       simp
      rw [if_neg (by show ¬ (!df (c5 p none) [] g.n)=true; rw [ef]; decide)]
      refine⟨_,rfl,x,CC,dx,fs,_,rfl,hx,TC.cl,TC.nK,CF.kind,scV,_,rfl,?_⟩
      dsimp only
      rw [if_neg (by show ¬ decide (V.non=V.str "vector")=true; decide)]
      refine⟨_,rfl,x,CC,dx,fs,_,rfl,hx,TC.cl,TC.nK,CF.kind,scL,_,rfl,?_⟩
      dsimp only
      rw [if_neg (by show ¬ decide (V.non=V.str "lattice")=true; decide)]
      refine⟨_,rfl,x,CC,dx,fs,_,rfl,hx,TC.cl,TC.nN,CF.name,rfl,_,rfl,?_⟩
      dsimp only
      have hsh:¬ V.str (nameOf p)=V.str "short":=by
       rcases hp with q | q | q | q | q <;> rw [q] <;> decide
      rw [if_neg (by rw [decide_eq_false hsh]; decide)]
      refine⟨_,rfl,_,rfl,x,CC,dx,fs,_,rfl,hx,TC.cl,TC.nN,CF.name,S,T,us,g,p,kc,rfl,hT,hst,G,hkc,?_,?_,k⟩
      ·intro q
       rcases q with q | q
       ·subst q
        have:kc+2<=7:=hcost
        exact this
       ·subst q
        have:kc+2<=7:=hcost
        exact this
      ·rcases hp with q | q | q | q | q
       ·exact .inl q
       ·exact .inr (.inl q)
       ·exact .inr (.inr (.inr (.inl q)))
       ·exact .inr (.inr (.inr (.inr q)))
       ·exact .inr (.inr (.inl q))
def HasDef(K:W.Frag)(x:Str)(st:Stmt):Prop:=∃(f:Addr)(oc:Value)(od an:Option Addr)(sl:Array (Option Value))(kV dc pm cd ct:Value),
 W.nsIn K mainGlobals x=some (some (.ref f))/\K.lookup f=some ⟨oc,od,.func (W.fnOf x x (aU st) (aR st) (aC st) .none kV dc pm an cd ct),sl⟩/\W.codeIn K cd x=true/\W.keepIn K (.ref f)=true
def HasDefN(K:W.Frag)(x:Str)(st:Stmt):Prop:=∃(f T:Addr)(oc:Value)(od an:Option Addr)(sl:Array (Option Value))(kV dc pm cd ct:Value)(oT:Obj)(nT:Nat),
 W.nsIn K mainGlobals x=some (some (.ref f))/\K.lookup f=some ⟨oc,od,.func (W.fnOf x x (aU st) (aR st) (aC st) (.ref T) kV dc pm an cd ct),sl⟩/\W.codeIn K cd x=true/\W.keepIn K (.ref f)=true/\
 K.lookup T=some oT/\oT.data=.seq #[.none] nT
structure Df(K:W.Frag)(mg:Str->Option Value)(x:Str)(st:Stmt)(ps:List Str)(f:Addr)(fd:FuncData):Prop where
 F:Fun K x x st f fd
 b:Binds K fd ps []
 m:mg x=some (.ref f)
section
variable{K:W.Frag}{mg:Str->Option Value}{h0:Heap}{x:Str}{st:Stmt}{ps:List Str}
theorem HasDef.get(h:HasDef K x st)(X:K.In h0)(G:h0.Ns mainGlobals mg)(hb:∀(kV doc pm:Value)(an:Option Addr)(cdv ct:Value)(us:List Value),us.length=ps.length->bindArgs (W.fnOf x x (aU st) (aR st) (aC st) .none kV doc pm an cdv ct) ⟨us,[]⟩=pure (ps.zip us)):∃(f:Addr)(fd:FuncData),Df K mg x st ps f fd:=by
 obtain⟨f,oc,od,an,sl,kV,dc,pm,cd,ct,a,l,c,k⟩:=h
 have F:=il (st:=st) l c k
 exact⟨f,_,F,F.binds hb,W.mg_of X G a⟩
end
theorem hasDef_mk{K:W.Frag}{x:Str}{st:Stmt}{f:Addr}{oc:Value}{od an:Option Addr}{sl:Array (Option Value)}{kV dc pm cd ct:Value}(a:W.nsIn K mainGlobals x=some (some (.ref f)))(l:K.lookup f=some ⟨oc,od,.func (W.fnOf x x (aU st) (aR st) (aC st) .none kV dc pm an cd ct),sl⟩)(c:W.codeIn K cd x=true)(k:W.keepIn K (.ref f)=true):HasDef K x st:=
 ⟨_,_,_,_,_,_,_,_,_,_,a,l,c,k⟩
theorem hasDefN_mk{K:W.Frag}{x:Str}{st:Stmt}{f T:Addr}{oc:Value}{od an:Option Addr}{sl:Array (Option Value)}{kV dc pm cd ct:Value}{oT:Obj}{nT:Nat}(a:W.nsIn K mainGlobals x=some (some (.ref f)))(l:K.lookup f=some ⟨oc,od,.func (W.fnOf x x (aU st) (aR st) (aC st) (.ref T) kV dc pm an cd ct),sl⟩)(c:W.codeIn K cd x=true)(k:W.keepIn K (.ref f)=true)
  (t:K.lookup T=some oT) (d:oT.data=.seq #[.none] nT):HasDefN K x st:=
 ⟨_,_,_,_,_,_,_,_,_,_,_,_,_,a,l,c,k,t,d⟩
theorem modD_mk{K:W.Frag}{a:Addr}{es:Array DictEntry}{ep:Nat}(l:K.lookup a=some ⟨.type "dict",none,.dict es ep,#[]⟩)(k:keysB es=true):ModD K a es:=⟨⟨ep,l⟩,k⟩
theorem fg{mg:Str->Option Value}{x:Str}{v:Int}{t:Nat}(h:mg x=some (.int v t)):∃t,mg x=some (.int v t):=⟨t,h⟩
theorem bnd_less(kV doc pm:Value)(an:Option Addr)(cdv ct:Value)(us:List Value)(hl:us.length=(["vector","times","other"]:List Str).length):bindArgs (W.fnOf "less" "less" (aU gR) (aR gR) (aC gR) .none kV doc pm an cdv ct) ⟨us,[]⟩=pure ((["vector","times","other"]:List Str).zip us):=
 match us,hl with | [_,_,_],_=>rfl
theorem bnd_cleared(kV doc pm:Value)(an:Option Addr)(cdv ct:Value)(us:List Value)(hl:us.length=(["lead","vector","place"]:List Str).length):bindArgs (W.fnOf "cleared" "cleared" (aU sClr) (aR sClr) (aC sClr) .none kV doc pm an cdv ct) ⟨us,[]⟩=pure ((["lead","vector","place"]:List Str).zip us):=
 match us,hl with | [_,_,_],_=>rfl
theorem bnd_gathered(kV doc pm:Value)(an:Option Addr)(cdv ct:Value)(us:List Value)(hl:us.length=(["vectors","n","place"]:List Str).length):bindArgs (W.fnOf "gathered" "gathered" (aU sGat) (aR sGat) (aC sGat) .none kV doc pm an cdv ct) ⟨us,[]⟩=pure ((["vectors","n","place"]:List Str).zip us):=
 match us,hl with | [_,_,_],_=>rfl
theorem bnd_upright(kV doc pm:Value)(an:Option Addr)(cdv ct:Value)(us:List Value)(hl:us.length=(["lead","place"]:List Str).length):bindArgs (W.fnOf "upright" "upright" (aU sUp) (aR sUp) (aC sUp) .none kV doc pm an cdv ct) ⟨us,[]⟩=pure ((["lead","place"]:List Str).zip us):=
 match us,hl with | [_,_],_=>rfl
theorem bnd_form_of(kV doc pm:Value)(an:Option Addr)(cdv ct:Value)(us:List Value)(hl:us.length=(["vectors","n"]:List Str).length):bindArgs (W.fnOf "form_of" "form_of" (aU gp) (aR gp) (aC gp) .none kV doc pm an cdv ct) ⟨us,[]⟩=pure ((["vectors","n"]:List Str).zip us):=
 match us,hl with | [_,_],_=>rfl
theorem bnd_pivot_place(kV doc pm:Value)(an:Option Addr)(cdv ct:Value)(us:List Value)(hl:us.length=(["row"]:List Str).length):bindArgs (W.fnOf "pivot_place" "pivot_place" (aU j2) (aR j2) (aC j2) .none kV doc pm an cdv ct) ⟨us,[]⟩=pure ((["row"]:List Str).zip us):=
 match us,hl with | [_],_=>rfl
theorem bnd_divided(kV doc pm:Value)(an:Option Addr)(cdv ct:Value)(us:List Value)(hl:us.length=(["vector","rows"]:List Str).length):bindArgs (W.fnOf "divided" "divided" (aU sDiv) (aR sDiv) (aC sDiv) .none kV doc pm an cdv ct) ⟨us,[]⟩=pure ((["vector","rows"]:List Str).zip us):=
 match us,hl with | [_,_],_=>rfl
theorem bnd_all_in(kV doc pm:Value)(an:Option Addr)(cdv ct:Value)(us:List Value)(hl:us.length=(["vectors","rows"]:List Str).length):bindArgs (W.fnOf "all_in" "all_in" (aU sAll) (aR sAll) (aC sAll) .none kV doc pm an cdv ct) ⟨us,[]⟩=pure ((["vectors","rows"]:List Str).zip us):=
 match us,hl with | [_,_],_=>rfl
theorem bnd_product(kV doc pm:Value)(an:Option Addr)(cdv ct:Value)(us:List Value)(hl:us.length=(["first","second"]:List Str).length):bindArgs (W.fnOf "product" "product" (aU gn) (aR gn) (aC gn) .none kV doc pm an cdv ct) ⟨us,[]⟩=pure ((["first","second"]:List Str).zip us):=
 match us,hl with | [_,_],_=>rfl
theorem bnd_without(kV doc pm:Value)(an:Option Addr)(cdv ct:Value)(us:List Value)(hl:us.length=(["matrix","column"]:List Str).length):bindArgs (W.fnOf "without" "without" (aU sWo) (aR sWo) (aC sWo) .none kV doc pm an cdv ct) ⟨us,[]⟩=pure ((["matrix","column"]:List Str).zip us):=
 match us,hl with | [_,_],_=>rfl
theorem bnd_determinant(kV doc pm:Value)(an:Option Addr)(cdv ct:Value)(us:List Value)(hl:us.length=(["matrix"]:List Str).length):bindArgs (W.fnOf "determinant" "determinant" (aU sDet) (aR sDet) (aC sDet) .none kV doc pm an cdv ct) ⟨us,[]⟩=pure ((["matrix"]:List Str).zip us):=
 match us,hl with | [_],_=>rfl
theorem bnd_products(kV doc pm:Value)(an:Option Addr)(cdv ct:Value)(us:List Value)(hl:us.length=(["vector","rows"]:List Str).length):bindArgs (W.fnOf "products" "products" (aU gm) (aR gm) (aC gm) .none kV doc pm an cdv ct) ⟨us,[]⟩=pure ((["vector","rows"]:List Str).zip us):=
 match us,hl with | [_,_],_=>rfl
theorem bnd_size_between(kV doc pm:Value)(an:Option Addr)(cdv ct:Value)(us:List Value)(hl:us.length=(["rows","others"]:List Str).length):bindArgs (W.fnOf "size_between" "size_between" (aU jE) (aR jE) (aC jE) .none kV doc pm an cdv ct) ⟨us,[]⟩=pure ((["rows","others"]:List Str).zip us):=
 match us,hl with | [_,_],_=>rfl
theorem bnd_size_of(kV doc pm:Value)(an:Option Addr)(cdv ct:Value)(us:List Value)(hl:us.length=(["rows"]:List Str).length):bindArgs (W.fnOf "size_of" "size_of" (aU i4) (aR i4) (aC i4) .none kV doc pm an cdv ct) ⟨us,[]⟩=pure ((["rows"]:List Str).zip us):=
 match us,hl with | [_],_=>rfl
theorem bnd_pivot_product(kV doc pm:Value)(an:Option Addr)(cdv ct:Value)(us:List Value)(hl:us.length=(["rows"]:List Str).length):bindArgs (W.fnOf "pivot_product" "pivot_product" (aU sPp) (aR sPp) (aC sPp) .none kV doc pm an cdv ct) ⟨us,[]⟩=pure ((["rows"]:List Str).zip us):=
 match us,hl with | [_],_=>rfl
theorem bnd_index_of(kV doc pm:Value)(an:Option Addr)(cdv ct:Value)(us:List Value)(hl:us.length=(["part","rows"]:List Str).length):bindArgs (W.fnOf "index_of" "index_of" (aU sIdx) (aR sIdx) (aC sIdx) .none kV doc pm an cdv ct) ⟨us,[]⟩=pure ((["part","rows"]:List Str).zip us):=
 match us,hl with | [_,_],_=>rfl
theorem bnd_unit(kV doc pm:Value)(an:Option Addr)(cdv ct:Value)(us:List Value)(hl:us.length=(["place","n"]:List Str).length):bindArgs (W.fnOf "unit" "unit" (aU sUn) (aR sUn) (aC sUn) .none kV doc pm an cdv ct) ⟨us,[]⟩=pure ((["place","n"]:List Str).zip us):=
 match us,hl with | [_,_],_=>rfl
theorem bnd_behind(kV doc pm:Value)(an:Option Addr)(cdv ct:Value)(us:List Value)(hl:us.length=(["vectors","ahead","n"]:List Str).length):bindArgs (W.fnOf "behind" "behind" (aU jF) (aR jF) (aC jF) .none kV doc pm an cdv ct) ⟨us,[]⟩=pure ((["vectors","ahead","n"]:List Str).zip us):=
 match us,hl with | [_,_,_],_=>rfl
theorem bnd_met_of(kV doc pm:Value)(an:Option Addr)(cdv ct:Value)(us:List Value)(hl:us.length=(["rows","others","n"]:List Str).length):bindArgs (W.fnOf "met_of" "met_of" (aU iT) (aR iT) (aC iT) .none kV doc pm an cdv ct) ⟨us,[]⟩=pure ((["rows","others","n"]:List Str).zip us):=
 match us,hl with | [_,_,_],_=>rfl
theorem bnd_across_of(kV doc pm:Value)(an:Option Addr)(cdv ct:Value)(us:List Value)(hl:us.length=(["rows","n"]:List Str).length):bindArgs (W.fnOf "across_of" "across_of" (aU iK) (aR iK) (aC iK) .none kV doc pm an cdv ct) ⟨us,[]⟩=pure ((["rows","n"]:List Str).zip us):=
 match us,hl with | [_,_],_=>rfl
theorem bnd_filled_of(kV doc pm:Value)(an:Option Addr)(cdv ct:Value)(us:List Value)(hl:us.length=(["rows","n"]:List Str).length):bindArgs (W.fnOf "filled_of" "filled_of" (aU sFil) (aR sFil) (aC sFil) .none kV doc pm an cdv ct) ⟨us,[]⟩=pure ((["rows","n"]:List Str).zip us):=
 match us,hl with | [_,_],_=>rfl
theorem bnd_length(kV doc pm:Value)(an:Option Addr)(cdv ct:Value)(us:List Value)(hl:us.length=(["vector"]:List Str).length):bindArgs (W.fnOf "length" "length" (aU sLen) (aR sLen) (aC sLen) .none kV doc pm an cdv ct) ⟨us,[]⟩=pure ((["vector"]:List Str).zip us):=
 match us,hl with | [_],_=>rfl
theorem bnd_rounded(kV doc pm:Value)(an:Option Addr)(cdv ct:Value)(us:List Value)(hl:us.length=(["vector","rows"]:List Str).length):bindArgs (W.fnOf "rounded" "rounded" (aU j0) (aR j0) (aC j0) .none kV doc pm an cdv ct) ⟨us,[]⟩=pure ((["vector","rows"]:List Str).zip us):=
 match us,hl with | [_,_],_=>rfl
theorem bnd_reduced(kV doc pm:Value)(an:Option Addr)(cdv ct:Value)(us:List Value)(hl:us.length=(["rows"]:List Str).length):bindArgs (W.fnOf "reduced" "reduced" (aU j1) (aR j1) (aC j1) .none kV doc pm an cdv ct) ⟨us,[]⟩=pure ((["rows"]:List Str).zip us):=
 match us,hl with | [_],_=>rfl
theorem bnd_reached_by_steps(kV doc pm:Value)(an:Option Addr)(cdv ct:Value)(us:List Value)(hl:us.length=(["start","rows","step","bound","most"]:List Str).length):bindArgs (W.fnOf "reached_by_steps" "reached_by_steps" (aU gM) (aR gM) (aC gM) .none kV doc pm an cdv ct) ⟨us,[]⟩=pure ((["start","rows","step","bound","most"]:List Str).zip us):=
 match us,hl with | [_,_,_,_,_],_=>rfl
theorem bnd_least_of(kV doc pm:Value)(an:Option Addr)(cdv ct:Value)(us:List Value)(hl:us.length=(["rows"]:List Str).length):bindArgs (W.fnOf "least_of" "least_of" (aU eE) (aR eE) (aC eE) .none kV doc pm an cdv ct) ⟨us,[]⟩=pure ((["rows"]:List Str).zip us):=
 match us,hl with | [_],_=>rfl
theorem bnd_by_length(kV doc pm:Value)(an:Option Addr)(cdv ct:Value)(us:List Value)(hl:us.length=(["vector"]:List Str).length):bindArgs (W.fnOf "by_length" "by_length" (aU sByl) (aR sByl) (aC sByl) .none kV doc pm an cdv ct) ⟨us,[]⟩=pure ((["vector"]:List Str).zip us):=
 match us,hl with | [_],_=>rfl
theorem bnd_short_of(kV doc pm:Value)(an:Option Addr)(cdv ct:Value)(us:List Value)(hl:us.length=(["rows","n","bound","most"]:List Str).length):bindArgs (W.fnOf "short_of" "short_of" (aU sSht) (aR sSht) (aC sSht) .none kV doc pm an cdv ct) ⟨us,[]⟩=pure ((["rows","n","bound","most"]:List Str).zip us):=
 match us,hl with | [_,_,_,_],_=>rfl
theorem bnd_nearest_of(kV doc pm:Value)(an:Option Addr)(cdv ct:Value)(us:List Value)(hl:us.length=(["rows","point"]:List Str).length):bindArgs (W.fnOf "nearest_of" "nearest_of" (aU iS) (aR iS) (aC iS) .none kV doc pm an cdv ct) ⟨us,[]⟩=pure ((["rows","point"]:List Str).zip us):=
 match us,hl with | [_,_],_=>rfl
theorem bnd_fits(kV doc pm:Value)(an:Option Addr)(cdv ct:Value)(us:List Value)(hl:us.length=(["call","n"]:List Str).length):bindArgs (W.fnOf "fits" "fits" (aU i6) (aR i6) (aC i6) .none kV doc pm an cdv ct) ⟨us,[]⟩=pure ((["call","n"]:List Str).zip us):=
 match us,hl with | [_,_],_=>rfl
theorem bnd_form_of_row(kV doc pm:Value)(an:Option Addr)(cdv ct:Value)(us:List Value)(hl:us.length=(["row","n"]:List Str).length):bindArgs (W.fnOf "form_of_row" "form_of_row" (aU jD) (aR jD) (aC jD) .none kV doc pm an cdv ct) ⟨us,[]⟩=pure ((["row","n"]:List Str).zip us):=
 match us,hl with | [_,_],_=>rfl
theorem bnd_stand(kV doc pm:Value)(an:Option Addr)(cdv ct:Value)(us:List Value)(hl:us.length=(["standing","n","rows"]:List Str).length):bindArgs (W.fnOf "stand" "stand" (aU gb) (aR gb) (aC gb) .none kV doc pm an cdv ct) ⟨us,[]⟩=pure ((["standing","n","rows"]:List Str).zip us):=
 match us,hl with | [_,_,_],_=>rfl
theorem bnd_flat(kV doc pm:Value)(an:Option Addr)(cdv ct:Value)(us:List Value)(hl:us.length=(["rows"]:List Str).length):bindArgs (W.fnOf "flat" "flat" (aU i5) (aR i5) (aC i5) .none kV doc pm an cdv ct) ⟨us,[]⟩=pure ((["rows"]:List Str).zip us):=
 match us,hl with | [_],_=>rfl
theorem bnd_row_answer(kV doc pm:Value)(an:Option Addr)(cdv ct:Value)(us:List Value)(hl:us.length=(["row"]:List Str).length):bindArgs (W.fnOf "row_answer" "row_answer" (aU jZ) (aR jZ) (aC jZ) .none kV doc pm an cdv ct) ⟨us,[]⟩=pure ((["row"]:List Str).zip us):=
 match us,hl with | [_],_=>rfl
theorem bnd_answer_new(kV doc pm:Value)(an:Option Addr)(cdv ct:Value)(us:List Value)(hl:us.length=(["standing","call"]:List Str).length):bindArgs (W.fnOf "answer_new" "answer_new" (aU sNew) (aR sNew) (aC sNew) .none kV doc pm an cdv ct) ⟨us,[]⟩=pure ((["standing","call"]:List Str).zip us):=
 match us,hl with | [_,_],_=>rfl
theorem bnd_answer_has(kV doc pm:Value)(an:Option Addr)(cdv ct:Value)(us:List Value)(hl:us.length=(["rows","vector"]:List Str).length):bindArgs (W.fnOf "answer_has" "answer_has" (aU sHas) (aR sHas) (aC sHas) .none kV doc pm an cdv ct) ⟨us,[]⟩=pure ((["rows","vector"]:List Str).zip us):=
 match us,hl with | [_,_],_=>rfl
theorem bnd_answer_index(kV doc pm:Value)(an:Option Addr)(cdv ct:Value)(us:List Value)(hl:us.length=(["rows","others"]:List Str).length):bindArgs (W.fnOf "answer_index" "answer_index" (aU sIx) (aR sIx) (aC sIx) .none kV doc pm an cdv ct) ⟨us,[]⟩=pure ((["rows","others"]:List Str).zip us):=
 match us,hl with | [_,_],_=>rfl
theorem bnd_answer_least(kV doc pm:Value)(an:Option Addr)(cdv ct:Value)(us:List Value)(hl:us.length=(["rows"]:List Str).length):bindArgs (W.fnOf "answer_least" "answer_least" (aU sLs) (aR sLs) (aC sLs) .none kV doc pm an cdv ct) ⟨us,[]⟩=pure ((["rows"]:List Str).zip us):=
 match us,hl with | [_],_=>rfl
theorem bnd_answer_short(kV doc pm:Value)(an:Option Addr)(cdv ct:Value)(us:List Value)(hl:us.length=(["standing","bound"]:List Str).length):bindArgs (W.fnOf "answer_short" "answer_short" (aU sSh) (aR sSh) (aC sSh) .none kV doc pm an cdv ct) ⟨us,[]⟩=pure ((["standing","bound"]:List Str).zip us):=
 match us,hl with | [_,_],_=>rfl
theorem bnd_answer_near(kV doc pm:Value)(an:Option Addr)(cdv ct:Value)(us:List Value)(hl:us.length=(["rows","vector"]:List Str).length):bindArgs (W.fnOf "answer_near" "answer_near" (aU sNr) (aR sNr) (aC sNr) .none kV doc pm an cdv ct) ⟨us,[]⟩=pure ((["rows","vector"]:List Str).zip us):=
 match us,hl with | [_,_],_=>rfl
theorem bnd_answer_plain(kV doc pm:Value)(an:Option Addr)(cdv ct:Value)(us:List Value)(hl:us.length=(["standing","name"]:List Str).length):bindArgs (W.fnOf "answer_plain" "answer_plain" (aU sPl) (aR sPl) (aC sPl) .none kV doc pm an cdv ct) ⟨us,[]⟩=pure ((["standing","name"]:List Str).zip us):=
 match us,hl with | [_,_],_=>rfl
theorem bnd_answer_vector(kV doc pm:Value)(an:Option Addr)(cdv ct:Value)(us:List Value)(hl:us.length=(["standing","name","vector"]:List Str).length):bindArgs (W.fnOf "answer_vector" "answer_vector" (aU jY) (aR jY) (aC jY) .none kV doc pm an cdv ct) ⟨us,[]⟩=pure ((["standing","name","vector"]:List Str).zip us):=
 match us,hl with | [_,_,_],_=>rfl
theorem bnd_answer_lattice(kV doc pm:Value)(an:Option Addr)(cdv ct:Value)(us:List Value)(hl:us.length=(["standing","name","others"]:List Str).length):bindArgs (W.fnOf "answer_lattice" "answer_lattice" (aU sLat) (aR sLat) (aC sLat) .none kV doc pm an cdv ct) ⟨us,[]⟩=pure ((["standing","name","others"]:List Str).zip us):=
 match us,hl with | [_,_,_],_=>rfl
theorem bnd_answer_to(kV doc pm:Value)(an:Option Addr)(cdv ct:Value)(us:List Value)(hl:us.length=(["standing","call"]:List Str).length):bindArgs (W.fnOf "answer_to" "answer_to" (aU sTo) (aR sTo) (aC sTo) .none kV doc pm an cdv ct) ⟨us,[]⟩=pure ((["standing","call"]:List Str).zip us):=
 match us,hl with | [_,_],_=>rfl
theorem bnd_answers(kV doc pm:Value)(an:Option Addr)(cdv ct:Value)(us:List Value)(hl:us.length=(["calls"]:List Str).length):bindArgs (W.fnOf "answers" "answers" (aU iU) (aR iU) (aC iU) .none kV doc pm an cdv ct) ⟨us,[]⟩=pure ((["calls"]:List Str).zip us):=
 match us,hl with | [_],_=>rfl
theorem bnd_si(kV doc pm:Value)(an:Option Addr)(cdv ct:Value)(us:List Value)(hl:us.length=(["self"]:List Str).length):bindArgs (W.fnOf "__init__" "Standing.__init__" (aU sSI) (aR sSI) (aC sSI) .none kV doc pm an cdv ct) ⟨us,[]⟩=pure ((["self"]:List Str).zip us):=
 match us,hl with | [_],_=>rfl
theorem bnd_ci(kV doc pm:Value)(an:Option Addr)(cdv ct:Value)(us:List Value)(hl:us.length=(["self","calls","place"]:List Str).length):bindArgs (W.fnOf "__init__" "Call.__init__" (aU sCI) (aR sCI) (aC sCI) .none kV doc pm an cdv ct) ⟨us,[]⟩=pure ((["self","calls","place"]:List Str).zip us):=
 match us,hl with | [_,_,_],_=>rfl
theorem bnd_reached{K:W.Frag}{T:Addr}{oT:Obj}{nT:Nat}(lT:K.lookup T=some oT)(hT:oT.data=.seq #[.none] nT)(kV doc pm:Value)(an:Option Addr)(cdv ct:Value) :
  Binds K (W.fnOf "reached" "reached" (aU da) (aR da) (aC da) (.ref T) kV doc pm an cdv ct) ["point","rows","bound","most"] []/\Binds K (W.fnOf "reached" "reached" (aU da) (aR da) (aC da) (.ref T) kV doc pm an cdv ct) ["point","rows","bound","most"] [.none]:=by
 constructor
 ·intro s us X hl
  rw [List.append_nil] at hl ⊢
  match us,hl with
  | [_,_,_,_],_=>exact BindsTo.of_defaults rfl (X _ _ lT) hT rfl rfl
 ·intro s us X hl
  have h3:us.length=3:=by simpa using hl
  match us,h3 with
  | [_,_,_],_=>exact BindsTo.of_defaults rfl (X _ _ lT) hT rfl rfl
theorem reach_all{f fN fB fS fL fT TD:Addr}{fd fdN fdB fdS fdL fdT:FuncData}(hP:P.given.tree=none)(F:FunD K "reached" "reached" da f fd TD)(FT:Fun K "reached_by_steps" "reached_by_steps" gM fT fdT)(T:Txt K mg)
  (bR:Binds K fd ["point","rows","bound","most"] []) (mR:mg "reached"=some (.ref f)) (bT:Binds K fdT ["start","rows","step","bound","most"] []) (mT:mg "reached_by_steps"=some (.ref fT))
  (GN:FnOk P w K mg base CX0 2 fN fdN ["vector"] iF) (kN:W.keepIn K (.ref fN)=true) (bN:Binds K fdN ["vector"] []) (mN:mg "length"=some (.ref fN))
  (GB:FnOk P w K mg base CX0 10 fB fdB ["rows","others"] jA) (kB:W.keepIn K (.ref fB)=true) (bB:Binds K fdB ["rows","others"] []) (mB:mg "size_between"=some (.ref fB))
  (GS:FnOk P w K mg base CX0 11 fS fdS ["rows"] gL) (kS:W.keepIn K (.ref fS)=true) (bS:Binds K fdS ["rows"] []) (mS:mg "size_of"=some (.ref fS))
  (GL:FnOk P w K mg base CX0 1 fL fdL ["vector","times","other"] eD) (kL:W.keepIn K (.ref fL)=true) (bL:Binds K fdL ["vector","times","other"] []) (mL:mg "less"=some (.ref fL)) :
  ∀(k c:Nat),43+2*k<=c->FnOk P w K mg base CX0 c f fd ["point","rows","bound","most"] (eY k)
 | 0,c,hc=>by
   obtain⟨d,rfl⟩:∃d,c=d+1:=⟨c - 1,by omega⟩
   exact ok_reach (k:=0) (c:=d) (by omega) hP F T GN kN bN mN GB kB bB mB GS kS bS mS GL kL bL mL (fn_never (fd:=fdT)) FT.kp bT mT (fun j e=>absurd e (by omega))
 | k+1,c,hc=>by
   obtain⟨d,rfl⟩:∃d,c=d+2:=⟨c - 2,by omega⟩
   have G0:=reach_all hP F FT T bR mR bT mT GN kN bN mN GB kB bB mB GS kS bS mS GL kL bL mL k d (by omega)
   have G1:=ok_steps (k:=k) (c:=d) (by omega) FT T GS kS bS mS GL kL bL mL G0 F.kp bR mR
   exact ok_reach (k:=k+1) (c:=d+1) (by omega) hP F T GN kN bN mN GB kB bB mB GS kS bS mS GL kL bL mL G1 FT.kp bT mT (fun j e vs H Q E q=>by
    have:j=k:=by omega
    subst this
    exact q)
def cZ(K:W.Frag)(es:Array DictEntry)(p:Int)(xs:List L2.V):Prop:=∃(t:Addr)(its:Array Value)(n:Nat)(d:Option Addr)(sl:Array (Option Value)),findBy gJ es (.inl p)=some (.ref t)/\K.lookup t=some ⟨.type "tuple",d,.seq its n,sl⟩/\its.size<=sizeLine/\ay xs its.toList
theorem bt{K:W.Frag}{es:Array DictEntry}{p:Int}{xs:List L2.V}{t:Addr}{its:Array Value}{n:Nat}{d:Option Addr}{sl:Array (Option Value)}(f:findBy gJ es (.inl p)=some (.ref t))(l:K.lookup t=some ⟨.type "tuple",d,.seq its n,sl⟩)(s:its.size<=sizeLine)(v:ay xs its.toList):cZ K es p xs:=⟨t,its,n,d,sl,f,l,s,v⟩
theorem cZ.tab{K:W.Frag}{aT:Addr}{es:Array DictEntry}{p:Int}{nm:Str}{b:Bool}{kd:L2.V}(M:ModD K aT es)(h:cZ K es p [.str nm,.bl b,kd]):TabAt K aT p nm b kd:=by
 obtain⟨t,its,n,d,sl,h1,h2,h3,h4⟩:=h
 exact⟨es,t,M,h1,fun H=>SqT.top h2 h3 h4⟩
theorem tab_ok{K:W.Frag}{aT:Addr}{es:Array DictEntry}(M:ModD K aT es)(r1:cZ K es 1 [.str "new",.bl true,.str "lattice"])(r2:cZ K es 2 [.str "add",.bl false,.str "vector"])(r3:cZ K es 3 [.str "form",.bl false,.non])(r4:cZ K es 4 [.str "has",.bl false,.str "vector"])(r5:cZ K es 5 [.str "left",.bl false,.str "vector"])(r6:cZ K es 6 [.str "size",.bl false,.non])(r7:cZ K es 7 [.str "same",.bl false,.str "lattice"])(r8:cZ K es 8 [.str "index",.bl false,.str "lattice"])(r9:cZ K es 9 [.str "join",.bl false,.str "lattice"])(r10:cZ K es 10 [.str "meet",.bl false,.str "lattice"])(r11:cZ K es 11 [.str "across",.bl false,.non])(r12:cZ K es 12 [.str "fill",.bl false,.non])(r13:cZ K es 13 [.str "least",.bl false,.non])(r14:cZ K es 14 [.str "short",.bl true,.non])(r15:cZ K es 15 [.str "near",.bl false,.str "vector"]):TabOk K aT:=by
 intro p X R hk
 rcases hk with⟨rfl,hX,hR⟩ | ⟨rfl,hX,rfl⟩ | ⟨hp,rfl,hR⟩ | ⟨hp,rfl,rfl⟩
 ·rw [hX]
  have e:c5 1 R=.str "lattice":=by unfold c5; rw [if_pos hR]; rfl
  rw [e]; exact r1.tab M
 ·rw [hX]; exact r14.tab M
 ·have ek:c5 p R=.str (kindOf p):=by unfold c5; rw [if_pos hR]
  rw [ek]
  rcases hp with q | q | q | q | q | q | q | q
  ·subst q; exact r2.tab M
  ·subst q; exact r4.tab M
  ·subst q; exact r5.tab M
  ·subst q; exact r7.tab M
  ·subst q; exact r8.tab M
  ·subst q; exact r9.tab M
  ·subst q; exact r10.tab M
  ·subst q; exact r15.tab M
 ·rcases hp with q | q | q | q | q
  ·subst q; exact r3.tab M
  ·subst q; exact r6.tab M
  ·subst q; exact r11.tab M
  ·subst q; exact r12.tab M
  ·subst q; exact r13.tab M
theorem all_mk{P:Program}{w:World}{K:W.Frag}{h:Heap}{mg:Str->Option Value}{fa C CC aT fS fC:Addr}{fdS fdC:FuncData}(hP:P.given.tree=none)(X:K.In h)(G:h.Ns mainGlobals mg)(hfa:mg "answers"=some (.ref fa))
  (TS:TxtS K C) (MS:Mk K C fS) (FS:Fun K "__init__" "Standing.__init__" sSI fS fdS) (mS:mg "Standing"=some (.ref C)) (TC:TxtC K CC) (MC:Mk K CC fC) (FC:Fun K "__init__" "Call.__init__" sCI fC fdC) (mC:mg "Call"=some (.ref CC)) (mT:mg "CALLS"=some (.ref aT)) (tab:TabOk K aT)
  (h_less:HasDef K "less" gR)
  (h_cleared:HasDef K "cleared" sClr)
  (h_gathered:HasDef K "gathered" sGat)
  (h_upright:HasDef K "upright" sUp)
  (h_form_of:HasDef K "form_of" gp)
  (h_pivot_place:HasDef K "pivot_place" j2)
  (h_divided:HasDef K "divided" sDiv)
  (h_all_in:HasDef K "all_in" sAll)
  (h_product:HasDef K "product" gn)
  (h_without:HasDef K "without" sWo)
  (h_determinant:HasDef K "determinant" sDet)
  (h_products:HasDef K "products" gm)
  (h_size_between:HasDef K "size_between" jE)
  (h_size_of:HasDef K "size_of" i4)
  (h_pivot_product:HasDef K "pivot_product" sPp)
  (h_index_of:HasDef K "index_of" sIdx)
  (h_unit:HasDef K "unit" sUn)
  (h_behind:HasDef K "behind" jF)
  (h_met_of:HasDef K "met_of" iT)
  (h_across_of:HasDef K "across_of" iK)
  (h_filled_of:HasDef K "filled_of" sFil)
  (h_length:HasDef K "length" sLen)
  (h_rounded:HasDef K "rounded" j0)
  (h_reduced:HasDef K "reduced" j1)
  (h_reached_by_steps:HasDef K "reached_by_steps" gM)
  (h_least_of:HasDef K "least_of" eE)
  (h_by_length:HasDef K "by_length" sByl)
  (h_short_of:HasDef K "short_of" sSht)
  (h_nearest_of:HasDef K "nearest_of" iS)
  (h_fits:HasDef K "fits" i6)
  (h_form_of_row:HasDef K "form_of_row" jD)
  (h_stand:HasDef K "stand" gb)
  (h_flat:HasDef K "flat" i5)
  (h_row_answer:HasDef K "row_answer" jZ)
  (h_answer_new:HasDef K "answer_new" sNew)
  (h_answer_has:HasDef K "answer_has" sHas)
  (h_answer_index:HasDef K "answer_index" sIx)
  (h_answer_least:HasDef K "answer_least" sLs)
  (h_answer_short:HasDef K "answer_short" sSh)
  (h_answer_near:HasDef K "answer_near" sNr)
  (h_answer_plain:HasDef K "answer_plain" sPl)
  (h_answer_vector:HasDef K "answer_vector" jY)
  (h_answer_lattice:HasDef K "answer_lattice" sLat)
  (h_answer_to:HasDef K "answer_to" sTo)
  (h_answers:HasDef K "answers" iU)
  (h_reached:HasDefN K "reached" da)
  (n_len:mg "len"=none)
  (n_range:mg "range"=none)
  (n_any:mg "any"=none)
  (n_sum:mg "sum"=none)
  (n_min:mg "min"=none)
  (n_max:mg "max"=none)
  (n_sorted:mg "sorted"=none)
  (v_MOST_PLACES:∃t,mg "MOST_PLACES"=some (.int 3 t))
  (v_MOST_VECTORS:∃t,mg "MOST_VECTORS"=some (.int 12 t))
  (v_NO_LATTICE:∃t,mg "NO_LATTICE"=some (.int (-9) t))
  (v_BAD_HANDED:∃t,mg "BAD_HANDED"=some (.int (-1) t))
  (v_NOT_IN_IT:∃t,mg "NOT_IN_IT"=some (.int (-2) t))
  (v_MOST_SHORT:∃t,mg "MOST_SHORT"=some (.int 4096 t))
  (v_NONE_BUT_ZERO:∃t,mg "NONE_BUT_ZERO"=some (.int (-2) t))
  (v_TOO_MANY:∃t,mg "TOO_MANY"=some (.int (-6) t))
  :∃fd:FuncData,(∀(s:Shared)(us:List Value),us.length=(["calls"]:List Str).length->BindsTo s fd ⟨us,[]⟩ ((["calls"]:List Str).zip us))/\∀base:Heap,K.In base->base.Ns mainGlobals mg->FnOk P w K mg base CX0 54 fa fd ["calls"] (spAns K):=by
 obtain⟨f_less,d_less,D_less⟩:=h_less.get X G (ps:=["vector","times","other"]) bnd_less
 obtain⟨f_cleared,d_cleared,D_cleared⟩:=h_cleared.get X G (ps:=["lead","vector","place"]) bnd_cleared
 obtain⟨f_gathered,d_gathered,D_gathered⟩:=h_gathered.get X G (ps:=["vectors","n","place"]) bnd_gathered
 obtain⟨f_upright,d_upright,D_upright⟩:=h_upright.get X G (ps:=["lead","place"]) bnd_upright
 obtain⟨f_form_of,d_form_of,D_form_of⟩:=h_form_of.get X G (ps:=["vectors","n"]) bnd_form_of
 obtain⟨f_pivot_place,d_pivot_place,D_pivot_place⟩:=h_pivot_place.get X G (ps:=["row"]) bnd_pivot_place
 obtain⟨f_divided,d_divided,D_divided⟩:=h_divided.get X G (ps:=["vector","rows"]) bnd_divided
 obtain⟨f_all_in,d_all_in,D_all_in⟩:=h_all_in.get X G (ps:=["vectors","rows"]) bnd_all_in
 obtain⟨f_product,d_product,D_product⟩:=h_product.get X G (ps:=["first","second"]) bnd_product
 obtain⟨f_without,d_without,D_without⟩:=h_without.get X G (ps:=["matrix","column"]) bnd_without
 obtain⟨f_determinant,d_determinant,D_determinant⟩:=h_determinant.get X G (ps:=["matrix"]) bnd_determinant
 obtain⟨f_products,d_products,D_products⟩:=h_products.get X G (ps:=["vector","rows"]) bnd_products
 obtain⟨f_size_between,d_size_between,D_size_between⟩:=h_size_between.get X G (ps:=["rows","others"]) bnd_size_between
 obtain⟨f_size_of,d_size_of,D_size_of⟩:=h_size_of.get X G (ps:=["rows"]) bnd_size_of
 obtain⟨f_pivot_product,d_pivot_product,D_pivot_product⟩:=h_pivot_product.get X G (ps:=["rows"]) bnd_pivot_product
 obtain⟨f_index_of,d_index_of,D_index_of⟩:=h_index_of.get X G (ps:=["part","rows"]) bnd_index_of
 obtain⟨f_unit,d_unit,D_unit⟩:=h_unit.get X G (ps:=["place","n"]) bnd_unit
 obtain⟨f_behind,d_behind,D_behind⟩:=h_behind.get X G (ps:=["vectors","ahead","n"]) bnd_behind
 obtain⟨f_met_of,d_met_of,D_met_of⟩:=h_met_of.get X G (ps:=["rows","others","n"]) bnd_met_of
 obtain⟨f_across_of,d_across_of,D_across_of⟩:=h_across_of.get X G (ps:=["rows","n"]) bnd_across_of
 obtain⟨f_filled_of,d_filled_of,D_filled_of⟩:=h_filled_of.get X G (ps:=["rows","n"]) bnd_filled_of
 obtain⟨f_length,d_length,D_length⟩:=h_length.get X G (ps:=["vector"]) bnd_length
 obtain⟨f_rounded,d_rounded,D_rounded⟩:=h_rounded.get X G (ps:=["vector","rows"]) bnd_rounded
 obtain⟨f_reduced,d_reduced,D_reduced⟩:=h_reduced.get X G (ps:=["rows"]) bnd_reduced
 obtain⟨f_reached_by_steps,d_reached_by_steps,D_reached_by_steps⟩:=h_reached_by_steps.get X G (ps:=["start","rows","step","bound","most"]) bnd_reached_by_steps
 obtain⟨f_least_of,d_least_of,D_least_of⟩:=h_least_of.get X G (ps:=["rows"]) bnd_least_of
 obtain⟨f_by_length,d_by_length,D_by_length⟩:=h_by_length.get X G (ps:=["vector"]) bnd_by_length
 obtain⟨f_short_of,d_short_of,D_short_of⟩:=h_short_of.get X G (ps:=["rows","n","bound","most"]) bnd_short_of
 obtain⟨f_nearest_of,d_nearest_of,D_nearest_of⟩:=h_nearest_of.get X G (ps:=["rows","point"]) bnd_nearest_of
 obtain⟨f_fits,d_fits,D_fits⟩:=h_fits.get X G (ps:=["call","n"]) bnd_fits
 obtain⟨f_form_of_row,d_form_of_row,D_form_of_row⟩:=h_form_of_row.get X G (ps:=["row","n"]) bnd_form_of_row
 obtain⟨f_stand,d_stand,D_stand⟩:=h_stand.get X G (ps:=["standing","n","rows"]) bnd_stand
 obtain⟨f_flat,d_flat,D_flat⟩:=h_flat.get X G (ps:=["rows"]) bnd_flat
 obtain⟨f_row_answer,d_row_answer,D_row_answer⟩:=h_row_answer.get X G (ps:=["row"]) bnd_row_answer
 obtain⟨f_answer_new,d_answer_new,D_answer_new⟩:=h_answer_new.get X G (ps:=["standing","call"]) bnd_answer_new
 obtain⟨f_answer_has,d_answer_has,D_answer_has⟩:=h_answer_has.get X G (ps:=["rows","vector"]) bnd_answer_has
 obtain⟨f_answer_index,d_answer_index,D_answer_index⟩:=h_answer_index.get X G (ps:=["rows","others"]) bnd_answer_index
 obtain⟨f_answer_least,d_answer_least,D_answer_least⟩:=h_answer_least.get X G (ps:=["rows"]) bnd_answer_least
 obtain⟨f_answer_short,d_answer_short,D_answer_short⟩:=h_answer_short.get X G (ps:=["standing","bound"]) bnd_answer_short
 obtain⟨f_answer_near,d_answer_near,D_answer_near⟩:=h_answer_near.get X G (ps:=["rows","vector"]) bnd_answer_near
 obtain⟨f_answer_plain,d_answer_plain,D_answer_plain⟩:=h_answer_plain.get X G (ps:=["standing","name"]) bnd_answer_plain
 obtain⟨f_answer_vector,d_answer_vector,D_answer_vector⟩:=h_answer_vector.get X G (ps:=["standing","name","vector"]) bnd_answer_vector
 obtain⟨f_answer_lattice,d_answer_lattice,D_answer_lattice⟩:=h_answer_lattice.get X G (ps:=["standing","name","others"]) bnd_answer_lattice
 obtain⟨f_answer_to,d_answer_to,D_answer_to⟩:=h_answer_to.get X G (ps:=["standing","call"]) bnd_answer_to
 obtain⟨f_an,oc,od,an,sl,kV,dc,pm,cd,ct,a_an,l_an,c_an,k_an⟩:=h_answers
 have F_an:=il (st:=iU) l_an c_an k_an
 have e:=hfa.symm.trans (W.mg_of X G a_an)
 cases e
 obtain⟨f_r,TD,ocR,odR,anR,slR,kVR,dcR,pmR,cdR,ctR,oTR,nTR,a_r,l_r,c_r,k_r,lT,hT⟩:=h_reached
 have F_r:FunD K "reached" "reached" da f_r _ TD:=⟨⟨_,_,_,_,_,_,_,_,_,rfl,l_r,c_r⟩,k_r⟩
 have m_r:=W.mg_of X G a_r
 obtain⟨b_r,b_rN⟩:=bnd_reached lT hT kVR dcR pmR anR cdR ctR
 have T:Txt K mg:=⟨n_len,n_range⟩
 have TN:TxtN mg:=⟨v_MOST_PLACES,v_MOST_VECTORS,v_NO_LATTICE,v_BAD_HANDED,v_NOT_IN_IT⟩
 have TM:TxtM mg:=⟨v_MOST_SHORT,v_NONE_BUT_ZERO,v_TOO_MANY⟩
 refine⟨W.fnOf "answers" "answers" (aU iU) (aR iU) (aC iU) .none kV dc pm an cd ct,fun s us hu=>.of_eq (bnd_answers _ _ _ _ _ _ us hu),fun base _ _=>?_⟩
 have hP':=hP
 have G_less:=ok_less (P:=P) (w:=w) (mg:=mg) (base:=base) D_less.F T
 have G_clr:=ok_clr (P:=P) (w:=w) (base:=base) hP D_cleared.F T D_less.F D_less.b D_less.m
 have G_gat:=ok_gat (P:=P) (w:=w) (mg:=mg) (base:=base) D_gathered.F G_clr D_cleared.F.kp D_cleared.b D_cleared.m
 have G_up:=ok_up (P:=P) (w:=w) (mg:=mg) (base:=base) D_upright.F
 have G_form:=ok_form (P:=P) (w:=w) (mg:=mg) (base:=base) hP D_form_of.F T G_less D_less.F.kp D_less.b D_less.m G_gat D_gathered.F.kp D_gathered.b D_gathered.m G_up D_upright.F.kp D_upright.b D_upright.m
 have G_piv:=ok_piv (P:=P) (w:=w) (mg:=mg) (base:=base) D_pivot_place.F
 have G_div:=ok_div (P:=P) (w:=w) (mg:=mg) (base:=base) hP D_divided.F G_less D_less.F.kp D_less.b D_less.m G_piv D_pivot_place.F.kp D_pivot_place.b D_pivot_place.m
 have G_all:=ok_all (P:=P) (w:=w) (mg:=mg) (base:=base) D_all_in.F n_any G_div D_divided.F.kp D_divided.b D_divided.m
 have G_prod:=ok_prod (P:=P) (w:=w) (mg:=mg) (base:=base) D_product.F T n_sum
 have G_wo:=ok_wo (P:=P) (w:=w) (mg:=mg) (base:=base) D_without.F
 have G_det:=ok_det (P:=P) (w:=w) (mg:=mg) (base:=base) D_determinant.F T D_determinant.b D_determinant.m G_wo D_without.F.kp D_without.b D_without.m
 have G_pros:=ok_pros (P:=P) (w:=w) (mg:=mg) (base:=base) D_products.F G_prod D_product.F.kp D_product.b D_product.m
 have G_btw:=ok_btw (P:=P) (w:=w) (mg:=mg) (base:=base) D_size_between.F G_pros D_products.F.kp D_products.b D_products.m G_det D_determinant.F.kp D_determinant.b D_determinant.m
 have G_size:=ok_size (P:=P) (w:=w) (mg:=mg) (base:=base) D_size_of.F G_btw D_size_between.F.kp D_size_between.b D_size_between.m
 have G_pp:=ok_pp (P:=P) (w:=w) (mg:=mg) (base:=base) D_pivot_product.F G_piv D_pivot_place.F.kp D_pivot_place.b D_pivot_place.m
 have G_idx:=ok_idx (P:=P) (w:=w) (mg:=mg) (base:=base) hP D_index_of.F G_pp D_pivot_product.F.kp D_pivot_product.b D_pivot_product.m
 have G_un:=ok_un (P:=P) (w:=w) (mg:=mg) (base:=base) D_unit.F T
 have G_beh:=ok_beh (P:=P) (w:=w) (mg:=mg) (base:=base) D_behind.F G_form D_form_of.F.kp D_form_of.b D_form_of.m G_piv D_pivot_place.F.kp D_pivot_place.b D_pivot_place.m
 have G_met:=ok_met (P:=P) (w:=w) (mg:=mg) (base:=base) D_met_of.F G_beh D_behind.F.kp D_behind.b D_behind.m
 have G_acr:=ok_acr (P:=P) (w:=w) (mg:=mg) (base:=base) D_across_of.F T G_beh D_behind.F.kp D_behind.b D_behind.m G_un D_unit.F.kp D_unit.b D_unit.m
 have G_fil:=ok_fil (P:=P) (w:=w) (mg:=mg) (base:=base) D_filled_of.F G_acr D_across_of.F.kp D_across_of.b D_across_of.m
 have G_len:=ok_len (P:=P) (w:=w) (mg:=mg) (base:=base) D_length.F G_prod D_product.F.kp D_product.b D_product.m
 have G_rnd:=ok_rnd (P:=P) (w:=w) (mg:=mg) (base:=base) hP D_rounded.F T G_btw D_size_between.F.kp D_size_between.b D_size_between.m G_size D_size_of.F.kp D_size_of.b D_size_of.m G_less D_less.F.kp D_less.b D_less.m
 have G_red:=ok_red (P:=P) (w:=w) (mg:=mg) (base:=base) D_reduced.F T n_max G_rnd D_rounded.F.kp D_rounded.b D_rounded.m G_size D_size_of.F.kp D_size_of.b D_size_of.m
 have G_reach:=reach_all (P:=P) (w:=w) (base:=base) hP F_r D_reached_by_steps.F T b_r m_r D_reached_by_steps.b D_reached_by_steps.m G_len D_length.F.kp D_length.b D_length.m G_btw D_size_between.F.kp D_size_between.b D_size_between.m G_size D_size_of.F.kp D_size_of.b D_size_of.m G_less D_less.F.kp D_less.b D_less.m
 have G_r49:∀k,k<=3->FnOk P w K mg base CX0 49 f_r _ ["point","rows","bound","most"] (eY k):=fun k hk=>G_reach k 49 (by omega)
 have G_least:=ok_least (c:=49) (by omega) D_least_of.F T n_min G_red D_reduced.F.kp D_reduced.b D_reduced.m G_len D_length.F.kp D_length.b D_length.m G_r49 k_r b_rN m_r
 have G_byl:=ok_byl (P:=P) (w:=w) (mg:=mg) (base:=base) D_by_length.F G_len D_length.F.kp D_length.b D_length.m
 have G_sht:=ok_sht (c:=49) (by omega) D_short_of.F T n_sorted G_red D_reduced.F.kp D_reduced.b D_reduced.m G_byl D_by_length.b D_by_length.m G_r49 k_r b_r m_r
 have G_nst:=ok_nst (c:=49) (by omega) D_nearest_of.F T n_min n_sorted G_red D_reduced.F.kp D_reduced.b D_reduced.m G_len D_length.F.kp D_length.b D_length.m G_rnd D_rounded.F.kp D_rounded.b D_rounded.m G_less D_less.F.kp D_less.b D_less.m G_r49 k_r b_rN m_r
 have G_for:=ok_for (P:=P) (w:=w) (mg:=mg) (base:=base) D_form_of_row.F T G_form D_form_of.F.kp D_form_of.b D_form_of.m
 have G_row:=ok_row (P:=P) (w:=w) (mg:=mg) (base:=base) D_row_answer.F T
 have G_flat:=ok_flat (P:=P) (w:=w) (mg:=mg) (base:=base) D_flat.F
 have G_stand:=ok_stand (P:=P) (w:=w) (mg:=mg) (base:=base) D_stand.F T TS
 have G_fits:=ok_fits (P:=P) (w:=w) (mg:=mg) (base:=base) D_fits.F T TN TC
 have G_new:=ok_new (P:=P) (w:=w) (mg:=mg) (base:=base) (C:=C) D_answer_new.F TN TC G_fits D_fits.F.kp D_fits.b D_fits.m G_for D_form_of_row.F.kp D_form_of_row.b D_form_of_row.m G_stand D_stand.F.kp D_stand.b D_stand.m
 have G_has:=ok_has (P:=P) (w:=w) (mg:=mg) (base:=base) D_answer_has.F TN n_any G_div D_divided.F.kp D_divided.b D_divided.m G_row D_row_answer.F.kp D_row_answer.b D_row_answer.m
 have G_ix:=ok_ix (P:=P) (w:=w) (mg:=mg) (base:=base) D_answer_index.F T TN G_all D_all_in.F.kp D_all_in.b D_all_in.m G_idx D_index_of.F.kp D_index_of.b D_index_of.m
 have G_ls:=ok_ls (P:=P) (w:=w) (mg:=mg) (base:=base) D_answer_least.F T TM G_least D_least_of.F.kp D_least_of.b D_least_of.m
 have G_nr:=ok_nr (P:=P) (w:=w) (mg:=mg) (base:=base) (by omega) D_answer_near.F T G_nst D_nearest_of.F.kp D_nearest_of.b D_nearest_of.m G_flat D_flat.F.kp D_flat.b D_flat.m G_len D_length.F.kp D_length.b D_length.m G_less D_less.F.kp D_less.b D_less.m
 have G_sh:=ok_sh (P:=P) (w:=w) (mg:=mg) (base:=base) (C:=C) (by omega) D_answer_short.F TM TS G_sht D_short_of.F.kp D_short_of.b D_short_of.m G_flat D_flat.F.kp D_flat.b D_flat.m G_row D_row_answer.F.kp D_row_answer.b D_row_answer.m
 have G_pl:=ok_pl (P:=P) (w:=w) (mg:=mg) (base:=base) (C:=C) (by omega) D_answer_plain.F TS G_flat D_flat.F.kp D_flat.b D_flat.m G_row D_row_answer.F.kp D_row_answer.b D_row_answer.m G_size D_size_of.F.kp D_size_of.b D_size_of.m G_ls D_answer_least.F.kp D_answer_least.b D_answer_least.m G_acr D_across_of.F.kp D_across_of.b D_across_of.m G_fil D_filled_of.F.kp D_filled_of.b D_filled_of.m G_stand D_stand.F.kp D_stand.b D_stand.m
 have G_vec:=ok_vec (P:=P) (w:=w) (mg:=mg) (base:=base) (C:=C) (by omega) D_answer_vector.F TS G_form D_form_of.F.kp D_form_of.b D_form_of.m G_div D_divided.F.kp D_divided.b D_divided.m G_row D_row_answer.F.kp D_row_answer.b D_row_answer.m G_has D_answer_has.F.kp D_answer_has.b D_answer_has.m G_nr D_answer_near.F.kp D_answer_near.b D_answer_near.m G_stand D_stand.F.kp D_stand.b D_stand.m
 have G_lat:=ok_lat (P:=P) (w:=w) (mg:=mg) (base:=base) (C:=C) D_answer_lattice.F TS G_ix D_answer_index.F.kp D_answer_index.b D_answer_index.m G_form D_form_of.F.kp D_form_of.b D_form_of.m G_met D_met_of.F.kp D_met_of.b D_met_of.m G_stand D_stand.F.kp D_stand.b D_stand.m
 have G_sh52:FnOk P w K mg base CX0 52 f_answer_short d_answer_short ["standing","bound"] (spSh C):=ok_sh (c:=51) (by omega) D_answer_short.F TM TS (ok_sht (c:=50) (by omega) D_short_of.F T n_sorted G_red D_reduced.F.kp D_reduced.b D_reduced.m G_byl D_by_length.b D_by_length.m (fun k hk=>G_reach k 50 (by omega)) k_r b_r m_r) D_short_of.F.kp D_short_of.b D_short_of.m G_flat D_flat.F.kp D_flat.b D_flat.m G_row D_row_answer.F.kp D_row_answer.b D_row_answer.m
 have G_to:=ok_to (P:=P) (w:=w) (mg:=mg) (base:=base) (c:=52) (by omega) D_answer_to.F TN TS TC G_new D_answer_new.F.kp D_answer_new.b D_answer_new.m G_fits D_fits.F.kp D_fits.b D_fits.m G_for D_form_of_row.F.kp D_form_of_row.b D_form_of_row.m G_vec D_answer_vector.F.kp D_answer_vector.b D_answer_vector.m G_lat D_answer_lattice.F.kp D_answer_lattice.b D_answer_lattice.m G_sh52 D_answer_short.F.kp D_answer_short.b D_answer_short.m G_pl D_answer_plain.F.kp D_answer_plain.b D_answer_plain.m
 exact ok_ans (kA:=53) F_an T TS TC tab MS (ok_si FS TS) (FS.binds bnd_si) mS MC (ok_ci FC TC mT) (FC.binds bnd_ci) mC G_to D_answer_to.F.kp D_answer_to.b D_answer_to.m (by decide)
end Pw
end
open PySem PySem.W PyProof.Rows
local macro_rules | `(tactic| trivial)=>`(tactic| (refine' Pw.hasDef_mk ?a ?l ?c ?k; (case a=>k_is); (case l=>k_is); (case c=>k_is); (case k=>k_is)))
set_option maxRecDepth 100000 in
set_option maxHeartbeats 0 in
theorem PySem.Challenge.cw_wholelattices_s01_answers_holds : PySem.Challenge.rw_wholelattices_s01_answers.Holds := by
 w_on
 refine holds_os (q:=Pw.view) (loose:=["reached","CALLS"]) (Xt:=Pw.XT) (XP:=XL Pw.view []) (Yf:=Hook.obs (kHook Pw.Kf Pw.Ka Pw.fi)) (Ya:=Hook.val (kHook Pw.Kf Pw.Ka Pw.fi)) (YP:=Hook.says (kHook Pw.Kf Pw.Ka Pw.fi)) (N:=4480) ?hl (Hook.of (kHook Pw.Kf Pw.Ka Pw.fi)) (Hook.keeps (kHook Pw.Kf Pw.Ka Pw.fi)) (fun s e=>xl_of s (Bool.and_eq_true_iff.mp e).1) XL.keeps (by rfl) (by rfl) (by rfl) (fun s e=>recFacts_of (Bool.and_eq_true_iff.mp e).2) os_shapes (by first | assumption | decide +kernel) (by decide +kernel) ⟨rfl,rfl,rfl,rfl,rfl,by decide +kernel⟩ ?hw ?hc
 (case hl=>exact Pw.lft0)
 (case hw=>exact⟨[.list [.int 3]],by decide +kernel,by decide +kernel⟩)
 k_fillS
 refine L2.walk_specK (r:=PySem.Challenge.rw_wholelattices_s01_answers) (k:=54) (CX:=L2.CX0) (ps:=["calls"]) (sp:=Pw.spAns) (by decide +kernel) (by decide +kernel) rfl rfl ⟨rfl,by decide,by decide⟩ (fun w h Y=>PySem.W.kIn_of Y) ?F ?S (fun _ _ _ _ z=>z)
 case F=>
  intro w mg fa h Y KX G hmg
  refine' Pw.all_mk ?hP KX G hmg ?TS ?MS ?FS ?mS ?TC ?MC ?FC ?mC ?mT ?tab ?h_less ?h_cleared ?h_gathered ?h_upright ?h_form_of ?h_pivot_place ?h_divided ?h_all_in ?h_product ?h_without ?h_determinant ?h_products ?h_size_between ?h_size_of ?h_pivot_product ?h_index_of ?h_unit ?h_behind ?h_met_of ?h_across_of ?h_filled_of ?h_length ?h_rounded ?h_reduced ?h_reached_by_steps ?h_least_of ?h_by_length ?h_short_of ?h_nearest_of ?h_fits ?h_form_of_row ?h_stand ?h_flat ?h_row_answer ?h_answer_new ?h_answer_has ?h_answer_index ?h_answer_least ?h_answer_short ?h_answer_near ?h_answer_plain ?h_answer_vector ?h_answer_lattice ?h_answer_to ?h_answers ?h_reached ?n_len ?n_range ?n_any ?n_sum ?n_min ?n_max ?n_sorted ?v_MOST_PLACES ?v_MOST_VECTORS ?v_NO_LATTICE ?v_BAD_HANDED ?v_NOT_IN_IT ?v_MOST_SHORT ?v_NONE_BUT_ZERO ?v_TOO_MANY
  (case hP=>rfl)
  (case mS=>refine' PySem.W.mg_of KX G ?_; k_is)
  (case MS=>refine'⟨?m1,?m2,?m3,?m4⟩; (case m1=>k_is); (case m2=>k_is); (case m3=>k_is); (case m4=>k_is))
  (case FS=>refine' L2.il ?l ?c ?k; (case l=>k_is); (case c=>k_is); (case k=>k_is))
  (case TS=>refine'⟨⟨?t1,?t2,?t3,?t4⟩,?t5,?t6⟩; (case t1=>k_is); (case t2=>k_is); (case t3=>k_is); (case t4=>k_is); (case t5=>unfold L2.cT; k_is); (case t6=>unfold L2.cT; k_is))
  (case mC=>refine' PySem.W.mg_of KX G ?_; k_is)
  (case MC=>refine'⟨?m1,?m2,?m3,?m4⟩; (case m1=>k_is); (case m2=>k_is); (case m3=>k_is); (case m4=>k_is))
  (case FC=>refine' L2.il ?l ?c ?k; (case l=>k_is); (case c=>k_is); (case k=>k_is))
  (case TC=>refine'⟨⟨?t1,?t2,?t3,?t4⟩,?t5,?t6,?t7,?t8,?t9⟩; (case t1=>k_is); (case t2=>k_is); (case t3=>k_is); (case t4=>k_is); (case t5=>unfold L2.cT; k_is); (case t6=>unfold L2.cT; k_is); (case t7=>unfold L2.cT; k_is); (case t8=>unfold L2.cT; k_is); (case t9=>unfold L2.cT; k_is))
  (case mT=>refine' PySem.W.mg_of KX G ?_; k_is)
  (case tab=>
   refine' Pw.tab_ok (Pw.modD_mk ?lT ?keys) ?r1 ?r2 ?r3 ?r4 ?r5 ?r6 ?r7 ?r8 ?r9 ?r10 ?r11 ?r12 ?r13 ?r14 ?r15
   (case lT=>k_is)
   (case keys=>decide +kernel)
   (case r1=>refine' Pw.bt ?f ?l ?s ?v; (case f=>rfl); (case l=>k_is); (case s=>decide); (case v=>exact .cons ⟨_,rfl⟩ (.cons rfl (.cons ⟨_,rfl⟩ .nil))))
   (case r2=>refine' Pw.bt ?f ?l ?s ?v; (case f=>rfl); (case l=>k_is); (case s=>decide); (case v=>exact .cons ⟨_,rfl⟩ (.cons rfl (.cons ⟨_,rfl⟩ .nil))))
   (case r3=>refine' Pw.bt ?f ?l ?s ?v; (case f=>rfl); (case l=>k_is); (case s=>decide); (case v=>exact .cons ⟨_,rfl⟩ (.cons rfl (.cons rfl .nil))))
   (case r4=>refine' Pw.bt ?f ?l ?s ?v; (case f=>rfl); (case l=>k_is); (case s=>decide); (case v=>exact .cons ⟨_,rfl⟩ (.cons rfl (.cons ⟨_,rfl⟩ .nil))))
   (case r5=>refine' Pw.bt ?f ?l ?s ?v; (case f=>rfl); (case l=>k_is); (case s=>decide); (case v=>exact .cons ⟨_,rfl⟩ (.cons rfl (.cons ⟨_,rfl⟩ .nil))))
   (case r6=>refine' Pw.bt ?f ?l ?s ?v; (case f=>rfl); (case l=>k_is); (case s=>decide); (case v=>exact .cons ⟨_,rfl⟩ (.cons rfl (.cons rfl .nil))))
   (case r7=>refine' Pw.bt ?f ?l ?s ?v; (case f=>rfl); (case l=>k_is); (case s=>decide); (case v=>exact .cons ⟨_,rfl⟩ (.cons rfl (.cons ⟨_,rfl⟩ .nil))))
   (case r8=>refine' Pw.bt ?f ?l ?s ?v; (case f=>rfl); (case l=>k_is); (case s=>decide); (case v=>exact .cons ⟨_,rfl⟩ (.cons rfl (.cons ⟨_,rfl⟩ .nil))))
   (case r9=>refine' Pw.bt ?f ?l ?s ?v; (case f=>rfl); (case l=>k_is); (case s=>decide); (case v=>exact .cons ⟨_,rfl⟩ (.cons rfl (.cons ⟨_,rfl⟩ .nil))))
   (case r10=>refine' Pw.bt ?f ?l ?s ?v; (case f=>rfl); (case l=>k_is); (case s=>decide); (case v=>exact .cons ⟨_,rfl⟩ (.cons rfl (.cons ⟨_,rfl⟩ .nil))))
   (case r11=>refine' Pw.bt ?f ?l ?s ?v; (case f=>rfl); (case l=>k_is); (case s=>decide); (case v=>exact .cons ⟨_,rfl⟩ (.cons rfl (.cons rfl .nil))))
   (case r12=>refine' Pw.bt ?f ?l ?s ?v; (case f=>rfl); (case l=>k_is); (case s=>decide); (case v=>exact .cons ⟨_,rfl⟩ (.cons rfl (.cons rfl .nil))))
   (case r13=>refine' Pw.bt ?f ?l ?s ?v; (case f=>rfl); (case l=>k_is); (case s=>decide); (case v=>exact .cons ⟨_,rfl⟩ (.cons rfl (.cons rfl .nil))))
   (case r14=>refine' Pw.bt ?f ?l ?s ?v; (case f=>rfl); (case l=>k_is); (case s=>decide); (case v=>exact .cons ⟨_,rfl⟩ (.cons rfl (.cons rfl .nil))))
   (case r15=>refine' Pw.bt ?f ?l ?s ?v; (case f=>rfl); (case l=>k_is); (case s=>decide); (case v=>exact .cons ⟨_,rfl⟩ (.cons rfl (.cons ⟨_,rfl⟩ .nil)))))
  (case h_less=>trivial)
  (case h_cleared=>trivial)
  (case h_gathered=>trivial)
  (case h_upright=>trivial)
  (case h_form_of=>trivial)
  (case h_pivot_place=>trivial)
  (case h_divided=>trivial)
  (case h_all_in=>trivial)
  (case h_product=>trivial)
  (case h_without=>trivial)
  (case h_determinant=>trivial)
  (case h_products=>trivial)
  (case h_size_between=>trivial)
  (case h_size_of=>trivial)
  (case h_pivot_product=>trivial)
  (case h_index_of=>trivial)
  (case h_unit=>trivial)
  (case h_behind=>trivial)
  (case h_met_of=>trivial)
  (case h_across_of=>trivial)
  (case h_filled_of=>trivial)
  (case h_length=>trivial)
  (case h_rounded=>trivial)
  (case h_reduced=>trivial)
  (case h_reached_by_steps=>trivial)
  (case h_least_of=>trivial)
  (case h_by_length=>trivial)
  (case h_short_of=>trivial)
  (case h_nearest_of=>trivial)
  (case h_fits=>trivial)
  (case h_form_of_row=>trivial)
  (case h_stand=>trivial)
  (case h_flat=>trivial)
  (case h_row_answer=>trivial)
  (case h_answer_new=>trivial)
  (case h_answer_has=>trivial)
  (case h_answer_index=>trivial)
  (case h_answer_least=>trivial)
  (case h_answer_short=>trivial)
  (case h_answer_near=>trivial)
  (case h_answer_plain=>trivial)
  (case h_answer_vector=>trivial)
  (case h_answer_lattice=>trivial)
  (case h_answer_to=>trivial)
  (case h_answers=>trivial)
  (case h_reached=>refine' Pw.hasDefN_mk ?a ?l ?c ?k ?t ?d; (case a=>k_is); (case l=>k_is); (case c=>k_is); (case k=>k_is); (case t=>k_is); (case d=>rfl))
  (case n_len=>refine' PySem.W.mg_none_of KX G ?_; k_is)
  (case n_range=>refine' PySem.W.mg_none_of KX G ?_; k_is)
  (case n_any=>refine' PySem.W.mg_none_of KX G ?_; k_is)
  (case n_sum=>refine' PySem.W.mg_none_of KX G ?_; k_is)
  (case n_min=>refine' PySem.W.mg_none_of KX G ?_; k_is)
  (case n_max=>refine' PySem.W.mg_none_of KX G ?_; k_is)
  (case n_sorted=>refine' PySem.W.mg_none_of KX G ?_; k_is)
  (case v_MOST_PLACES=>refine' Pw.fg (PySem.W.mg_of KX G ?e); (case e=>k_is))
  (case v_MOST_VECTORS=>refine' Pw.fg (PySem.W.mg_of KX G ?e); (case e=>k_is))
  (case v_NO_LATTICE=>refine' Pw.fg (PySem.W.mg_of KX G ?e); (case e=>k_is))
  (case v_BAD_HANDED=>refine' Pw.fg (PySem.W.mg_of KX G ?e); (case e=>k_is))
  (case v_NOT_IN_IT=>refine' Pw.fg (PySem.W.mg_of KX G ?e); (case e=>k_is))
  (case v_MOST_SHORT=>refine' Pw.fg (PySem.W.mg_of KX G ?e); (case e=>k_is))
  (case v_NONE_BUT_ZERO=>refine' Pw.fg (PySem.W.mg_of KX G ?e); (case e=>k_is))
  (case v_TOO_MANY=>refine' Pw.fg (PySem.W.mg_of KX G ?e); (case e=>k_is))
 case S=>
  intro K H xs a hO hwi hask hx
  cases hx with
  | cons h1 h2=>
    cases h2
    cases h1 with
    | lst hs ha=>
      have e:=L2.ints_dw a.1 _ ha
      subst e
      have q:((Codec.inLen 0 800 a.1 && a.1.all (Codec.inInt (-40) 4294967295)) && true)=true:=hwi
      rw [Bool.and_eq_true,Bool.and_eq_true] at q
      exact⟨_,a.1,rfl,hs,hask,(Codec.inNat_iff.mp q.1.1).2,fun H' p hp=>.lst (L2.SqL.of hp) (L2.dw_ints _)⟩
