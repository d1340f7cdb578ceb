import PyProof.Rows.All
import Wide.All
import OpenK.KCall
import OpenK.KCls
import OpenK.KDescr
import OpenK.KGet
import OpenK.KLine
import OpenK.KMake
import OpenK.KMore
import OpenK.KOps
import OpenK.KRaise
import OpenK.KWalk
import OpenK.Peek
import Open.Claim
import Open.Head
import Open.Line
import Open.Row
import KE.IntText
import KE.KFromBytes
import KE.KIntText
import KE.KIsAll
import KE.KItem
import KE.KNest
import KE.KRevSl
import KE.KTryMore
import KE.KxBytes
import Wide.FinOn
import Lean
import PyProof.EqAt
import PyProof.EqKinds
import PyProof.TupleCall
import PyProof.NeKinds
import PyProof.TupleOfGen
import PyProof.Rows.SortWalk
import PyProof.Rows.SumAny
import PyProof.Rows.SortRev
import PyProof.Rows.SortStr
import PyProof.TupleOfSeq
import PyProof.MeetsSeq
import KE.KSortAsk
import KE.KSortTup
import PySem.Challenge.RW_shootdays_k36_first_fit
set_option maxRecDepth 100000
set_option maxHeartbeats 8000000
set_option Elab.async false
set_option linter.unusedVariables false
open PySem PySem.Spec PyProof.Rows
noncomputable section
section
open PySem PySem.Spec PyProof.Rows
namespace L2
def aL (s : Stmt) : Arguments := match s with
 | .FunctionDef _ a _ _ _ _ _ _ _ _ => a
 | _ => { posonlyargs := [], args := [], vararg := none, kwonlyargs := [], kw_defaults := [], kwarg := none, defaults := [] }
end L2
end
section
open PySem PySem.Spec PyProof.Rows
namespace L2
def aB (s : Stmt) : List Stmt := match s with
 | .FunctionDef _ _ b _ _ _ _ _ _ _ => b
 | _ => []
end L2
end
section
open PySem PySem.Spec PyProof.Rows
namespace L2
def ah (s : Stmt) : Scope := match s with
 | .FunctionDef _ _ _ _ _ _ sc _ _ _ => sc
 | _ => { kind := .function, names := [], isGenerator := false, isCoroutine := false }
end L2
end
section
open PySem PySem.Spec PyProof.Rows
namespace I
open L2
def xj : Stmt → List Stmt
 | .ClassDef _ _ _ b _ _ _ _ _ _ _ => b
 | _ => []
end I
end
section
open PySem PySem.Spec PyProof.Rows
namespace Hd
open L2 I
def aw (i : Nat) : Stmt := PySem.Challenge.pw_shootdays_k36_first_fit.main.body.getD i (.Pass ⟨0, 0, 0, 0⟩)
end Hd
end
section
open PySem PySem.Spec PyProof.Rows
namespace Hd
open L2 I
def cb (i j : Nat) : Stmt := (xj (aw i)).getD j (.Pass ⟨0, 0, 0, 0⟩)
end Hd
end
section
open PySem PySem.Spec PyProof.Rows
namespace Hd
open L2 I
def dn : Stmt → Str | .FunctionDef x .. => x | _ => ""
def C2 : Value := .str "shootdays.books" 187
def GO : Value := .str "shootdays.cases" 258
def JO : Value := .str "shootdays.times" 292
def HI : Value := .str "shootdays.orders" 320
def uE : Value := .str "shootdays.rules" 357
def JJ : Value := .str "shootdays.first" 566
def ji : Value := .str "law_shootdays_k36_first_fit" 588
def Jm : Str := "/claim/cut.py"
def fo (s : Stmt) (q : Str) (pm : Value) (c : Addr) : Obj := ⟨.type "function", none, .func (PySem.W.fnOf (dn s) q (aL s) (aB s) (ah s) .none .none .none pm none (.ref c) .none), #[]⟩
def co (s : Stmt) (y : Str) (t : Tok) (l n : Int) (a b : Addr) (u v : Value) (c : Addr) (p q : Int) (z : Tok) : Obj := ⟨.type "code", none, .fields #[.str (dn s) t, .str y (t + 1), .str Jm (t + 2), .int l 0, .int n 0, .int 0 0, .int 0 0, .int 3 0, .ref a, .bool true, .int 181 0, .ref b, .none, u, v, .ref c, .int p 0, .int q 0, .str Jm z], #[]⟩
def f0 (i : Nat) (pm : Value) (c : Addr) : Obj := fo (aw i) (dn (aw i)) pm c
def c0 (i : Nat) : Tok → Int → Int → Addr → Addr → Value → Value → Addr → Int → Int → Tok → Obj := co (aw i) (dn (aw i))
def ke (P : Params) (x : Str) (t : Tok) (v : Value) : DictEntry := ⟨PyData.keyHash P x, .str x t, v⟩
def JT (P : Params) : List DictEntry := [ke P "__name__" 165 ji, ke P "__doc__" 166 (.none), ke P "__package__" 167 (.none), ke P "__loader__" 168 (.builtin "__main__.__loader__#opaque"), ke P "__spec__" 169 (.none), ke P "__annotations__" 170 (.ref 6)]
def Kb (P : Params) : List DictEntry := [ke P "__builtins__" 171 (.ref 4), ke P "__file__" 173 (.str Jm 172), ke P "__cached__" 174 (.none), ke P "MOVE" 190 (.int 1 189), ke P "DAYS" 192 (.int 2 191), ke P "PLACES" 194 (.int 3 193)]
def J9 (P : Params) : List DictEntry := [ke P "PLAYERS" 196 (.int 4 195), ke P "SCENES" 198 (.int 5 197), ke P "NAME" 200 (.int 0 199), ke P "PLACE" 202 (.int 1 201), ke P "LENGTH" 204 (.int 2 203), ke P "WORD" 206 (.int 3 205)]
def Kq (P : Params) : List DictEntry := [ke P "CAST" 208 (.int 4 207), ke P (dn (aw 11)) 218 (.ref 21), ke P (dn (aw 12)) 225 (.ref 28), ke P (dn (aw 13)) 233 (.ref 35), ke P (dn (aw 14)) 241 (.ref 42), ke P (dn (aw 15)) 249 (.ref 49)]
def KF (P : Params) : List DictEntry := [ke P (dn (aw 16)) 257 (.ref 56), ke P (dn (aw 18)) 266 (.ref 63), ke P (dn (aw 19)) 275 (.ref 70), ke P (dn (aw 20)) 285 (.ref 77), ke P (dn (aw 21)) 291 (.ref 82), ke P (dn (aw 23)) 307 (.ref 89)]
def J5 (P : Params) : List DictEntry := [ke P (dn (aw 24)) 319 (.ref 96), ke P "MOST_ON_A_DAY" 323 (.int 5 322), ke P (dn (aw 27)) 335 (.ref 103), ke P (dn (aw 28)) 350 (.ref 110), ke P (dn (aw 29)) 356 (.ref 115), ke P (dn (aw 31)) 367 (.ref 122)]
def Kl (P : Params) : List DictEntry := [ke P "Rule" 403 (.ref 146), ke P "Shut" 440 (.ref 174), ke P "Away" 478 (.ref 200), ke P "Full" 511 (.ref 226), ke P "Tired" 549 (.ref 252), ke P (dn (aw 37)) 555 (.ref 261)]
def Kx (P : Params) : List DictEntry := [ke P (dn (aw 38)) 565 (.ref 268), ke P (dn (aw 40)) 578 (.ref 275), ke P (dn (aw 41)) 587 (.ref 282), ke P (dn (aw 43)) 597 (.ref 289), ke P (dn (aw 44)) 607 (.ref 296), ke P (dn (aw 45)) 617 (.ref 303)]
def Ka (P : Params) : List DictEntry := [ke P (dn (aw 46)) 625 (.ref 310), ke P (dn (aw 47)) 631 (.ref 315), ke P (dn (aw 48)) 644 (.ref 322), ke P (dn (aw 49)) 650 (.ref 327), ke P (dn (aw 50)) 656 (.ref 332), ke P (dn (aw 51)) 670 (.ref 339)]
def Ki (P : Params) : List DictEntry := [ke P (dn (aw 52)) 676 (.ref 344), ke P (dn (aw 53)) 697 (.ref 351), ke P (dn (aw 54)) 703 (.ref 356), ke P (dn (aw 55)) 709 (.ref 361), ke P (dn (aw 56)) 722 (.ref 368), ke P (dn (aw 57)) 735 (.ref 375)]
def Il (P : Params) : List DictEntry := [ke P (dn (aw 58)) 741 (.ref 380), ke P (dn (aw 59)) 747 (.ref 385), ke P (dn (aw 60)) 753 (.ref 390), ke P (dn (aw 61)) 765 (.ref 397), ke P (dn (aw 62)) 771 (.ref 402)]
def kg (P : Params) : Obj := ⟨.type "dict", none, .dict (JT P ++ (Kb P ++ (J9 P ++ (Kq P ++ (KF P ++ (J5 P ++ (Kl P ++ (Kx P ++ (Ka P ++ (Ki P ++ (Il P))))))))))).toArray 65, #[]⟩
def kf (P : Params) : PySem.W.Frag := (nat_lit 3, kg P) :: (nat_lit 20, c0 11 209 12 2 15 16 (.ref 17) (.ref 18) 19 216 12 217) :: (nat_lit 21, f0 11 C2 20) :: (nat_lit 27, c0 12 219 17 1 22 23 (.ref 24) (.ref 25) 26 223 17 224) :: (nat_lit 28, f0 12 C2 27) :: (nat_lit 34, c0 13 226 19 2 29 30 (.ref 31) (.ref 32) 33 231 19 232) :: (nat_lit 35, f0 13 C2 34) :: (nat_lit 41, c0 14 234 21 2 36 37 (.ref 38) (.ref 39) 40 239 21 240) :: (nat_lit 42, f0 14 C2 41) :: (nat_lit 48, c0 15 242 23 2 43 44 (.ref 45) (.ref 46) 47 247 23 248) :: (nat_lit 49, f0 15 C2 48) :: (nat_lit 55, c0 16 250 25 2 50 51 (.ref 52) (.ref 53) 54 255 25 256) :: (nat_lit 56, f0 16 C2 55) :: (nat_lit 62, c0 18 260 28 1 57 58 (.ref 59) (.ref 60) 61 264 28 265) :: (nat_lit 63, f0 18 GO 62) :: (nat_lit 69, c0 19 267 30 3 64 65 (.ref 66) (.ref 67) 68 273 30 274) :: (nat_lit 70, f0 19 GO 69) :: (nat_lit 76, c0 20 276 32 3 71 72 (.ref 73) (.ref 74) 75 283 32 284) :: (nat_lit 77, f0 20 GO 76) :: (nat_lit 81, c0 21 286 34 3 78 79 .none .none 80 289 34 290) :: (nat_lit 82, f0 21 GO 81) :: (nat_lit 88, c0 23 294 38 5 83 84 (.ref 85) (.ref 86) 87 305 38 306) :: (nat_lit 89, f0 23 JO 88) :: (nat_lit 95, c0 24 308 46 4 90 91 (.ref 92) (.ref 93) 94 317 46 318) :: (nat_lit 96, f0 24 JO 95) :: (nat_lit 102, c0 27 324 55 5 97 98 (.ref 99) (.ref 100) 101 333 55 334) :: (nat_lit 103, f0 27 HI 102) :: (nat_lit 109, c0 28 336 60 5 104 105 (.ref 106) (.ref 107) 108 348 60 349) :: (nat_lit 110, f0 28 HI 109) :: (nat_lit 114, c0 29 351 70 3 111 112 .none .none 113 354 70 355) :: (nat_lit 115, f0 29 HI 114) :: (nat_lit 121, c0 31 359 75 2 116 117 (.ref 118) (.ref 119) 120 365 75 366) :: (nat_lit 122, f0 31 uE 121) :: (nat_lit 145, { cls := .type "dict", data := .dict #[ke P "__module__" 375 (.str "shootdays.rules" 357), ke P "__firstlineno__" 379 (.int 80 378), ke P "word" 386 (.ref 136), ke P "broken" 395 (.ref 143), ke P "__static_attributes__" 396 (.ref 144), ke P "__dict__" 398 (.ref 147), ke P "__weakref__" 400 (.ref 148), ke P "__doc__" 401 (.none)] 4 }) :: (nat_lit 146, { cls := .type "type", data := .cls { name := "Rule", bases := [.type "object"], mro := [.ref 146, .type "object"], ns := 145, qualname := "Rule", subclasses := [.ref 174, .ref 200, .ref 226, .ref 252] }, slots := #[none, none, some (.str "Rule" 368), some (.str "Rule" 376), some (.builtin "object.__new__"), some (.bool true)] }) :: (nat_lit 147, { cls := .type "getset_descriptor", data := .fields #[.str "__dict__" 397, .ref 146, .builtin "function.__dict__", .builtin "function.__dict__#set"] }) :: (nat_lit 148, { cls := .type "getset_descriptor", data := .fields #[.str "__weakref__" 399, .ref 146, .builtin "ExceptionGroup.__weakref__", .none] }) :: (nat_lit 151, { cls := .type "tuple", data := .seq #[.ref 146] }) :: (nat_lit 163, co (cb 33 0) "Shut.word" 416 89 1 158 159 (.ref 160) (.ref 161) 162 420 89 421) :: (nat_lit 164, fo (cb 33 0) "Shut.word" uE 163) :: (nat_lit 170, co (cb 33 1) "Shut.broken" 423 92 3 165 166 (.ref 167) (.ref 168) 169 434 92 435) :: (nat_lit 171, fo (cb 33 1) "Shut.broken" uE 170) :: (nat_lit 173, { cls := .type "dict", data := .dict #[ke P "__module__" 411 (.str "shootdays.rules" 357), ke P "__firstlineno__" 415 (.int 87 414), ke P "word" 422 (.ref 164), ke P "broken" 436 (.ref 171), ke P "__static_attributes__" 437 (.ref 172), ke P "__doc__" 438 (.none)] 2 }) :: (nat_lit 174, { cls := .type "type", data := .cls { name := "Shut", bases := [.ref 146], mro := [.ref 174, .ref 146, .type "object"], ns := 173, qualname := "Shut" }, slots := #[some (.ref 151), none, some (.str "Shut" 404), some (.str "Shut" 412), some (.builtin "object.__new__"), some (.bool true)] }) :: (nat_lit 177, { cls := .type "tuple", data := .seq #[.ref 146] }) :: (nat_lit 189, co (cb 34 0) "Away.word" 453 100 1 184 185 (.ref 186) (.ref 187) 188 457 100 458) :: (nat_lit 190, fo (cb 34 0) "Away.word" uE 189) :: (nat_lit 196, co (cb 34 1) "Away.broken" 460 103 3 191 192 (.ref 193) (.ref 194) 195 472 103 473) :: (nat_lit 197, fo (cb 34 1) "Away.broken" uE 196) :: (nat_lit 199, { cls := .type "dict", data := .dict #[ke P "__module__" 448 (.str "shootdays.rules" 357), ke P "__firstlineno__" 452 (.int 98 451), ke P "word" 459 (.ref 190), ke P "broken" 474 (.ref 197), ke P "__static_attributes__" 475 (.ref 198), ke P "__doc__" 476 (.none)] 2 }) :: (nat_lit 200, { cls := .type "type", data := .cls { name := "Away", bases := [.ref 146], mro := [.ref 200, .ref 146, .type "object"], ns := 199, qualname := "Away" }, slots := #[some (.ref 177), none, some (.str "Away" 441), some (.str "Away" 449), some (.builtin "object.__new__"), some (.bool true)] }) :: (nat_lit 203, { cls := .type "tuple", data := .seq #[.ref 146] }) :: (nat_lit 215, co (cb 35 0) "Full.word" 491 111 1 210 211 (.ref 212) (.ref 213) 214 495 111 496) :: (nat_lit 216, fo (cb 35 0) "Full.word" uE 215) :: (nat_lit 222, co (cb 35 1) "Full.broken" 498 114 3 217 218 (.ref 219) (.ref 220) 221 505 114 506) :: (nat_lit 223, fo (cb 35 1) "Full.broken" uE 222) :: (nat_lit 225, { cls := .type "dict", data := .dict #[ke P "__module__" 486 (.str "shootdays.rules" 357), ke P "__firstlineno__" 490 (.int 109 489), ke P "word" 497 (.ref 216), ke P "broken" 507 (.ref 223), ke P "__static_attributes__" 508 (.ref 224), ke P "__doc__" 509 (.none)] 2 }) :: (nat_lit 226, { cls := .type "type", data := .cls { name := "Full", bases := [.ref 146], mro := [.ref 226, .ref 146, .type "object"], ns := 225, qualname := "Full" }, slots := #[some (.ref 203), none, some (.str "Full" 479), some (.str "Full" 487), some (.builtin "object.__new__"), some (.bool true)] }) :: (nat_lit 229, { cls := .type "tuple", data := .seq #[.ref 146] }) :: (nat_lit 241, co (cb 36 0) "Tired.word" 524 121 1 236 237 (.ref 238) (.ref 239) 240 528 121 529) :: (nat_lit 242, fo (cb 36 0) "Tired.word" uE 241) :: (nat_lit 248, co (cb 36 1) "Tired.broken" 531 124 3 243 244 (.ref 245) (.ref 246) 247 543 124 544) :: (nat_lit 249, fo (cb 36 1) "Tired.broken" uE 248) :: (nat_lit 251, { cls := .type "dict", data := .dict #[ke P "__module__" 519 (.str "shootdays.rules" 357), ke P "__firstlineno__" 523 (.int 119 522), ke P "word" 530 (.ref 242), ke P "broken" 545 (.ref 249), ke P "__static_attributes__" 546 (.ref 250), ke P "__doc__" 547 (.none)] 2 }) :: (nat_lit 252, { cls := .type "type", data := .cls { name := "Tired", bases := [.ref 146], mro := [.ref 252, .ref 146, .type "object"], ns := 251, qualname := "Tired" }, slots := #[some (.ref 229), none, some (.str "Tired" 512), some (.str "Tired" 520), some (.builtin "object.__new__"), some (.bool true)] }) :: (nat_lit 260, c0 37 550 130 0 255 256 (.ref 257) (.ref 258) 259 553 130 554) :: (nat_lit 261, f0 37 uE 260) :: (nat_lit 267, c0 38 556 132 2 262 263 (.ref 264) (.ref 265) 266 563 132 564) :: (nat_lit 268, f0 38 uE 267) :: (nat_lit 274, c0 40 568 139 3 269 270 (.ref 271) (.ref 272) 273 576 139 577) :: (nat_lit 275, f0 40 JJ 274) :: (nat_lit 281, c0 41 579 145 1 276 277 (.ref 278) (.ref 279) 280 585 145 586) :: (nat_lit 282, f0 41 JJ 281) :: (nat_lit 288, c0 43 590 153 2 283 284 (.ref 285) (.ref 286) 287 595 153 596) :: (nat_lit 289, f0 43 ji 288) :: (nat_lit 295, c0 44 598 157 2 290 291 (.ref 292) (.ref 293) 294 605 157 606) :: (nat_lit 296, f0 44 ji 295) :: (nat_lit 302, c0 45 608 166 2 297 298 (.ref 299) (.ref 300) 301 615 166 616) :: (nat_lit 303, f0 45 ji 302) :: (nat_lit 309, c0 46 618 171 1 304 305 (.ref 306) (.ref 307) 308 623 171 624) :: (nat_lit 310, f0 46 ji 309) :: (nat_lit 314, c0 47 626 176 2 311 312 .none .none 313 629 176 630) :: (nat_lit 315, f0 47 ji 314) :: (nat_lit 321, c0 48 632 186 3 316 317 (.ref 318) (.ref 319) 320 642 186 643) :: (nat_lit 322, f0 48 ji 321) :: (nat_lit 326, c0 49 645 193 2 323 324 .none .none 325 648 193 649) :: (nat_lit 327, f0 49 ji 326) :: (nat_lit 331, c0 50 651 196 2 328 329 .none .none 330 654 196 655) :: (nat_lit 332, f0 50 ji 331) :: (nat_lit 338, c0 51 657 199 2 333 334 (.ref 335) (.ref 336) 337 668 199 669) :: (nat_lit 339, f0 51 ji 338) :: (nat_lit 343, c0 52 671 208 5 340 341 .none .none 342 674 208 675) :: (nat_lit 344, f0 52 ji 343) :: (nat_lit 350, c0 53 677 216 3 345 346 (.ref 347) (.ref 348) 349 695 216 696) :: (nat_lit 351, f0 53 ji 350) :: (nat_lit 355, c0 54 698 230 3 352 353 .none .none 354 701 230 702) :: (nat_lit 356, f0 54 ji 355) :: (nat_lit 360, c0 55 704 232 3 357 358 .none .none 359 707 232 708) :: (nat_lit 361, f0 55 ji 360) :: (nat_lit 367, c0 56 710 238 3 362 363 (.ref 364) (.ref 365) 366 720 238 721) :: (nat_lit 368, f0 56 ji 367) :: (nat_lit 374, c0 57 723 250 3 369 370 (.ref 371) (.ref 372) 373 733 250 734) :: (nat_lit 375, f0 57 ji 374) :: (nat_lit 379, c0 58 736 258 3 376 377 .none .none 378 739 258 740) :: (nat_lit 380, f0 58 ji 379) :: (nat_lit 384, c0 59 742 268 2 381 382 .none .none 383 745 268 746) :: (nat_lit 385, f0 59 ji 384) :: (nat_lit 389, c0 60 748 275 2 386 387 .none .none 388 751 275 752) :: (nat_lit 390, f0 60 ji 389) :: (nat_lit 396, c0 61 754 288 1 391 392 (.ref 393) (.ref 394) 395 763 288 764) :: (nat_lit 397, f0 61 ji 396) :: (nat_lit 401, c0 62 766 300 1 398 399 .none .none 400 769 300 770) :: (nat_lit 402, f0 62 ji 401) :: []
def ka : List Addr := [3, 20, 21, 27, 28, 34, 35, 41, 42, 48, 49, 55, 56, 62, 63, 69, 70, 76, 77, 81, 82, 88, 89, 95, 96, 102, 103, 109, 110, 114, 115, 121, 122, 145, 146, 147, 148, 151, 163, 164, 170, 171, 173, 174, 177, 189, 190, 196, 197, 199, 200, 203, 215, 216, 222, 223, 225, 226, 229, 241, 242, 248, 249, 251, 252, 260, 261, 267, 268, 274, 275, 281, 282, 288, 289, 295, 296, 302, 303, 309, 310, 314, 315, 321, 322, 326, 327, 331, 332, 338, 339, 343, 344, 350, 351, 355, 356, 360, 361, 367, 368, 374, 375, 379, 380, 384, 385, 389, 390, 396, 397, 401, 402]
theorem zJ (P : Params) : ka = (kf P).map (·.1) := by kernel_rfl
def vw : Program := { PySem.Challenge.pw_shootdays_k36_first_fit with main := { PySem.Challenge.pw_shootdays_k36_first_fit.main with body := [aw 1, aw 2, aw 3, aw 4, aw 5, aw 6, aw 7, aw 8, aw 9, aw 10, aw 11, aw 12, aw 13, aw 14, aw 15, aw 16, aw 18, aw 19, aw 20, aw 21, aw 23, aw 24, aw 26, aw 27, aw 28, aw 29, aw 31, aw 32, aw 33, aw 34, aw 35, aw 36, aw 37, aw 38, aw 40, aw 41, aw 43, aw 44, aw 45, aw 46, aw 47, aw 48, aw 49, aw 50, aw 51, aw 52, aw 53, aw 54, aw 55, aw 56, aw 57, aw 58, aw 59, aw 60, aw 61, aw 62] } }
end Hd
end
section
open PySem PySem.W PyProof.Rows
theorem Hd.tlook : PySem.Challenge.rw_shootdays_k36_first_fit.wellSaid = true := by kernel_rfl
theorem Hd.pr3 {α β γ δ : Type} {x : Option α} {f : α → β × γ} {g : α → δ} {a : β × γ} {d : δ} (h1 : x.map (fun s => (f s).1) = some a.1) (h2 : x.map (fun s => (f s).2) = some a.2) (h3 : x.map g = some d) : x.map (fun s => (f s, g s)) = some (a, d) := by
  cases x with
  | none => cases h1
  | some s =>
    show some (f s, g s) = _
    rw [show f s = a from Prod.ext (Option.some.inj h1) (Option.some.inj h2), Option.some.inj h3]
theorem Hd.th1 (w : World) : (openEnds treeTable (OpenLaw.row PySem.Challenge.rw_shootdays_k36_first_fit).prog w 5646).map (fun s => (openSeen Hd.vw [] (importedModules (OpenLaw.row PySem.Challenge.rw_shootdays_k36_first_fit).prog.main.body) (fun s => xlAt Hd.vw [] s && recOk (OpenRow.toRowW (OpenLaw.row PySem.Challenge.rw_shootdays_k36_first_fit)).records s) true s).1) = some ((openGood Hd.vw []).1) := by kernel_rfl
theorem Hd.th2 (w : World) : (openEnds treeTable (OpenLaw.row PySem.Challenge.rw_shootdays_k36_first_fit).prog w 5646).map (fun s => (openSeen Hd.vw [] (importedModules (OpenLaw.row PySem.Challenge.rw_shootdays_k36_first_fit).prog.main.body) (fun s => xlAt Hd.vw [] s && recOk (OpenRow.toRowW (OpenLaw.row PySem.Challenge.rw_shootdays_k36_first_fit)).records s) true s).2) = some ((openGood Hd.vw []).2) := by kernel_rfl
theorem Hd.th3 (w : World) : (openEnds treeTable (OpenLaw.row PySem.Challenge.rw_shootdays_k36_first_fit).prog w 5646).map (fun s => (Hook.obs (kHook Hd.kf Hd.ka Hd.zJ)) s) = some ((Hook.val (kHook Hd.kf Hd.ka Hd.zJ)) w) := by kernel_rfl
theorem Hd.thl : LeftO (OpenLaw.row PySem.Challenge.rw_shootdays_k36_first_fit).prog Hd.vw [] (fun s => xlAt Hd.vw [] s && recOk (OpenRow.toRowW (OpenLaw.row PySem.Challenge.rw_shootdays_k36_first_fit)).records s) (Hook.obs (kHook Hd.kf Hd.ka Hd.zJ)) (Hook.val (kHook Hd.kf Hd.ka Hd.zJ)) 5646 := fun w => Hd.pr3 (f := fun s => openSeen Hd.vw [] (importedModules (OpenLaw.row PySem.Challenge.rw_shootdays_k36_first_fit).prog.main.body) (fun s => xlAt Hd.vw [] s && recOk (OpenRow.toRowW (OpenLaw.row PySem.Challenge.rw_shootdays_k36_first_fit)).records s) true s) (g := fun s => (Hook.obs (kHook Hd.kf Hd.ka Hd.zJ)) s) (Hd.th1 w) (Hd.th2 w) (Hd.th3 w)
end
section
namespace L2
inductive V where
 | non | bl (b : Bool) | int (i : Int) | str (x : Str) | byt (b : Array UInt8) | flt (b : UInt64) | ref (a : Addr) | ty (n : String)
 deriving DecidableEq
def RelV : V → Value → Prop
 | .non, u => u = Value.none
 | .bl b, u => u = Value.bool b
 | .int i, u => ∃ t, u = Value.int i t
 | .str x, u => ∃ t, u = Value.str x t
 | .byt b, u => ∃ t, u = Value.bytes b t
 | .flt b, u => ∃ t, u = Value.float b t
 | .ref a, u => u = Value.ref a
 | .ty n, u => u = Value.type n
abbrev al : List V → List Value → Prop := Paired RelV
theorem al.length (r : al xs us) : xs.length = us.length := Paired.length r
theorem al.get : ∀ {xs} {us} {i : Nat} {x}, al xs us → xs[i]? = some x → ∃ u, us[i]? = some u ∧ RelV x u
 | _, _, _, _, .nil, e => by simp at e
 | _, _, 0, _, .cons r _, e => by grind
 | _, _, i + 1, x, .cons _ t, e => by
  obtain ⟨u, h1, h2⟩ := al.get t (by simpa using e)
  grind
theorem al.set (r : RelV x u) : ∀ {xs} {us} (i : Nat), al xs us → al (xs.set i x) (us.set i u)
 | _, _, _, .nil => .nil
 | _, _, 0, .cons _ t => .cons r t
 | _, _, i + 1, .cons q t => .cons q (al.set r i t)
theorem al.append : ∀ {xs ys} {us ws}, al xs us → al ys ws → al (xs ++ ys) (us ++ ws)
 | _, _, _, _, .nil, s => s
 | _, _, _, _, .cons r t, s => .cons r (al.append t s)
theorem al.take : ∀ {xs} {us} (n : Nat), al xs us → al (xs.take n) (us.take n)
 | _, _, 0, _ => .nil
 | _, _, _ + 1, .nil => .nil
 | _, _, n + 1, .cons r t => .cons r (al.take n t)
theorem al.drop : ∀ {xs} {us} (n : Nat), al xs us → al (xs.drop n) (us.drop n)
 | _, _, 0, r => r
 | _, _, _ + 1, .nil => .nil
 | _, _, n + 1, .cons _ t => al.drop n t
def rL : Option V → Option Value → Prop
 | some v, some u => RelV v u
 | none, none => True
 | _, _ => False
inductive HO where
 | lst (xs : List V)
 | tup (xs : List V)
 | set (S : Int → Bool) (n : Nat)
 | ins (C dx : Addr) (fs : List (Str × V))
 | own (x : Addr)
 | xd (fs : List (Str × V))
 | met (f x : Addr)
 | rng (lo hi : Int)
 | frz (o : Obj) (u : HO)
 | tbl (ps : Array Value)
 | ext (φ : Heap → Prop)
abbrev Hp := Addr → Option HO
def bq (H : Hp) (a : Addr) (o : HO) : Hp := fun b => if b = a then some o else H b
theorem bD : bq H a o a = some o := by unfold bq; rw [if_pos rfl]
theorem az {a b} {o} (h : b ≠ a) : bq H a o b = H b := by unfold bq; rw [if_neg h]
theorem aQ {H : Hp} {a b} {o} (h : H a = some o) (h' : H b = none) : a ≠ b := by
 grind
section
variable (P : Program) (w : World)
def bv (H : Hp) (h : Heap) (a : Addr) : HO → Prop
 | .lst xs => xs.length ≤ sizeLine ∧ ∃ (its : List Value) (n : Nat), al xs its ∧ h.get? a = some { cls := .type "list", data := .seq its.toArray n }
 | .tup xs => xs.length ≤ sizeLine ∧ ∃ its : List Value, al xs its ∧ IsTup h a its.toArray
 | .set S n => h.SetOf (intKind P w) a S n
 | .ins C dx fs => H dx = some (.own a) ∧ fs.length ≤ 1000 ∧ dx ≠ a ∧ h.get? a = some (PySem.W.instObj C dx) ∧
  ∃ mA, h.Ns1 dx mA ∧ (∀ f, rL (fs.lookup f) (mA f)) ∧ PySem.Within mA (fs.map (·.1))
 | .own _ => ∃ o, h.get? a = some o
 | .xd fs => ∃ mA, h.Ns1 a mA ∧ ∀ f, rL (fs.lookup f) (mA f)
 | .rng lo hi => ∃ t u v, h.get? a = some { cls := .type "range", data := .fields #[.int lo t, .int hi u, .int 1 v] }
 | .frz o u => h.get? a = some o ∧ bv H h a u
 | .tbl ps => h.get? a = some { cls := .none, data := .fields ps }
 | .met f x => h.get? a = some (PySem.W.methodObj (.ref f) (.ref x))
 | .ext φ => φ h ∧ (∃ o, h.get? a = some o) ∧ ∀ h1 h2 : Heap, φ h1 → (∀ o, h1.get? a = some o → h2.get? a = some o) → φ h2
def fI (H : Hp) (h : Heap) : Prop := ∀ a o, H a = some o → bv P w H h a o
end
section
variable {P : Program} {w : World} {H H' : Hp} {h h' : Heap} {a : Addr} {o : HO}
theorem bv.lt (x : bv P w H h a o) : a < h.objs.size := by
 cases o with
 | lst xs => obtain ⟨_, _, _, _, e⟩ := x; exact Heap.lt_size e
 | tup xs => obtain ⟨_, _, _, p⟩ := x; exact p.lt
 | set S n => obtain ⟨o, _, _, _, e, _⟩ := x; exact Heap.lt_size e
 | ins C dx fs => obtain ⟨_, _, _, e, _⟩ := x; exact Heap.lt_size e
 | own y => obtain ⟨_, e⟩ := x; exact Heap.lt_size e
 | xd fs => obtain ⟨_, ⟨_, _, _, e, _⟩, _⟩ := x; exact Heap.lt_size e
 | rng lo hi => obtain ⟨_, _, _, e⟩ := x; exact Heap.lt_size e
 | frz ob u => obtain ⟨e, _⟩ := x; exact Heap.lt_size e
 | tbl ps => exact Heap.lt_size (show h.get? a = some _ from x)
 | met f y => exact Heap.lt_size (show h.get? a = some _ from x)
 | ext φ => obtain ⟨_, ⟨_, e⟩, _⟩ := x; exact Heap.lt_size e
theorem bv.stay (x : bv P w H h a o) (k : ∀ b u, (b = a ∨ H b = some (.own a)) → h.get? b = some u → h'.get? b = some u)
 (ho : ∀ b, H b = some (.own a) → H' b = some (.own a)) : bv P w H' h' a o := by
 induction o with
 | lst xs => obtain ⟨z, its, n, r, e⟩ := x; exact ⟨z, its, n, r, k _ _ (.inl rfl) e⟩
 | tup xs => obtain ⟨z, its, r, ob, e, c⟩ := x; exact ⟨z, its, r, ob, k _ _ (.inl rfl) e, c⟩
 | set S n => obtain ⟨ob, es, ep, t, e, c⟩ := x; exact ⟨ob, es, ep, t, k _ _ (.inl rfl) e, c⟩
 | ins C dx fs =>
  obtain ⟨d, z, ne, e, mA, ⟨od, es, ep, e2, c⟩, r⟩ := x
  exact ⟨ho _ d, z, ne, k _ _ (.inl rfl) e, mA, ⟨od, es, ep, k _ _ (.inr d) e2, c⟩, r⟩
 | own y => obtain ⟨ob, e⟩ := x; exact ⟨ob, k _ _ (.inl rfl) e⟩
 | xd fs => obtain ⟨mA, ⟨od, es, ep, e, c⟩, r⟩ := x; exact ⟨mA, ⟨od, es, ep, k _ _ (.inl rfl) e, c⟩, r⟩
 | rng lo hi => obtain ⟨t, u, v, e⟩ := x; exact ⟨t, u, v, k _ _ (.inl rfl) e⟩
 | frz ob u ih => obtain ⟨e, q⟩ := x; exact ⟨k _ _ (.inl rfl) e, ih q⟩
 | tbl ps =>
  have e : h.get? a = some { cls := .none, data := .fields ps } := x
  show h'.get? a = some { cls := .none, data := .fields ps }
  exact k a _ (.inl rfl) e
 | met f y =>
  have e : h.get? a = some (PySem.W.methodObj (.ref f) (.ref y)) := x
  show h'.get? a = some (PySem.W.methodObj (.ref f) (.ref y))
  exact k a _ (.inl rfl) e
 | ext φ => obtain ⟨p, ⟨o, e⟩, st⟩ := x; exact ⟨st _ _ p fun o q => k _ _ (.inl rfl) q, ⟨o, k _ _ (.inl rfl) e⟩, st⟩
theorem fI.lt (x : fI P w H h) (e : H a = some o) : a < h.objs.size := (x a o e).lt
theorem fI.fresh (x : fI P w H h) (e : h.objs.size ≤ a) : H a = none := by
 cases q : H a with
 | none => rfl
 | some u => exact absurd (Nat.lt_of_lt_of_le (x.lt q) e) (Nat.lt_irrefl _)
theorem fI.kept (x : fI P w H h) (k : ∀ b u, h.get? b = some u → h'.get? b = some u) : fI P w H h' := fun a o e =>
 (x a o e).stay (fun b u _ q => k b u q) fun _ q => q
theorem fI.laid (x : fI P w H h) (k : ∀ b u, h.get? b = some u → h'.get? b = some u) (hp : h.objs.size ≤ a) (new : bv P w (bq H a o) h' a o) : fI P w (bq H a o) h' := fun b u e => by
 have hn := x.fresh hp
 by_cases hb : b = a
 · subst hb; rw [bD] at e; cases e; exact new
 · rw [az hb] at e
   exact (x b u e).stay (fun c v _ q => k c v q) fun c q => by rw [az (aQ q hn)]; exact q
end
def Rd (H : Hp) (a : Addr) (u : HO) : Prop := H a = some u ∨ ∃ o, H a = some (.frz o u)
theorem Rd.ok {H} {h} {a} {u} (r : Rd H a u) (x : fI P w H h) : bv P w H h a u := by
 rcases r with r | ⟨o, r⟩
 · exact x a u r
 · obtain ⟨_, q⟩ := x a _ r
   exact q
def GL : Option HO → Prop
 | some (.lst _) => True
 | some (.set _ _) => True
 | some (.ins _ _ _) => True
 | some (.ext _) => True
 | _ => False
section
variable {P : Program} {w : World} {H : Hp} {h h' : Heap} {x e : Addr} {o' : HO}
theorem fI.write (ok : fI P w H h) (mu : GL (H x)) (he : e = x ∨ H e = some (.own x)) (k : ∀ b u, b ≠ e → h.get? b = some u → h'.get? b = some u) (heo : ∃ u, h'.get? e = some u)
 (new : bv P w (bq H x o') h' x o') : fI P w (bq H x o') h' := fun b u q => by
 have nown : ∀ c y, H c = some (.own y) → c ≠ x := fun c y r z => by subst z; rw [r] at mu; exact mu
 by_cases hb : b = x
 · subst hb; rw [bD] at q; cases q; exact new
 · rw [az hb] at q
   by_cases hbe : b = e
   · have q' : H b = some (.own x) := by
      rcases he with z | z
      · exact absurd (hbe.trans z) hb
      · rw [hbe]; exact z
     rw [q] at q'; cases q'
     obtain ⟨v, hv⟩ := heo
     exact ⟨v, by rw [hbe]; exact hv⟩
   · refine (ok b u q).stay (fun c v hc r => k c v ?_ r) fun c r => by rw [az (nown c b r)]; exact r
     rcases hc with rfl | hc
     · exact hbe
     · rintro rfl
       rcases he with z | z
       · exact nown c b hc z
       · rw [hc] at z; cases z; exact hb rfl
end
structure Un (fs ex : List Addr) (H H' : Hp) (h h' : Heap) : Prop where
 keep : ∀ b o, h.get? b = some o → H b = none → b ∉ fs → b ∉ ex → h'.get? b = some o
 slot : ∀ b o, h.get? b = some o → H b = none → b ∈ fs → b ∉ ex → ∃ sl, h'.get? b = some { o with slots := sl }
 free : ∀ b o, h.get? b = some o → H b = none → b ∉ ex → H' b = none
 there : ∀ b o, h.get? b = some o → b ∉ ex → ∃ o', h'.get? b = some o'
 tups : ∀ b xs, H b = some (.tup xs) → H' b = some (.tup xs)
 frzs : ∀ b o u, H b = some (.frz o u) → H' b = some (.frz o u)
 tbls : ∀ b ps, H b = some (.tbl ps) → ∃ more, H' b = some (.tbl (ps ++ more))
section
variable {fs fs' ex ex' : List Addr} {H H1 H2 : Hp} {h h1 h2 h' : Heap} {a x e : Addr} {o : HO}
theorem Un.any (u : Un fs ex H H1 h h1) {b} {ob} (q : h.get? b = some ob) (n : H b = none) (hx : b ∉ ex) : ∃ sl, h1.get? b = some { ob with slots := sl } := by
 by_cases hb : b ∈ fs
 · exact u.slot b ob q n hb hx
 · exact ⟨_, u.keep b ob q n hb hx⟩
theorem Un.kept (k : ∀ b u, h.get? b = some u → h'.get? b = some u) : Un fs ex H H h h' :=
 ⟨fun b ob q _ _ _ => k b ob q, fun b ob q _ _ _ => ⟨_, k b ob q⟩, fun _ _ _ n _ => n, fun b ob q _ => ⟨ob, k b ob q⟩, fun _ _ q => q, fun _ _ _ q => q, fun _ ps q => ⟨#[], by rw [q]; simp⟩⟩
theorem Un.refl : Un fs ex H H h h := Un.kept fun _ _ q => q
theorem Un.laid (k : ∀ b u, h.get? b = some u → h'.get? b = some u) (hp : h.objs.size ≤ a) (hn : H a = none) : Un fs ex H (bq H a o) h h' where
 keep := fun b u q _ _ _ => k b u q
 slot := fun b u q _ _ _ => ⟨_, k b u q⟩
 free := fun b u q n _ => by rw [az (Nat.ne_of_lt (Nat.lt_of_lt_of_le (Heap.lt_size q) hp))]; exact n
 there := fun b u q _ => ⟨u, k b u q⟩
 tups := fun b xs q => by rw [az (aQ q hn)]; exact q
 frzs := fun b u xs q => by rw [az (aQ q hn)]; exact q
 tbls := fun b ps q => ⟨#[], by rw [az (aQ q hn), q]; simp⟩
theorem Un.write (mu : GL (H x)) (he : e = x ∨ H e = some (.own x)) (k : ∀ b u, b ≠ e → h.get? b = some u → h'.get? b = some u) (heo : ∃ u, h'.get? e = some u) : Un fs ex H (bq H x o) h h' := by
 have hx : ∀ b, H b = none → b ≠ x := fun b n z => by subst z; rw [n] at mu; exact mu
 have hb : ∀ b, H b = none → b ≠ e := fun b n z => by
  grind
 have hm : ∀ b u, H b = some u → ¬ GL (some u) → b ≠ x := fun b u q nm z => by grind
 refine ⟨fun b u q n _ _ => k b u (hb b n) q, fun b u q n _ _ => ⟨_, k b u (hb b n) q⟩, fun b u q n _ => by rw [az (hx b n)]; exact n, fun b u q _ => ?_,
  fun b xs q => by rw [az (hm b _ q fun z => z)]; exact q, fun b u xs q => by rw [az (hm b _ q fun z => z)]; exact q, fun b ps q => ⟨#[], by rw [az (hm b _ q fun z => z), q]; simp⟩⟩
 by_cases hbe : b = e
 · subst hbe; exact heo
 · exact ⟨u, k b u hbe q⟩
end
def JL (h : Heap) (H : Hp) : List Addr := (List.range h.objs.size).filter fun a => (H a).isSome
def iF (h : Heap) (H : Hp) : Heap := PySem.W.hideAll h (JL h H)
theorem qZ (h : Heap) (H : Hp) : (iF h H).objs.size = h.objs.size := PySem.W.hideAll_size _ _
theorem va {H} {b} {o} (e : h.get? b = some o) (n : H b = none) : (iF h H).get? b = some o :=
 PySem.W.hideAll_get _ e fun hm => by
  have q := (List.mem_filter.mp hm).2
  rw [n] at q; simp at q
theorem xR {o} (e : (iF h H).get? b = some o) : h.get? b = some o ∧ H b = none := by
 have e' := PySem.W.of_hideAll _ e
 refine ⟨e', ?_⟩
 cases q : H b with
 | none => rfl
 | some x =>
  have hm : b ∈ JL h H := List.mem_filter.mpr ⟨List.mem_range.mpr (Heap.lt_size e'), by simp [q]⟩
  have z : (iF h H).get? b = none := PySem.W.hideAll_none _ hm
  rw [z] at e; cases e
def vY (g h : Heap) (L : Addr) : List (Addr × Obj) := (List.range h.objs.size).filterMap fun a => if a = L ∨ (g.get? a).isSome = true then none else (h.get? a).map fun o => (a, o)
def gj (g h : Heap) (L d : Addr) : List (Addr × Obj) := (vY g h L).filter fun p => decide (p.1 ≠ d)
structure Mod (K : PySem.W.Frag) (mg : Str → Option Value) (base : Heap) : Prop where
 kin : K.In base
 glob : base.Ns mainGlobals mg
 blt : ∃ mb, base.Ns builtinsNs mb ∧ ∀ x : Str, x ≠ "__name__" → mb x = bootBuiltins x
 nolimit : base.NoLimit
structure Cx where
 prog : Program
 w : World
 K : PySem.W.Frag
 mg : Str → Option Value
 base : Heap
 A : Around
 N : List Str
 s₀ : Shared
 H₀ : Hp
 env : Env
 outer : List Env
 stack : List Env
 ex : List Addr
 fn : Str → Bool
 calm : Bool
 pn : List (Addr × Obj)
 xe : Value → Shared → Prop
def oC (l : List Env) : List Addr := l.filterMap (·.frame)
abbrev Cx.fs (X : Cx) : List Addr := oC X.outer
def yO (sc : Scope) (x : Str) : Prop := sc.names.lookup x = some .local ∨ sc.names.lookup x = some .cell ∨ sc.names.lookup x = some .free
def Loc (sc : Scope) (x : Str) : Prop := sc.names.lookup x = some .local ∨ sc.names.lookup x = some .cell
def Look (env : Env) (h : Heap) (m : Str → Option Value) (x : Str) (u : Value) : Prop :=
 (env.kindOf x = some .local ∧ m x = some u) ∨ ((env.kindOf x = some .cell ∨ env.kindOf x = some .free) ∧ ∃ c, env.cells.lookup x = some c ∧ h.IsCell c (some u))
structure Cx.Ok (X : Cx) : Prop where
 mod : Mod X.K X.mg X.base
 kind : X.env.scope.kind = .function
 glob : X.env.globals = mainGlobals
 blt : X.env.builtins = builtinsNs
 above : X.s₀.heap.objs.size ≤ X.env.locals
 inj : ∀ x y c, X.env.cells.lookup x = some c → X.env.cells.lookup y = some c → x = y
 has : ∀ x, (X.env.kindOf x = some .cell ∨ X.env.kindOf x = some .free) → ∃ c, X.env.cells.lookup x = some c
 cab : ∀ x c, X.fn x = true → X.env.cells.lookup x = some c → X.s₀.heap.objs.size ≤ c
 hd : X.calm = true → X.A.handled = none
 frames : X.A.frames = some X.stack
 stk : X.stack = X.outer ∨ (X.stack = X.env :: X.outer ∧ X.env.frame = some X.env.locals)
 exf : ∀ b ∈ X.ex, b ≠ X.env.locals ∧ ∀ x c, X.env.cells.lookup x = some c → c ≠ b
 bs : ∀ b o, X.base.get? b = some o → X.s₀.heap.get? b = some o ∧ X.H₀ b = none
 bsz : X.base.objs.size ≤ X.s₀.heap.objs.size
 noex : ∀ b o, X.base.get? b = some o → b ∉ X.ex
 exfs : ∀ b ∈ X.ex, b ∉ X.fs
 funs : X.s₀.heap.FunFrames X.base X.outer
 frf : ∀ b ∈ X.fs, X.H₀ b = none
def Jd (s0 s : Shared) : Prop := s.os = s0.os ∧ s0.gens.size ≤ s.gens.size
structure Inv (X : Cx) (pins : List (Addr × Obj)) (σ : List (Option V)) (H : Hp) (s : Shared) : Prop where
 ok : X.Ok
 os : Jd X.s₀ s
 bare : AllBare s.gens
 base : Un X.fs X.ex X.H₀ H X.s₀.heap s.heap
 loc : ∃ m, s.heap.Ns X.env.locals m ∧ ∀ (i : Nat) (x : Str) (v : V), X.N[i]? = some x → σ[i]? = some (some v) → yO X.env.scope x → ∃ u, RelV v u ∧ Look X.env s.heap m x u
 cell : ∀ x c, X.env.cells.lookup x = some c → ∃ v, s.heap.IsCell c v
 free : H X.env.locals = none
 freeC : ∀ x c, X.env.cells.lookup x = some c → H c = none
 pin : ∀ p ∈ X.pn ++ pins, s.heap.get? p.1 = some p.2 ∧ H p.1 = none ∧ p.1 ≠ X.env.locals ∧ p.1 ∉ X.fs ∧ ∀ v, p.2.data ≠ .cell v
 hok : fI X.prog X.w H s.heap
 len : σ.length = X.N.length
section
variable {X : Cx} {pins : List (Addr × Obj)} {σ : List (Option V)} {H H' : Hp} {s : Shared} {h' : Heap}
theorem Cx.Ok.nofr (ok : X.Ok) {b} {o} (e : X.base.get? b = some o) : b ∉ X.fs := fun hb => by
 have := (ok.funs.mem hb).1
 grind
theorem Inv.bs (I : Inv X pins σ H s) : ∀ b o, X.base.get? b = some o → s.heap.get? b = some o ∧ H b = none := fun b o e =>
 ⟨I.base.keep b o (I.ok.bs b o e).1 (I.ok.bs b o e).2 (I.ok.nofr e) (I.ok.noex b o e), I.base.free b o (I.ok.bs b o e).1 (I.ok.bs b o e).2 (I.ok.noex b o e)⟩
theorem Inv.bk (I : Inv X pins σ H s) : ∀ b o, X.base.get? b = some o → s.heap.get? b = some o := fun b o e => (I.bs b o e).1
theorem Inv.mod (I : Inv X pins σ H s) : Mod X.K X.mg X.base := I.ok.mod
theorem Inv.kIn (I : Inv X pins σ H s) : X.K.In s.heap := I.ok.mod.kin.keeps I.bk
theorem Inv.nolimit (I : Inv X pins σ H s) : s.heap.NoLimit := I.ok.mod.nolimit.keeps I.bk
theorem Inv.lt (I : Inv X pins σ H s) : X.env.locals < s.heap.objs.size := let ⟨_, hn, _⟩ := I.loc; hn.lt
theorem Inv.sz (I : Inv X pins σ H s) : X.s₀.heap.objs.size ≤ s.heap.objs.size := Nat.le_trans I.ok.above (Nat.le_of_lt I.lt)
theorem Inv.nofs (I : Inv X pins σ H s) {a : Addr} (h : s.heap.objs.size ≤ a) : a ∉ X.fs := fun hb => by
 obtain ⟨_, o, ho, _⟩ := I.ok.funs.mem hb
 exact absurd (Nat.lt_of_lt_of_le (Heap.lt_size ho) (Nat.le_trans I.sz h)) (Nat.lt_irrefl _)
theorem Inv.cne (I : Inv X pins σ H s) : ∀ x c, X.env.cells.lookup x = some c → c ≠ X.env.locals := fun x c e z => by
 obtain ⟨v, o, ho, hd⟩ := I.cell x c e
 obtain ⟨m, ⟨o', es, ep, ho', hd', _⟩, _⟩ := I.loc
 grind
theorem Inv.funs (I : Inv X pins σ H s) : s.heap.FunFrames X.base X.outer := by
 have all : ∀ (l : List _), (∀ b ∈ oC l, b ∈ X.fs) → X.s₀.heap.FunFrames X.base l → s.heap.FunFrames X.base l := by
  intro l
  induction l with
  | nil => intro _ _; trivial
  | cons env r ih =>
   intro hs hl
   obtain ⟨hk, ⟨L, o, hf, hn, ho, hd⟩, hr⟩ := hl
   have hL := hs L (by unfold oC; simp_all)
   obtain ⟨sl, e⟩ := I.base.slot L o ho (I.ok.frf L hL) hL fun z => I.ok.exfs L z hL
   exact ⟨hk, ⟨L, _, hf, hn, e, hd⟩, ih (fun b hb => hs b (by unfold oC; rw [List.filterMap_cons, hf]; exact List.mem_cons_of_mem _ hb)) hr⟩
 exact all _ (fun _ hb => hb) I.ok.funs
theorem Inv.stack (I : Inv X pins σ H s) : s.heap.FunFrames X.base X.stack := by
 rcases I.ok.stk with e | ⟨e, hf⟩
 · rw [e]; exact I.funs
 · rw [e]
   obtain ⟨m, hn, _⟩ := I.loc
   refine .cons (by rw [I.ok.kind]; decide) hf hn ?_ I.funs
   exact Heap.get?_none_of_le (Nat.le_trans I.ok.bsz I.ok.above)
theorem Inv.stkSub (I : Inv X pins σ H s) : ∀ b ∈ oC X.stack, b ∈ X.env.locals :: X.fs := fun b hb => by
 rcases I.ok.stk with e | ⟨e, hf⟩
 · simp_all
 · rw [e] at hb
   unfold oC at hb
   rw [List.filterMap_cons, hf] at hb
   exact hb
theorem Inv.stkFree (I : Inv X pins σ H s) : ∀ b ∈ oC X.stack, H b = none := fun b hb => by
 rcases List.mem_cons.mp (I.stkSub b hb) with e | hb
 · rw [e]; exact I.free
 · obtain ⟨_, o, ho, _⟩ := I.ok.funs.mem hb
   exact I.base.free b o ho (I.ok.frf b hb) fun z => I.ok.exfs b z hb
theorem Inv.step {g' : Array GenState} {t' : Nat} {d' : Drawn} {ch : List Addr} (I : Inv X pins σ H s)
 (hch : ∀ b ∈ ch, (b ∈ X.ex ∨ X.s₀.heap.objs.size ≤ b) ∧ b ≠ X.env.locals ∧ (∀ x c, X.env.cells.lookup x = some c → c ≠ b) ∧ ∀ p ∈ X.pn ++ pins, p.1 ≠ b)
 (keep : ∀ b o, b ≠ X.env.locals → b ∉ X.fs → b ∉ ch → s.heap.get? b = some o → H b = none → h'.get? b = some o)
 (slot : ∀ b o, b ≠ X.env.locals → b ∈ X.fs → b ∉ ch → s.heap.get? b = some o → H b = none → ∃ sl, h'.get? b = some { o with slots := sl }) (free : ∀ b o, b ∉ ch → s.heap.get? b = some o → H b = none → H' b = none)
 (there : ∀ b o, b ∉ ch → s.heap.get? b = some o → ∃ o', h'.get? b = some o')
 (tups : ∀ b xs, H b = some (.tup xs) → H' b = some (.tup xs)) (frzs : ∀ b o u, H b = some (.frz o u) → H' b = some (.frz o u)) (tbls : ∀ b ps, H b = some (.tbl ps) → ∃ more, H' b = some (.tbl (ps ++ more)))
 (ns : ∀ m, s.heap.Ns X.env.locals m → h'.Ns X.env.locals m) (hok : fI X.prog X.w H' h') (hg : AllBare g') (hgs : s.gens.size ≤ g'.size) :
 Inv X pins σ H' { s with heap := h', gens := g', drawn := d', toks := t' } := by
 have neL : ∀ b o, X.s₀.heap.get? b = some o → b ≠ X.env.locals := fun b o e => Nat.ne_of_lt (Nat.lt_of_lt_of_le (Heap.lt_size e) I.ok.above)
 have neC : ∀ b o, X.s₀.heap.get? b = some o → b ∉ X.ex → b ∉ ch := fun b o e hx hb => by
  rcases (hch b hb).1 with z | z
  · exact hx z
  · exact absurd (Nat.lt_of_lt_of_le (Heap.lt_size e) z) (Nat.lt_irrefl _)
 have cellK : ∀ x c, X.env.cells.lookup x = some c → ∀ v, s.heap.IsCell c v → h'.IsCell c v := fun x c e v ⟨o, ho, hd⟩ => by
  have nch : c ∉ ch := fun z => (hch c z).2.2.1 x c e rfl
  by_cases hc : c ∈ X.fs
  · obtain ⟨sl, q⟩ := slot c o (I.cne x c e) hc nch ho (I.freeC x c e)
    exact ⟨_, q, hd⟩
  · exact ⟨o, keep c o (I.cne x c e) hc nch ho (I.freeC x c e), hd⟩
 refine ⟨I.ok, ⟨I.os.1, Nat.le_trans I.os.2 hgs⟩, hg, ⟨fun b o e n hb hx => ?_, fun b o e n hb hx => ?_, fun b o e n hx => ?_, fun b o e hx => ?_, fun b xs e => tups b xs (I.base.tups b xs e), fun b o xs e => frzs b o xs (I.base.frzs b o xs e), fun b ps e => ?_⟩, ?_, fun x c e => ?_, ?_, fun x c e => ?_, fun p hp => ?_, hok, I.len⟩
 · exact keep b o (neL b o e) hb (neC b o e hx) (I.base.keep b o e n hb hx) (I.base.free b o e n hx)
 · obtain ⟨sl, e1⟩ := I.base.slot b o e n hb hx
   obtain ⟨sl', e2⟩ := slot b _ (neL b o e) hb (neC b o e hx) e1 (I.base.free b o e n hx)
   exact ⟨sl', e2⟩
 · obtain ⟨o', e1⟩ := I.base.there b o e hx
   exact free b o' (neC b o e hx) e1 (I.base.free b o e n hx)
 · obtain ⟨o', e1⟩ := I.base.there b o e hx
   exact there b o' (neC b o e hx) e1
 · obtain ⟨m1, e1⟩ := I.base.tbls b ps e
   obtain ⟨m2, e2⟩ := tbls b _ e1
   exact ⟨m1 ++ m2, by rw [e2, Array.append_assoc]⟩
 · obtain ⟨m, hn, hl⟩ := I.loc
   refine ⟨m, ns m hn, fun i x v e1 e2 e3 => ?_⟩
   obtain ⟨u, r, l⟩ := hl i x v e1 e2 e3
   refine ⟨u, r, ?_⟩
   rcases l with l | ⟨k, c, e, z⟩
   · exact .inl l
   · exact .inr ⟨k, c, e, cellK x c e _ z⟩
 · obtain ⟨v, z⟩ := I.cell x c e
   exact ⟨v, cellK x c e v z⟩
 · obtain ⟨m, ⟨o, _, _, ho, _⟩, _⟩ := I.loc
   exact free _ o (fun z => (hch _ z).2.1 rfl) ho I.free
 · obtain ⟨v, o, ho, hd⟩ := I.cell x c e
   exact free c o (fun z => (hch c z).2.2.1 x c e rfl) ho (I.freeC x c e)
 · obtain ⟨e, n, ne, nf, d⟩ := I.pin p hp
   have nch : p.1 ∉ ch := fun z => (hch p.1 z).2.2.2 p hp rfl
   exact ⟨keep p.1 p.2 ne nf nch e n, free p.1 p.2 nch e n, ne, nf, d⟩
theorem Inv.un (I : Inv X pins σ H s) (u : Un X.fs [] H H' s.heap h') (hok : fI X.prog X.w H' h') : Inv X pins σ H' { s with heap := h', toks := t' } := by
 obtain ⟨m, ⟨o, es, ep, ho, r⟩, _⟩ := id I.loc
 obtain ⟨sl, hL⟩ := u.any ho I.free (by simp)
 exact I.step (ch := []) (fun _ z => nomatch z) (fun b o _ hb _ e n => u.keep b o e n hb (by simp)) (fun b o _ hb _ e n => u.slot b o e n hb (by simp)) (fun b o _ e n => u.free b o e n (by simp)) (fun b o _ e => u.there b o e (by simp)) u.tups u.frzs u.tbls (fun m' hm => by
  obtain ⟨o', es', ep', ho', r'⟩ := hm
  rw [ho] at ho'; cases ho'
  exact ⟨_, es', ep', hL, r'⟩) hok I.bare (Nat.le_refl _)
theorem Inv.call {d'} {ch} (I : Inv X pins σ H s) (u : Un (oC X.stack) ch H H' s.heap h') (hok : fI X.prog X.w H' h') (hg : AllBare g') (hgs : s.gens.size ≤ g'.size)
 (hch : ∀ b ∈ ch, (b ∈ X.ex ∨ X.s₀.heap.objs.size ≤ b) ∧ b ≠ X.env.locals ∧ (∀ x c, X.env.cells.lookup x = some c → c ≠ b) ∧ ∀ p ∈ X.pn ++ pins, p.1 ≠ b) :
 Inv X pins σ H' { s with heap := h', gens := g', drawn := d', toks := t' } := by
 obtain ⟨m, ⟨o, es, ep, ho, r⟩, _⟩ := id I.loc
 obtain ⟨sl, hL⟩ := u.any ho I.free fun z => (hch _ z).2.1 rfl
 exact I.step hch (fun b o hL hb hc e n => u.keep b o e n (fun z => (List.mem_cons.mp (I.stkSub b z)).elim hL hb) hc) (fun b o _ _ hc e n => u.any e n hc) (fun b o hc e n => u.free b o e n hc) (fun b o hc e => u.there b o e hc) u.tups u.frzs u.tbls (fun m' hm => by
  obtain ⟨o', es', ep', ho', r'⟩ := hm
  rw [ho] at ho'; cases ho'
  exact ⟨_, es', ep', hL, r'⟩) hok hg hgs
theorem Inv.turned {t' : Nat} {it : Addr} (I : Inv X pins σ H s) (k : ∀ b o, b ≠ it → s.heap.get? b = some o → h'.get? b = some o) (hn : H it = none) (hL : it ≠ X.env.locals)
 (h1 : it ∈ X.ex ∨ X.s₀.heap.objs.size ≤ it) (h2 : ∀ x c, X.env.cells.lookup x = some c → c ≠ it) (h3 : ∀ p ∈ X.pn ++ pins, p.1 ≠ it) : Inv X pins σ H { s with heap := h', toks := t' } := by
 have nit : ∀ b u, H b = some u → b ≠ it := fun b u e z => by rw [z, hn] at e; cases e
 refine I.step (g' := s.gens) (d' := s.drawn) (ch := [it]) (fun b hb => ?_) (fun b o _ _ hc e _ => k b o (fun z => hc (by simp [z])) e) (fun b o _ _ hc e _ => ⟨o.slots, k b o (fun z => hc (by simp [z])) e⟩) (fun _ _ _ _ n => n)
  (fun b o hc e => ⟨o, k b o (fun z => hc (by simp [z])) e⟩) (fun _ _ e => e) (fun _ _ _ e => e) (fun b ps e => ⟨#[], by rw [e]; simp⟩) (fun m hm => ?_) (fun b u e => ?_) I.bare (Nat.le_refl _)
 · have e : b = it := by simpa using hb
   subst e
   exact ⟨h1, hL, h2, h3⟩
 · obtain ⟨o, es, ep, ho, r⟩ := hm
   exact ⟨o, es, ep, k _ o (Ne.symm hL) ho, r⟩
 · refine (I.hok b u e).stay (fun c v hc q => k c v ?_ q) fun _ q => q
   rcases hc with z | z
   · rw [z]; exact nit b u e
   · exact nit c _ z
theorem Inv.tok (I : Inv X pins σ H s) (t : Nat) : Inv X pins σ H { s with toks := t } := I.un (h' := s.heap) (t' := t) Un.refl I.hok
theorem Inv.kept (I : Inv X pins σ H s) (k : ∀ b u, s.heap.get? b = some u → h'.get? b = some u) : Inv X pins σ H { s with heap := h', toks := t' } := I.un (Un.kept k) (I.hok.kept k)
theorem Inv.laid {a : Addr} {o} {t'} (I : Inv X pins σ H s) (k : ∀ b u, s.heap.get? b = some u → h'.get? b = some u) (hp : s.heap.objs.size ≤ a) (new : bv X.prog X.w (bq H a o) h' a o) :
 Inv X pins σ (bq H a o) { s with heap := h', toks := t' } := I.un (Un.laid k hp (I.hok.fresh hp)) (I.hok.laid k hp new)
theorem Inv.write (I : Inv X pins σ H s) (mu : GL (H x)) (he : e = x ∨ H e = some (.own x)) (k : ∀ b u, b ≠ e → s.heap.get? b = some u → h'.get? b = some u) (heo : ∃ u, h'.get? e = some u)
 (new : bv X.prog X.w (bq H x o) h' x o) : Inv X pins σ (bq H x o) { s with heap := h', toks := t' } := I.un (Un.write mu he k heo) (I.hok.write mu he k heo new)
theorem Inv.weak (I : Inv X pins σ H s) (hl : σ'.length = σ.length) (w : ∀ (i : Nat) v, σ'[i]? = some (some v) → σ[i]? = some (some v)) : Inv X pins σ' H s :=
 ⟨I.ok, I.os, I.bare, I.base, let ⟨m, hn, hl'⟩ := I.loc; ⟨m, hn, fun i x v e1 e2 e3 => hl' i x v e1 (w i v e2) e3⟩, I.cell, I.free, I.freeC, I.pin, I.hok, hl.trans I.len⟩
theorem Inv.pins_of (I : Inv X pins σ H s) (h : ∀ p ∈ pins', s.heap.get? p.1 = some p.2 ∧ H p.1 = none ∧ p.1 ≠ X.env.locals ∧ p.1 ∉ X.fs ∧ ∀ v, p.2.data ≠ .cell v) : Inv X pins' σ H s :=
 ⟨I.ok, I.os, I.bare, I.base, I.loc, I.cell, I.free, I.freeC, fun p hp => (List.mem_append.mp hp).elim (fun z => I.pin p (List.mem_append_left _ z)) (h p), I.hok, I.len⟩
theorem mL {N : List Str} (hN : N.Nodup) {i j : Nat} {x} (a : N[i]? = some x) (b : N[j]? = some x) : i = j := by
 obtain ⟨h1, e1⟩ := List.getElem?_eq_some_iff.mp a
 obtain ⟨h2, e2⟩ := List.getElem?_eq_some_iff.mp b
 exact (List.getElem_inj hN).mp (e1.trans e2.symm)
theorem jn {M : Model} {A : Around} {E : Value → Shared → Prop} {i : Nat} {x : Str} {v : V} {u : Value} {Q : Unit → Shared → Prop} (I : Inv X pins σ H s) (hN : X.N.Nodup) (hi : X.N[i]? = some x) (hx : Loc X.env.scope x) (r : RelV v u)
 (h : ∀ s', Inv X pins (σ.set i (some v)) H s' → (∃ a, Heap.SameBut a s.heap s'.heap ∧ (a = X.env.locals ∨ X.env.cells.lookup x = some a)) → Q () s') (hf : X.fn x = true ∨ X.env.scope.names.lookup x = some .local := by first | exact .inl rfl | exact .inr rfl | assumption) : wpAny M A (storeName X.env x u) Q E s := by
 obtain ⟨m, hn, hl⟩ := id I.loc
 have hcls : (X.env.scope.kind == .class || (X.env.scope.kind == .module && X.env.locals != X.env.globals)) = false := by rw [I.ok.kind]; rfl
 have hiσ : i < σ.length := by rw [I.len]; exact (List.getElem?_eq_some_iff.mp hi).1
 have cne := I.cne
 have tracked : ∀ {a : Addr} {h' : Heap}, (∃ o, s.heap.get? a = some o ∧ H a = none) → Heap.SameBut a s.heap h' → fI X.prog X.w H h' := fun {a h'} ha hs b ob e => by
  obtain ⟨_, _, hfree⟩ := ha
  refine (I.hok b ob e).stay (fun c w' hc q => (hs.2 c ?_).trans q) fun _ q => q
  rintro rfl
  rcases hc with rfl | hc
  · rw [hfree] at e; cases e
  · rw [hfree] at hc; cases hc
 rcases hx with hk | hk
 · refine wpAny_storeName_local hk hn (fun h' hn' hs => ?_) hcls
   obtain ⟨oL, _, _, hoL, _⟩ := id hn
   refine h _ ⟨I.ok, I.os, I.bare, ⟨fun b o e n hb hx => ?_, fun b o e n hb hx => ?_, I.base.free, fun b o e hx => ?_, I.base.tups, I.base.frzs, I.base.tbls⟩, ⟨_, hn', fun j y v' e1 e2 e3 => ?_⟩, fun y c e => ?_, I.free, I.freeC, fun p hp => ?_, tracked ⟨oL, hoL, I.free⟩ hs, by simpa using I.len⟩ ⟨_, hs, .inl rfl⟩
   · exact (hs.2 b (Nat.ne_of_lt (Nat.lt_of_lt_of_le (Heap.lt_size e) I.ok.above))).trans (I.base.keep b o e n hb hx)
   · obtain ⟨sl, e1⟩ := I.base.slot b o e n hb hx
     exact ⟨sl, (hs.2 b (Nat.ne_of_lt (Nat.lt_of_lt_of_le (Heap.lt_size e) I.ok.above))).trans e1⟩
   · obtain ⟨o', e1⟩ := I.base.there b o e hx
     exact ⟨o', (hs.2 b (Nat.ne_of_lt (Nat.lt_of_lt_of_le (Heap.lt_size e) I.ok.above))).trans e1⟩
   · by_cases hj : j = i
     · subst hj
       rw [hi] at e1; cases e1
       rw [List.getElem?_set_self hiσ] at e2
       cases e2
       exact ⟨u, r, .inl ⟨hk, by simp⟩⟩
     · rw [List.getElem?_set_ne (Ne.symm hj)] at e2
       obtain ⟨u', r', q⟩ := hl j y v' e1 e2 e3
       refine ⟨u', r', ?_⟩
       rcases q with ⟨k, e⟩ | ⟨k, c, e, z⟩
       · refine .inl ⟨k, ?_⟩
         have : y ≠ x := fun e => hj (mL hN e1 (e ▸ hi))
         simp [this, e]
       · exact .inr ⟨k, c, e, z.sameBut hs (cne y c e)⟩
   · obtain ⟨w', z⟩ := I.cell y c e
     exact ⟨w', z.sameBut hs (cne y c e)⟩
   · obtain ⟨e, n, ne, nf, d⟩ := I.pin p hp
     exact ⟨(hs.2 p.1 ne).trans e, n, ne, nf, d⟩
 · have hfn : X.fn x = true := by
    rcases hf with z | z
    · exact z
    · rw [z] at hk; cases hk
   obtain ⟨c, hc⟩ := I.ok.has x (.inl hk)
   obtain ⟨w', z⟩ := I.cell x c hc
   refine wpAny_storeName_cell I.ok.kind hk hc z (fun h' hc' hs => ?_)
   obtain ⟨oc, hoc, hocd⟩ := id z
   refine h { s with heap := h' } ⟨I.ok, I.os, I.bare, ⟨fun b o e n hb hx => ?_, fun b o e n hb hx => ?_, I.base.free, fun b o e hx => ?_, I.base.tups, I.base.frzs, I.base.tbls⟩, ⟨m, hn.sameBut hs (Ne.symm (cne x c hc)), fun j y v' e1 e2 e3 => ?_⟩, fun y c' e => ?_, I.free, I.freeC, fun p hp => ?_, tracked ⟨oc, hoc, I.freeC x c hc⟩ hs, by simpa using I.len⟩ ⟨c, hs, .inr hc⟩
   · exact (hs.2 b (Nat.ne_of_lt (Nat.lt_of_lt_of_le (Heap.lt_size e) (I.ok.cab x c hfn hc)))).trans (I.base.keep b o e n hb hx)
   · obtain ⟨sl, e1⟩ := I.base.slot b o e n hb hx
     exact ⟨sl, (hs.2 b (Nat.ne_of_lt (Nat.lt_of_lt_of_le (Heap.lt_size e) (I.ok.cab x c hfn hc)))).trans e1⟩
   · obtain ⟨o', e1⟩ := I.base.there b o e hx
     exact ⟨o', (hs.2 b (Nat.ne_of_lt (Nat.lt_of_lt_of_le (Heap.lt_size e) (I.ok.cab x c hfn hc)))).trans e1⟩
   · by_cases hj : j = i
     · subst hj
       rw [hi] at e1; cases e1
       rw [List.getElem?_set_self hiσ] at e2
       cases e2
       exact ⟨u, r, .inr ⟨.inl hk, c, hc, hc'⟩⟩
     · rw [List.getElem?_set_ne (Ne.symm hj)] at e2
       obtain ⟨u', r', q⟩ := hl j y v' e1 e2 e3
       refine ⟨u', r', ?_⟩
       rcases q with q | ⟨k, c', e, z'⟩
       · exact .inl q
       · refine .inr ⟨k, c', e, z'.sameBut hs ?_⟩
         rintro rfl
         exact hj (mL hN e1 (I.ok.inj _ _ _ e hc ▸ hi))
   · by_cases hcc : c' = c
     · subst hcc; exact ⟨_, hc'⟩
     · obtain ⟨w2, z2⟩ := I.cell y c' e
       exact ⟨w2, z2.sameBut hs hcc⟩
   · obtain ⟨e, n, ne, nf, d⟩ := I.pin p hp
     refine ⟨(hs.2 p.1 ?_).trans e, n, ne, nf, d⟩
     intro q
     rw [q, hoc] at e
     have q' : oc = p.2 := Option.some.inj e
     exact d w' (by rw [← q']; exact hocd)
theorem ly {M : Model} {A : Around} {E : Value → Shared → Prop} {i : Nat} {x : Str} {v : V} {u : Value} {Q : Unit → Shared → Prop} (I : Inv X pins σ H s) (hN : X.N.Nodup) (hi : X.N[i]? = some x) (hx : Loc X.env.scope x) (r : RelV v u)
 (h : ∀ s', Inv X pins (σ.set i (some v)) H s' → Q () s') (hf : X.fn x = true ∨ X.env.scope.names.lookup x = some .local := by first | exact .inl rfl | exact .inr rfl | assumption) : wpAny M A (storeName X.env x u) Q E s :=
 jn I hN hi hx r (fun s' I' _ => h s' I') hf
theorem Inv.call' (I : Inv X pins σ H s) (ho : Jd s s') (u : Un (oC X.stack) ch H H' s.heap s'.heap) (hok : fI X.prog X.w H' s'.heap) (hg : AllBare s'.gens)
 (hch : ∀ b ∈ ch, (b ∈ X.ex ∨ X.s₀.heap.objs.size ≤ b) ∧ b ≠ X.env.locals ∧ (∀ x c, X.env.cells.lookup x = some c → c ≠ b) ∧ ∀ p ∈ X.pn ++ pins, p.1 ≠ b) : Inv X pins σ H' s' := by
 obtain ⟨h', g', d', t', o'⟩ := s'
 have e := ho.1
 subst e
 exact I.call u hok hg ho.2 hch
end
abbrev XK := Value → Option Addr → Hp → Prop
abbrev St := List (Option V)
abbrev VK := V → Hp → Prop
abbrev TE := St → Hp → VK → Prop
abbrev TT := St → Hp → (Bool → Hp → Prop) → Prop
abbrev TA := St → Hp → (List V → Hp → Prop) → Prop
structure nN where
 nx : St → Hp → Prop
 rt : VK
 bk : St → Hp → Prop := fun _ _ => False
 ct : St → Hp → Prop := fun _ _ => False
abbrev TS := nN → St → Hp → Prop
def EP (X : Cx) (pins : List (Addr × Obj)) (σ : St) (Q : VK) (u : Value) (s' : Shared) : Prop := ∃ v H', Inv X pins σ H' s' ∧ RelV v u ∧ Q v H'
def TP (X : Cx) (pins : List (Addr × Obj)) (σ : St) (Q : Bool → Hp → Prop) (b : Bool) (s' : Shared) : Prop := ∃ H', Inv X pins σ H' s' ∧ Q b H'
def AP (X : Cx) (pins : List (Addr × Obj)) (σ : St) (Q : List V → Hp → Prop) (us : List Value) (s' : Shared) : Prop := ∃ vs H', Inv X pins σ H' s' ∧ al vs us ∧ Q vs H'
def SP (X : Cx) (pins : List (Addr × Obj)) (D : nN) (f : Flow) (s' : Shared) : Prop :=
 match f with
 | .next => ∃ σ' H', Inv X pins σ' H' s' ∧ D.nx σ' H'
 | .brk => ∃ σ' H', Inv X pins σ' H' s' ∧ D.bk σ' H'
 | .cont => ∃ σ' H', Inv X pins σ' H' s' ∧ D.ct σ' H'
 | .ret u => ∃ v σ' H', Inv X pins σ' H' s' ∧ RelV v u ∧ D.rt v H'
def PE (X : Cx) (e : Expr) (t : TE) : Prop :=
 ∀ (pins : List (Addr × Obj)) (s : Shared) (σ : St) (H : Hp) (Q : VK), Inv X pins σ H s → t σ H Q → wpAny (model X.prog X.w) X.A (eval e X.env) (EP X pins σ Q) X.xe s
def PT (X : Cx) (e : Expr) (t : TT) : Prop :=
 ∀ (pins : List (Addr × Obj)) (s : Shared) (σ : St) (H : Hp) (Q : Bool → Hp → Prop), Inv X pins σ H s → t σ H Q → wpAny (model X.prog X.w) X.A (isTrue e X.env (eval e X.env)) (TP X pins σ Q) X.xe s
def PW (X : Cx) (e : Expr) (t : TT) : Prop :=
 ∀ (whole : Sem Value) (pins : List (Addr × Obj)) (s : Shared) (σ : St) (H : Hp) (Q : Bool → Hp → Prop), Inv X pins σ H s → t σ H Q → wpAny (model X.prog X.w) X.A (isTrue e X.env whole) (TP X pins σ Q) X.xe s
theorem PW.pt (h : PW X e t) : PT X e t := h _
def PA (X : Cx) (es : List Expr) (t : TA) : Prop :=
 ∀ (pos : Pos) (pins : List (Addr × Obj)) (s : Shared) (σ : St) (H : Hp) (Q : List V → Hp → Prop), Inv X pins σ H s → t σ H Q → wpAny (model X.prog X.w) X.A (spliced (backTo pos (starEach es X.env))) (AP X pins σ Q) X.xe s
def PS (X : Cx) (st : Stmt) (t : TS) : Prop :=
 ∀ (pins : List (Addr × Obj)) (s : Shared) (σ : St) (H : Hp) (D : nN), Inv X pins σ H s → t D σ H → wpAny (model X.prog X.w) X.A (exec st X.env) (SP X pins D) X.xe s
def fK (X : Cx) (st : List Stmt) (t : TS) : Prop :=
 ∀ (pins : List (Addr × Obj)) (s : Shared) (σ : St) (H : Hp) (D : nN), Inv X pins σ H s → t D σ H → wpAny (model X.prog X.w) X.A (execs st X.env) (SP X pins D) X.xe s
theorem aU {M} {A} {E} {s} (h : wpAny M A t Q E s) (hQ : ∀ a s, Q a s → Q' a s) : wpAny M A t Q' E s := wpAny_mono h hQ fun _ _ x => x
section
variable {X : Cx}
theorem bin {a b : Expr} {ta tb : TE} (ha : PE X a ta) (hb : PE X b tb) {pins : List (Addr × Obj)} {s : Shared} {σ : St} {H : Hp} {R : V → V → Hp → Prop} (I : Inv X pins σ H s) (h : ta σ H fun x H1 => tb σ H1 fun y H2 => R x y H2)
 {α : Type} {Q : α → Shared → Prop} {f : Value → Value → Sem α}
 (hf : ∀ v u s2 x y H2, Inv X pins σ H2 s2 → RelV x v → RelV y u → R x y H2 → wpAny (model X.prog X.w) X.A (f v u) Q X.xe s2) :
 wpAny (model X.prog X.w) X.A (eval a X.env) (fun v s₁ => wpAny (model X.prog X.w) X.A (eval b X.env) (fun u s₂ => wpAny (model X.prog X.w) X.A (f v u) Q X.xe s₂) X.xe s₁) X.xe s := by
 refine aU (ha pins s σ H _ I h) fun v s1 ⟨x, H1, I1, r1, q1⟩ => ?_
 refine aU (hb pins s1 σ H1 _ I1 q1) fun u s2 ⟨y, H2, I2, r2, q2⟩ => ?_
 exact hf v u s2 x y H2 I2 r1 r2 q2
def Dq (i : Nat) : TE := fun σ H Q => ∃ v, σ[i]? = some (some v) ∧ Q v H
def tC (v : V) : TE := fun _ H Q => Q v H
theorem ue {pos} (hN : X.N[i]? = some x) (hv : yO X.env.scope x) (hd : (x == "__debug__") = false := by decide) (hcd : (x == "__classdict__") = false := by decide) : PE X (.Name x pos) (Dq i) := by
 intro pins s σ H Q I h
 obtain ⟨v, e, h⟩ := h
 obtain ⟨m, hn, hl⟩ := I.loc
 obtain ⟨u, r, l⟩ := hl i x v hN e hv
 have da : EP X _ σ Q u s := ⟨v, H, I, r, h⟩
 rcases l with ⟨hk, hm⟩ | ⟨hk, c, hc, hcell⟩
 · exact wpAny_Name (wpAny_loadName_local I.ok.kind hk hn hm da) hd
 · rcases hk with hk | hk
   · exact wpAny_Name (wpAny_loadName_cell I.ok.kind hk hc hcell da) hd
   · exact wpAny_Name (wpAny_loadName_free I.ok.kind hk hc hcell da hcd) hd
theorem uq : PE X (.Constant (.int i) j pos) (tC (.int i)) := fun _ _ _ H _ I h => wpAny_Constant_int ⟨.int i, H, I.tok _, ⟨_, rfl⟩, h⟩
theorem Dr : PE X (.Constant (.bool b) j pos) (tC (.bl b)) := fun _ _ _ H _ I h => Constant_bool ⟨.bl b, H, I, rfl, h⟩
theorem ie : PE X (.Constant .none j pos) (tC .non) := fun _ _ _ H _ I h => Constant_none ⟨.non, H, I, rfl, h⟩
theorem zW : PE X (.Constant (.str x) j pos) (tC (.str x)) := fun _ _ _ H _ I h => Calls.Constant_str ⟨.str x, H, I.tok _, ⟨_, rfl⟩, h⟩
def Gl (X : Cx) (x : Str) : Prop := X.env.kindOf x = some .globalImplicit
theorem gJ {pins} {s} {σ : St} {H} {x} {u} {pos} {Q} (I : Inv X pins σ H s) (hg : Gl X x) (hm : X.mg x = some u) (h : Q u s)
 (hd : (x == "__debug__") = false := by decide) : wpAny (model X.prog X.w) X.A (eval (.Name x pos) X.env) Q E s :=
 Calls.Name_function_global I.ok.kind hg (Calls.loadGlobal_global (by rw [I.ok.glob]; exact I.mod.glob.keeps I.bk) hm h) hd
theorem bX {E} {pins} {s} {σ : St} {H} {x} {u} {pos} {Q} (I : Inv X pins σ H s) (hg : Gl X x) (hm : X.mg x = none) (hv : bootBuiltins x = some u) (h : Q u s)
 (hn : x ≠ "__name__" := by decide) (hd : (x == "__debug__") = false := by decide) : wpAny (model X.prog X.w) X.A (eval (.Name x pos) X.env) Q E s := by
 obtain ⟨mb, h1, h2⟩ := I.mod.blt
 exact Calls.Name_function_global I.ok.kind hg (Calls.loadGlobal_builtin (by rw [I.ok.glob]; exact I.mod.glob.keeps I.bk) hm (by rw [I.ok.blt]; exact h1.keeps I.bk) ((h2 x hn).trans hv) h) hd
theorem oQ {u} {pos} (hg : Gl X x) (hm : X.mg x = some u) (r : RelV v u) (hd : (x == "__debug__") = false := by decide) : PE X (.Name x pos) (tC v) :=
 fun _ _ _ H _ I h => gJ I hg hm ⟨v, H, I, r, h⟩ hd
theorem ye {u} {pos} (hg : Gl X x) (hm : X.mg x = none) (hv : bootBuiltins x = some u) (r : RelV v u) (hn : x ≠ "__name__" := by decide) (hd : (x == "__debug__") = false := by decide) : PE X (.Name x pos) (tC v) :=
 fun _ _ _ H _ I h => bX I hg hm hv ⟨v, H, I, r, h⟩ hn hd
variable {a b : Expr} {ta tb : TE} {pos : Pos}
variable {tA tB' : TT} {gj : List Expr}
def CT (t u : TT) : TT := fun σ H Q => t σ H fun c H1 => if c = true then u σ H1 Q else Q false H1
def JB (t u : TT) : TT := fun σ H Q => t σ H fun c H1 => if c = true then Q true H1 else u σ H1 Q
def El (t : TT) : TT := fun σ H Q => t σ H fun c H1 => Q (!c) H1
theorem vL (ha : PT X a tA) : PW X (.BoolOp .And [a] pos) tA := by
 intro wh pins s σ H Q I h
 refine isTrue_and (aU (ha _ s σ H Q I h) fun c s1 e => ?_)
 cases c with
 | true => exact isTrue_and_nil e
 | false => exact e
theorem AX (ha : PT X a tA) : PW X (.BoolOp .Or [a] pos) tA := by
 intro wh pins s σ H Q I h
 refine isTrue_or (aU (ha _ s σ H Q I h) fun c s1 e => ?_)
 cases c with
 | false => exact isTrue_or_nil e
 | true => exact e
theorem sI (ha : PT X a tA) (hb : PW X (.BoolOp .And (b :: gj) pos) tB') : PW X (.BoolOp .And (a :: b :: gj) pos) (CT tA tB') := by
 intro wh pins s σ H Q I h
 refine isTrue_and (aU (ha _ s σ H _ I h) fun c s1 ⟨H1, I1, q1⟩ => ?_)
 cases c with
 | true => exact hb wh _ s1 σ H1 Q I1 q1
 | false => exact ⟨H1, I1, q1⟩
theorem zQ (ha : PT X a tA) (hb : PW X (.BoolOp .Or (b :: gj) pos) tB') : PW X (.BoolOp .Or (a :: b :: gj) pos) (JB tA tB') := by
 intro wh pins s σ H Q I h
 refine isTrue_or (aU (ha _ s σ H _ I h) fun c s1 ⟨H1, I1, q1⟩ => ?_)
 cases c with
 | true => exact ⟨H1, I1, q1⟩
 | false => exact hb wh _ s1 σ H1 Q I1 q1
theorem Bj (ha : PT X a tA) : PT X (.UnaryOp .Not a pos) (El tA) := by
 intro pins s σ H Q I h
 exact isTrue_not (ha _ s σ H _ I h)
theorem vm {t} (h : PE X a t) : PE X (.BoolOp op [a] pos) t := fun pins s σ H Q I hw => BoolOp_one (h _ s σ H Q I hw)
end
def cO (K : PySem.W.Frag) (H : Hp) (a : Addr) (xs : List V) : Prop :=
 Rd H a (.lst xs) ∨
  ∃ (o : Obj) (its : Array Value) (n : Nat), K.lookup a = some o ∧ o.cls = .type "list" ∧ o.dict = none ∧ o.data = .seq its n ∧ its.size ≤ sizeLine ∧ al xs its.toList
def et (K : PySem.W.Frag) (H : Hp) (a : Addr) (xs : List V) : Prop :=
 Rd H a (.tup xs) ∨
  ∃ (o : Obj) (its : Array Value) (n : Nat), K.lookup a = some o ∧ o.cls = .type "tuple" ∧ o.data = .seq its n ∧ its.size ≤ sizeLine ∧ al xs its.toList
def Ia : Value → Option V
 | .none => some .non
 | .bool b => some (.bl b)
 | .int i _ => some (.int i)
 | .str x _ => some (.str x)
 | .bytes b _ => some (.byt b)
 | .float b _ => some (.flt b)
 | .ref a => some (.ref a)
 | .type n => some (.ty n)
 | _ => none
theorem RelV.abs (r : RelV x u) : Ia u = some x := by
 cases x with
 | non => cases r; rfl
 | bl _ => cases r; rfl
 | int _ => obtain ⟨t, rfl⟩ := r; rfl
 | str _ => obtain ⟨t, rfl⟩ := r; rfl
 | byt _ => obtain ⟨t, rfl⟩ := r; rfl
 | flt _ => obtain ⟨t, rfl⟩ := r; rfl
 | ref _ => cases r; rfl
 | ty _ => cases r; rfl
theorem RelV.inj {u} (r : RelV x u) (q : RelV y u) : x = y := Option.some.inj (r.abs.symm.trans q.abs)
theorem al.inj : ∀ {xs ys} {us}, al xs us → al ys us → xs = ys
 | _, _, _, .nil, .nil => rfl
 | _, _, _, .cons r t, .cons r' t' => by rw [r.inj r', al.inj t t']
section
variable {X : Cx} {pins : List (Addr × Obj)} {σ : St} {H : Hp} {s : Shared} {a : Addr} {xs ys : List V}
theorem cO.of {K} (h : H a = some (.lst xs)) : cO K H a xs := .inl (.inl h)
theorem Inv.list (I : Inv X pins σ H s) (h : cO X.K H a xs) : ∃ its : List _, al xs its ∧ PlainL s.heap a its.toArray ∧ xs.length ≤ sizeLine := by
 rcases h with h | ⟨o, its, n, hk, hc, hd, hs, hz, r⟩
 · obtain ⟨z, its, n, r, e⟩ := h.ok I.hok
   exact ⟨its, r, ⟨_, n, e, rfl, rfl, rfl⟩, z⟩
 · refine ⟨_, r, ⟨o, n, I.kIn a o hk, hc, hd, by simpa using hs⟩, ?_⟩
   have e := r.length
   grind
theorem Inv.tuple (I : Inv X pins σ H s) (h : et X.K H a xs) : ∃ its : List _, al xs its ∧ IsTup s.heap a its.toArray ∧ xs.length ≤ sizeLine := by
 rcases h with h | ⟨o, its, n, hk, hc, hs, hz, r⟩
 · obtain ⟨z, its, r, p⟩ := h.ok I.hok
   exact ⟨its, r, p, z⟩
 · refine ⟨_, r, ⟨o, I.kIn a o hk, hc, n, by simpa using hs⟩, ?_⟩
   have e := r.length
   simp_all
theorem Inv.list_inj (I : Inv X pins σ H s) (h : cO X.K H a xs) (h' : cO X.K H a ys) : xs = ys := by
 obtain ⟨its, r, ⟨o, n, e, _, _, d⟩, _⟩ := I.list h
 obtain ⟨its', r', ⟨o', n', e', _, _, d'⟩, _⟩ := I.list h'
 have : its = its' := by grind
 subst this
 exact r.inj r'
theorem Inv.tuple_inj (I : Inv X pins σ H s) (h : et X.K H a xs) (h' : et X.K H a ys) : xs = ys := by
 obtain ⟨its, r, ⟨o, e, _, n, d⟩, _⟩ := I.tuple h
 obtain ⟨its', r', ⟨o', e', _, n', d'⟩, _⟩ := I.tuple h'
 have : its = its' := by grind
 subst this
 exact r.inj r'
end
abbrev Cx.wish (X : Cx) (E : Value → Shared → Prop) : Cx := { X with xe := E }
abbrev Cx.nox (X : Cx) : Cx := X.wish fun _ _ => False
theorem Cx.Ok.wish {X : Cx} (ok : X.Ok) (E : Value → Shared → Prop) : (X.wish E).Ok :=
 ⟨ok.mod, ok.kind, ok.glob, ok.blt, ok.above, ok.inj, ok.has, ok.cab, ok.hd, ok.frames, ok.stk, ok.exf, ok.bs, ok.bsz, ok.noex, ok.exfs, ok.funs, ok.frf⟩
theorem Cx.Ok.unwish {X : Cx} {E} (ok : (X.wish E).Ok) : X.Ok :=
 ⟨ok.mod, ok.kind, ok.glob, ok.blt, ok.above, ok.inj, ok.has, ok.cab, ok.hd, ok.frames, ok.stk, ok.exf, ok.bs, ok.bsz, ok.noex, ok.exfs, ok.funs, ok.frf⟩
section
variable {X : Cx} {pins : List (Addr × Obj)} {σ : St} {H : Hp} {s : Shared} {E : Value → Shared → Prop}
theorem Inv.wish (I : Inv X pins σ H s) (E : Value → Shared → Prop) : Inv (X.wish E) pins σ H s := ⟨I.ok.wish E, I.os, I.bare, I.base, I.loc, I.cell, I.free, I.freeC, I.pin, I.hok, I.len⟩
theorem Inv.unwish (I : Inv (X.wish E) pins σ H s) : Inv X pins σ H s := ⟨I.ok.unwish, I.os, I.bare, I.base, I.loc, I.cell, I.free, I.freeC, I.pin, I.hok, I.len⟩
theorem SP.unwish (h : SP (X.wish E) pins D f s') : SP X pins D f s' := by
 cases f with
 | next => obtain ⟨σ', H', I, q⟩ := h; exact ⟨σ', H', I.unwish, q⟩
 | brk => obtain ⟨σ', H', I, q⟩ := h; exact ⟨σ', H', I.unwish, q⟩
 | cont => obtain ⟨σ', H', I, q⟩ := h; exact ⟨σ', H', I.unwish, q⟩
 | ret u => obtain ⟨v, σ', H', I, r, q⟩ := h; exact ⟨v, σ', H', I.unwish, r, q⟩
theorem fK.nox {st} {t} (h : fK X.nox st t) : fK X st t := fun pins s σ H D I hw =>
 wpAny_mono (h _ s σ H D (I.wish _) hw) (fun _ _ q => q.unwish) fun _ _ z => False.elim z
end
section
variable {X : Cx} {st : Stmt} {gj : List Stmt} {t u : TS} {e : Expr} {te : TE} {pos : Pos}
def t7 : TS := fun D σ H => D.nx σ H
def HJ (t u : TS) : TS := fun D σ H => t { D with nx := u D } σ H
theorem wa : fK X [] t7 := fun _ _ σ H _ I h => wpAny_execs_nil ⟨σ, H, I, h⟩
theorem t4 (h1 : PS X st t) (h2 : fK X gj u) : fK X (st :: gj) (HJ t u) := by
 intro pins s σ H D I h
 refine wpAny_execs_cons (aU (h1 _ s σ H _ I h) fun f s1 q => ?_)
 cases f with
 | next =>
  obtain ⟨σ', H', I', q⟩ := q
  exact h2 _ s1 _ H' D I' q
 | ret v => exact q
 | brk => exact q
 | cont => exact q
def Cq : TS := fun D σ H => D.bk σ H
def EO : TS := fun D σ H => D.ct σ H
theorem wm : PS X (.Pass pos) t7 := fun _ _ σ H _ I h => wpAny_Pass ⟨σ, H, I, h⟩
theorem sy : PS X (.Break pos) Cq := fun _ _ σ H _ I h => wpAny_Break ⟨σ, H, I, h⟩
theorem mI : PS X (.Continue pos) EO := fun _ _ σ H _ I h => wpAny_Continue ⟨σ, H, I, h⟩
theorem Inv.quiet {σ : St} {H} {s} (I : Inv X pins σ H s) : interactive X.env = false := by simp [interactive, I.ok.kind]
theorem Bn {x j pos pos'} : PS X (.Expr (.Constant (.str x) j pos) pos') t7 := fun _ s σ H _ I h => wpAny_Expr (Calls.Constant_str ⟨σ, H, I.tok _, h⟩) I.quiet
def Eg (te : TE) : TS := fun D σ H => te σ H fun _ H1 => D.nx σ H1
theorem yh (he : PE X e te) (hs : swapsWith e none pos.line X.env = pure false := by rfl) : PS X (.Expr e pos) (Eg te) := by
 intro pins s σ H D I h
 exact wpAny_Expr_any (aU (he _ s σ H _ I h) fun v s1 ⟨x, H1, I1, r1, q1⟩ => ⟨σ, H1, I1, q1⟩) I.quiet hs
def G2 (te : TE) : TS := fun D σ H => te σ H D.rt
theorem zT (he : PE X e te) : PS X (.Return (some e) pos) (G2 te) := by
 intro pins s σ H D I h
 exact wpAny_Return_some (aU (he _ s σ H _ I h) fun v s1 ⟨x, H1, I1, r1, q1⟩ => ⟨x, σ, H1, I1, r1, q1⟩)
def FU : TS := fun D _ H => D.rt .non H
theorem wn : PS X (.Return none pos) FU := fun _ _ σ H _ I h => wpAny_Return_none ⟨.non, σ, H, I, rfl, h⟩
def HZ (c : TT) (t u : TS) : TS := fun D σ H => c σ H fun b H1 => if b = true then t D σ H1 else u D σ H1
theorem EW {tc} (hc : PT X c tc) (ha : fK X a t) (hb : fK X b u) : PS X (.If c a b pos) (HZ tc t u) := by
 intro pins s σ H D I h
 refine wpAny_If (aU (hc _ s σ H _ I h) fun d s1 ⟨H1, I1, q1⟩ => ?_)
 cases d with
 | true => exact ha _ s1 σ H1 D I1 q1
 | false => exact hb _ s1 σ H1 D I1 q1
end
abbrev TG := V → St → Hp → (St → Hp → Prop) → Prop
abbrev C5 := List V → St → Hp → (St → Hp → Prop) → Prop
def PG (X : Cx) (target : Expr) (t : TG) : Prop :=
 ∀ (pins : List (Addr × Obj)) (s : Shared) (σ : St) (H : Hp) (v : V) (u : Value) (Q : St → Hp → Prop), Inv X pins σ H s → RelV v u → t v σ H Q →
  wpAny (model X.prog X.w) X.A (assign target X.env u) (fun _ s' => ∃ σ' H', Inv X pins σ' H' s' ∧ Q σ' H') X.xe s
def C4 (X : Cx) (ts : List Expr) (t : C5) : Prop :=
 ∀ (pins : List (Addr × Obj)) (s : Shared) (σ : St) (H : Hp) (vs : List V) (us : List Value) (Q : St → Hp → Prop), Inv X pins σ H s → al vs us → t vs σ H Q →
  wpAny (model X.prog X.w) X.A (assignInOrder ((assignEach ts X.env).map (·.2)) us) (fun _ s' => ∃ σ' H', Inv X pins σ' H' s' ∧ Q σ' H') X.xe s
abbrev ER := V → V → V → Hp → (Hp → Prop) → Prop
def Fy (X : Cx) (t : ER) : Prop :=
 ∀ (pins : List (Addr × Obj)) (s : Shared) (σ : St) (H : Hp) (o i v : V) (ov iv u : Value) (Q : Hp → Prop), Inv X pins σ H s → RelV o ov → RelV i iv → RelV v u → t o i v H Q →
  wpAny (model X.prog X.w) X.A (setItem ov iv u) (fun _ s' => ∃ H', Inv X pins σ H' s' ∧ Q H') X.xe s
abbrev Jc := V → V → Hp → VK → Prop
def Js (X : Cx) (op : Operator) (t : Jc) : Prop :=
 ∀ (pins : List (Addr × Obj)) (s : Shared) (σ : St) (H : Hp) (x y : V) (v u : Value) (Q : VK), Inv X pins σ H s → RelV x v → RelV y u → t x y H Q →
  wpAny (model X.prog X.w) X.A (inplaceOp op v u) (EP X pins σ Q) X.xe s
section
variable {X : Cx} {pos : Pos}
def mQ (i : Nat) : TG := fun v σ H Q => Q (σ.set i (some v)) H
theorem gI {i : Nat} {x : Str} (hN : X.N.Nodup) (hi : X.N[i]? = some x) (hx : Loc X.env.scope x) (hf : X.fn x = true ∨ X.env.scope.names.lookup x = some .local := by first | exact .inl rfl | exact .inr rfl | assumption) : PG X (.Name x pos) (mQ i) := by
 intro pins s σ H v u Q I r h
 exact wpAny_assign_Name (ly I hN hi hx r (fun s' I' => ⟨_, H, I', h⟩) hf)
def Dp : C5 := fun vs σ H Q => vs = [] ∧ Q σ H
def y8 (t : TG) (u : C5) : C5 := fun vs σ H Q => ∃ v r, vs = v :: r ∧ t v σ H fun σ' H' => u r σ' H' Q
theorem xB : C4 X [] Dp := by
 intro pins s σ H vs us Q I r h
 obtain ⟨e, h⟩ := h
 exact assignInOrder_nil ⟨σ, H, I, h⟩
theorem vd {t} {u} (h1 : PG X e t) (h2 : C4 X es u)
 (hs : (assignEach (e :: es) X.env).map (·.2) = assign e X.env :: (assignEach es X.env).map (·.2) := by rfl) : C4 X (e :: es) (y8 t u) := by
 intro pins s σ H vs us Q I r h
 obtain ⟨v, vr, e1, h⟩ := h
 subst e1
 cases r with
 | cons r rr =>
  rw [hs]
  refine assignInOrder_cons (aU (h1 _ s σ H _ _ _ I r h) fun _ s1 ⟨σ1, H1, I1, q1⟩ => ?_)
  exact h2 _ s1 _ H1 _ _ Q I1 rr q1
def Es (K : PySem.W.Frag) (n : Nat) (t : C5) : TG := fun v σ H Q => ∃ a xs, v = .ref a ∧ et K H a xs ∧ xs.length = n ∧ t xs σ H Q
theorem z6 {k} {t} {n} (hc : X.calm = true) (h : C4 X es t)
 (hn : (assignEach es X.env).length = n := by rfl) (hst : (assignEach es X.env).findIdx? (·.1) = none := by rfl) : PG X (.Tuple es k pos) (Es X.K n t) := by
 intro pins s σ H v u Q I r hw
 obtain ⟨a, xs, e1, hq, hl, hw⟩ := hw
 subst e1
 cases r
 obtain ⟨its, rv, ht, hz⟩ := I.tuple hq
 refine assign_Tuple_tuple (I.ok.hd hc) ht (by simp [hn, ← hl, rv.length]) hst fun h' hx => ?_
 have I1 : Inv X _ σ H { s with heap := h' } := I.kept fun b o e => hx b o (Nat.ne_of_lt (Heap.lt_size e)) e
 exact h _ _ σ H xs _ Q I1 (by simpa using rv) hw
def GX (to ti : TE) (t : ER) : TG := fun v σ H Q => to σ H fun o H1 => ti σ H1 fun i H2 => t o i v H2 fun H3 => Q σ H3
theorem A5 {to ti} {t} (ho : PE X o to) (hi : PE X i ti) (hs : Fy X t)
 (ha : ∀ v, assign (.Subscript o i pos) X.env v = (do
  let ov ← holding [v] (eval o X.env)
  let iv ← holding [v, ov] (eval i X.env)
  standAt pos
  holding [v, ov, iv] (setItem ov iv v)
  release [v, ov, iv] []) := by intro _) : PG X (.Subscript o i pos) (GX to ti t) := by
 intro pins s σ H v u Q I r h
 rw [ha]
 refine wpAny_bind (wpAny_holding (aU (ho _ s σ H _ I h) fun ov s1 ⟨x, H1, I1, r1, q1⟩ => ?_))
 refine wpAny_bind (wpAny_holding (aU (hi _ s1 σ H1 _ I1 q1) fun iv s2 ⟨y, H2, I2, r2, q2⟩ => ?_))
 refine wpAny_bind (wpAny_standAt (wpAny_bind (wpAny_holding (aU (hs _ s2 σ H2 x y v ov iv u _ I2 r1 r2 r q2) fun _ s3 ⟨H3, I3, q3⟩ => ?_))))
 exact wpAny_release ⟨σ, H3, I3, q3⟩
def xY (te : TE) (g : TG) : TS := fun D σ H => te σ H fun x H1 => g x σ H1 D.nx
theorem mX {tg e} {te} {g} (he : PE X e te) (hg : PG X tg g) (hs : swapsWithSole [tg] e pos.line X.env = pure false := by rfl) (hw : swappedStores [tg] e X.env = pure none := by rfl)
 (h1 : (assignEach [tg] X.env).map (·.2) = [assign tg X.env] := by rfl) : PS X (.Assign [tg] e pos) (xY te g) := by
 intro pins s σ H D I h
 refine wpAny_Assign_stores (aU (he _ s σ H _ I h) fun v s1 ⟨x, H1, I1, r1, q1⟩ => ?_) hs hw
 rw [h1]
 exact aU (hg _ s1 σ H1 x v _ I1 r1 q1) fun _ s2 q => q
def IR (i : Nat) (te : TE) (ti : Jc) : TS := fun D σ H => ∃ x, σ[i]? = some (some x) ∧ te σ H fun y H1 => ti x y H1 fun z H2 => D.nx (σ.set i (some z)) H2
theorem Cw {i : Nat} {x : Str} {e : Expr} {te : TE} {op : Operator} {ti : Jc} {pos' : Pos} (hN : X.N.Nodup) (hi : X.N[i]? = some x) (hx : Loc X.env.scope x) (he : PE X e te) (ho : Js X op ti) (hf : X.fn x = true ∨ X.env.scope.names.lookup x = some .local := by first | exact .inl rfl | exact .inr rfl | assumption) :
 PS X (.AugAssign (.Name x pos') op e pos) (IR i te ti) := by
 intro pins s σ H D I h
 obtain ⟨v, e1, h⟩ := h
 obtain ⟨m, hn, hl⟩ := I.loc
 have Bs : yO X.env.scope x := by rcases hx with k | k; exact .inl k; exact .inr (.inl k)
 obtain ⟨u, r, l⟩ := hl i x v hi e1 Bs
 refine wpAny_AugAssign_Name ?_
 have go : wpAny (model X.prog X.w) X.A (eval e X.env) (fun w s₂ => wpAny (model X.prog X.w) X.A (inplaceOp op u w) (fun r s₃ => wpAny (model X.prog X.w) X.A (storeName X.env x r) (fun _ => SP X pins D .next) X.xe s₃) X.xe s₂) X.xe s := by
  refine aU (he pins s σ H _ I h) fun w s1 ⟨y, H1, I1, r1, q1⟩ => ?_
  refine aU (ho pins s1 σ H1 v y u w _ I1 r r1 q1) fun z s2 ⟨zv, H2, I2, r2, q2⟩ => ?_
  exact ly I2 hN hi hx r2 (fun s3 I3 => ⟨_, H2, I3, q2⟩) hf
 rcases l with ⟨hk, hm⟩ | ⟨hk, c, hc, hcell⟩
 · exact wpAny_loadName_local I.ok.kind hk hn hm go
 · rcases hk with hk | hk
   · exact wpAny_loadName_cell I.ok.kind hk hc hcell go
   · rcases hx with k | k
     · have : X.env.scope.names.lookup x = some .free := hk
       rw [k] at this; cases this
     · have : X.env.scope.names.lookup x = some .free := hk
       rw [k] at this; cases this
end
structure It where
 go : Nat → Hp → Prop
 yld : Nat → Hp → V → Hp → Prop
 stop : Nat → Hp → Prop
def bA (X : Cx) (pins : List (Addr × Obj)) (H : Hp) (b : Addr) : Prop :=
 H b = none ∧ b ≠ X.env.locals ∧ b ∉ X.fs ∧ (b ∈ X.ex ∨ X.s₀.heap.objs.size ≤ b) ∧ (∀ x c, X.env.cells.lookup x = some c → c ≠ b) ∧ ∀ p ∈ X.pn ++ pins, p.1 ≠ b
theorem Inv.fpOk {σ : St} {H H'} {s} {b : Addr} (I : Inv X pins σ H s) (hb : s.heap.objs.size ≤ b) (hn : H' b = none) : bA X pins H' b := by
 refine ⟨hn, Nat.ne_of_gt (Nat.lt_of_lt_of_le I.lt hb), I.nofs hb, .inr (Nat.le_trans I.sz hb), fun x c e z => ?_, fun p hp z => ?_⟩
 · obtain ⟨v, q⟩ := I.cell x c e
   exact absurd (Nat.lt_of_lt_of_le q.lt (by rw [z]; exact hb)) (Nat.lt_irrefl _)
 · exact absurd (Nat.lt_of_lt_of_le (Heap.lt_size (I.pin p hp).1) (by rw [z]; exact hb)) (Nat.lt_irrefl _)
structure jg (P : Program) (w : World) (K : PySem.W.Frag) (tg : Expr) (J : It) (fp : List Addr) (it : Addr) (tn : Nat → Heap → Prop) : Prop where
 mem : it ∈ fp
 obj : ∀ i h, tn i h → ∀ b ∈ fp, ∃ o, h.get? b = some o ∧ ∀ v, o.data ≠ .cell v
 keep : ∀ i h h', tn i h → (∀ b ∈ fp, ∀ o, h.get? b = some o → h'.get? b = some o) → tn i h'
 item : ∀ (X : Cx), X.prog = P → X.w = w → X.K = K → X.calm = true → ∀ (i : Nat) (pins : List (Addr × Obj)) (s : Shared) (σ : St) (H : Hp) (E : Value → Shared → Prop), Inv X pins σ H s → (∀ b ∈ fp, bA X pins H b) → tn i s.heap → J.go i H →
  wpAny (model P w) X.A (pyNext (.ref it)) (fun r s1 => ∃ u, r = some u ∧
   wpAny (model P w) X.A (letOwnedTupleGo tg (.ref it) u) (fun _ s2 => ∃ x H', Inv X pins σ H' s2 ∧ RelV x u ∧ J.yld i H x H' ∧ tn (i + 1) s2.heap ∧ ∀ b ∈ fp, H' b = none) E s1) E s
 done : ∀ (X : Cx), X.prog = P → X.w = w → X.K = K → X.calm = true → ∀ (i : Nat) (pins : List (Addr × Obj)) (s : Shared) (σ : St) (H : Hp) (E : Value → Shared → Prop), Inv X pins σ H s → (∀ b ∈ fp, bA X pins H b) → tn i s.heap → J.stop i H →
  wpAny (model P w) X.A (pyNext (.ref it)) (fun r s1 => r = none ∧ Inv X pins σ H s1) E s
 self : ∀ (A : Around) (i : Nat) (s : Shared) (Q : Value → Shared → Prop) (E : Value → Shared → Prop), tn i s.heap → Q (.ref it) s → wpAny (model P w) A (pyIter (.ref it)) Q E s
abbrev TI := St → Hp → (It → Hp → Prop) → Prop
def GV (X : Cx) (pins : List (Addr × Obj)) (σ : St) (tg : Expr) (R : It → Hp → Prop) (itv : Value) (s2 : Shared) : Prop :=
 ∃ (it : Addr) (fp : List Addr) (tn : Nat → Heap → Prop) (J : It) (H' : Hp), itv = .ref it ∧ Inv X pins σ H' s2 ∧ jg X.prog X.w X.K tg J fp it tn ∧ tn 0 s2.heap ∧ (∀ b ∈ fp, bA X pins H' b) ∧ R J H'
def PI (X : Cx) (tg iter : Expr) (wi : TI) : Prop :=
 ∀ (pins : List (Addr × Obj)) (s : Shared) (σ : St) (H : Hp) (R : It → Hp → Prop), Inv X pins σ H s → wi σ H R →
  wpAny (model X.prog X.w) X.A (eval iter X.env) (fun v s1 => wpAny (model X.prog X.w) X.A (pyIter v) (GV X pins σ tg R) X.xe s1) X.xe s
theorem sN {A} {E} {s} {tg} {it} {u} {o} {n} {vs} {Q} (ho : s.heap.get? it = some o) (hc : o.cls = .type n) (hd : o.data = .fields vs)
 (hn : ["enumerate", "zip", "dict_itemiterator", "dict_reverseitemiterator", "odict_iterator", "itertools.zip_longest", "itertools.pairwise"].contains n = false) (hQ : Q () s) : wpAny M A (letOwnedTupleGo tg (.ref it) u) Q E s := by
 cases tg <;> first
  | exact wpAny_pure hQ
  | (cases u <;> first
   | exact wpAny_pure hQ
   | (refine wpAny_bind (wpAny_load ho ?_)
      rw [hc, hd]
      show wpAny M A (if (["enumerate", "zip", "dict_itemiterator", "dict_reverseitemiterator", "odict_iterator", "itertools.zip_longest", "itertools.pairwise"].contains n && vs[0]? == some _) = true then _ else _) Q E s
      rw [if_neg (by grind)]
      exact wpAny_pure hQ))
def Ix (K : PySem.W.Frag) (a : Addr) : It :=
 ⟨fun i H => ∃ xs x, cO K H a xs ∧ xs[i]? = some x, fun i H x H' => H' = H ∧ ∀ xs, cO K H a xs → xs[i]? = some x, fun i H => ∃ xs, cO K H a xs ∧ xs.length ≤ i⟩
def HC (K : PySem.W.Frag) (a : Addr) : It :=
 ⟨fun i H => ∃ xs x, et K H a xs ∧ xs[i]? = some x, fun i H x H' => H' = H ∧ ∀ xs, et K H a xs → xs[i]? = some x, fun i H => ∃ xs, et K H a xs ∧ xs.length ≤ i⟩
def DQ (lo : Int) (n : Nat) : It := ⟨fun i _ => i < n, fun i H x H' => H' = H ∧ x = .int (lo + i), fun i _ => n ≤ i⟩
theorem qD {w} {K} {tg} (a it : Addr) : jg P w K tg (Ix K a) [it] it fun i h => h.IsListIter it a i where
 mem := by simp
 obj := fun i h st b hb => by
  obtain ⟨o, e, c, d⟩ := st
  simp_all
 keep := fun i h h' st k => st.at fun o e => k it (by simp) o e
 item := by
  intro X hP hw hK hc i pins s σ H E I hf st hg
  subst hP hw hK
  obtain ⟨xs, x, hq, hx⟩ := hg
  obtain ⟨its, rv, p, hz⟩ := I.list hq
  obtain ⟨u, hu, ru⟩ := rv.get hx
  obtain ⟨f0, f1, f2, f3, f4, f5⟩ := hf it (by simp)
  refine wpAny_pyNext_list_item st p.isList (by simpa using hu) fun h' st' sb => ?_
  have I1 : Inv X _ σ H { s with heap := h' } := I.turned (fun b o hb e => (sb.2 b hb).trans e) f0 f1 f3 f4 f5
  obtain ⟨o, e, c, d⟩ := id st'
  exact ⟨u, rfl, sN e c d rfl ⟨x, H, I1, ru, ⟨rfl, fun ys hy => by rw [I.list_inj hy hq]; exact hx⟩, st', fun b hb => (hf b hb).1⟩⟩
 done := by
  intro X hP hw hK hc i pins s σ H E I hf st hg
  subst hP hw hK
  obtain ⟨xs, hq, hx⟩ := hg
  obtain ⟨its, rv, p, hz⟩ := I.list hq
  obtain ⟨f0, f1, f2, f3, f4, f5⟩ := hf it (by simp)
  have hl := rv.length
  exact wpAny_pyNext_list_end (I.ok.hd hc) st p.isList (by simp; omega) fun h' eb => ⟨rfl, I.turned (fun b o hb e => eb b o hb e) f0 f1 f3 f4 f5⟩
 self := fun _ _ _ _ _ st h => wpAny_pyIter_listiter st h
theorem na {w} {K} {tg} (a it : Addr) : jg P w K tg (HC K a) [it] it fun i h => h.IsTupleIter it a i where
 mem := by simp
 obj := fun i h st b hb => by
  obtain ⟨o, e, c, d⟩ := st
  simp_all
 keep := fun i h h' st k => st.at fun o e => k it (by simp) o e
 item := by
  intro X hP hw hK hc i pins s σ H E I hf st hg
  subst hP hw hK
  obtain ⟨xs, x, hq, hx⟩ := hg
  obtain ⟨its, rv, p, hz⟩ := I.tuple hq
  obtain ⟨u, hu, ru⟩ := rv.get hx
  obtain ⟨f0, f1, f2, f3, f4, f5⟩ := hf it (by simp)
  refine wpAny_pyNext_tuple_item st (p) (by simpa using hu) fun h' st' sb => ?_
  have I1 : Inv X _ σ H { s with heap := h' } := I.turned (fun b o hb e => (sb.2 b hb).trans e) f0 f1 f3 f4 f5
  obtain ⟨o, e, c, d⟩ := id st'
  exact ⟨u, rfl, sN e c d rfl ⟨x, H, I1, ru, ⟨rfl, fun ys hy => by rw [I.tuple_inj hy hq]; exact hx⟩, st', fun b hb => (hf b hb).1⟩⟩
 done := by
  intro X hP hw hK hc i pins s σ H E I hf st hg
  subst hP hw hK
  obtain ⟨xs, hq, hx⟩ := hg
  obtain ⟨its, rv, p, hz⟩ := I.tuple hq
  obtain ⟨f0, f1, f2, f3, f4, f5⟩ := hf it (by simp)
  have hl := rv.length
  exact wpAny_pyNext_tuple_end (I.ok.hd hc) st p (by simp; omega) fun h' eb => ⟨rfl, I.turned (fun b o hb e => eb b o hb e) f0 f1 f3 f4 f5⟩
 self := fun _ _ _ _ _ st h => wpAny_pyIter_tupleiter st h
theorem n4 {K} {tg} (it : Addr) (lo : Int) (n : Nat) : jg P w K tg (DQ lo n) [it] it fun i h => IsRangeIter h it (lo + i * 1) (n - i) 1 where
 mem := by simp
 obj := fun i h st b hb => by
  simp_all
 keep := fun i h h' st k => k it (by simp) _ st
 item := by
  intro X hP hw hK hc i pins s σ H E I hf st hg
  subst hP hw hK
  obtain ⟨f0, f1, f2, f3, f4, f5⟩ := hf it (by simp)
  have W := Walks.range (prog := X.prog) (w := X.w) (I.ok.hd hc) it lo 1 n
  refine W.item i s _ _ hg st fun v h' tk hv st' kk => ?_
  obtain ⟨t, rfl⟩ := hv
  have I1 : Inv X _ σ H { s with heap := h', toks := tk } := I.turned (fun b o hb e => kk b o (by simpa using hb) e) f0 f1 f3 f4 f5
  refine ⟨_, rfl, sN st' rfl rfl rfl ⟨.int _, H, I1, ⟨t, ?_⟩, ⟨rfl, rfl⟩, st', fun b hb => (hf b hb).1⟩⟩
  rw [Int.mul_one]
 done := by
  intro X hP hw hK hc i pins s σ H E I hf st hg
  obtain ⟨f0, f1, f2, f3, f4, f5⟩ := hf it (by simp)
  exact wpAny_pyNext_range_end (I.ok.hd hc) st (by have : n ≤ i := hg; omega) fun h' eb => ⟨rfl, I.turned (fun b o hb e => eb b o hb e) f0 f1 f3 f4 f5⟩
 self := fun _ _ _ _ _ st h => wpAny_pyIter_rangeiter st h
section
variable {X : Cx} {tg : Expr}
def Gh (K : PySem.W.Frag) (tl : TE) : TI := fun σ H R => tl σ H fun x H1 => ∃ a, x = .ref a ∧ (∃ xs, cO K H1 a xs) ∧ R (Ix K a) H1
def Hu (K : PySem.W.Frag) (tl : TE) : TI := fun σ H R => tl σ H fun x H1 => ∃ a, x = .ref a ∧ (∃ xs, et K H1 a xs) ∧ R (HC K a) H1
theorem vO (hl : PE X l tl) : PI X tg l (Gh X.K tl) := by
 intro pins s σ H R I h
 refine aU (hl _ s σ H _ I h) fun v s1 ⟨x, H1, I1, r1, q1⟩ => ?_
 obtain ⟨a, e, ⟨xs, hq⟩, q⟩ := q1
 subst e
 cases r1
 obtain ⟨its, rv, p, hz⟩ := I1.list hq
 refine wpAny_pyIter_list p.isList ?_
 refine ⟨_, _, _, _, H1, rfl, I1.kept fun b o e => Heap.get?_push_of_some _ e, qD a _, ⟨_, Heap.get?_push_size _ rfl, rfl, rfl⟩, fun b hb => ?_, q⟩
 have e := by simpa using hb
 subst e
 exact I1.fpOk (Nat.le_refl _) (I1.hok.fresh (Nat.le_refl _))
theorem Ci (hl : PE X l tl) : PI X tg l (Hu X.K tl) := by
 intro pins s σ H R I h
 refine aU (hl _ s σ H _ I h) fun v s1 ⟨x, H1, I1, r1, q1⟩ => ?_
 obtain ⟨a, e, ⟨xs, hq⟩, q⟩ := q1
 subst e
 cases r1
 obtain ⟨its, rv, p, hz⟩ := I1.tuple hq
 refine wpAny_pyIter_tuple p ?_
 refine ⟨_, _, _, _, H1, rfl, I1.kept fun b o e => Heap.get?_push_of_some _ e, na a _, ⟨_, Heap.get?_push_size _ rfl, rfl, rfl⟩, fun b hb => ?_, q⟩
 have e := by simpa using hb
 subst e
 exact I1.fpOk (Nat.le_refl _) (I1.hok.fresh (Nat.le_refl _))
theorem l4 {σ : St} {H} {s} {R} {E} {lo hi} {t u v} {tk} (I : Inv X pins σ H s) (h1 : -2 ^ 62 ≤ lo) (h2 : lo < 2 ^ 62) (h3 : -2 ^ 62 ≤ hi) (h4 : hi < 2 ^ 62)
 (q : R (DQ lo (hi - lo).toNat) H) : wpAny (model X.prog X.w) X.A (pyIter (.ref s.heap.objs.size)) (GV X pins σ tg R) E { s with heap := s.heap.push { cls := .type "range", data := .fields #[.int lo t, .int hi u, .int 1 v] }, toks := tk } := by
 refine wpAny_pyIter_range (IsRange.new ..) (small_one h1 h2 h3 h4) ?_
 have I1 : Inv X _ σ H { s with heap := s.heap.push { cls := .type "range", data := .fields #[.int lo t, .int hi u, .int 1 v] }, toks := tk } := I.kept fun b o e => Heap.get?_push_of_some _ e
 refine ⟨_, _, _, _, H, rfl,
  I1.kept fun b o e => Heap.get?_push_of_some _ e, n4 _ lo _, ?_, fun b hb => ?_, q⟩
 · have e1 : lo + (0 : Nat) * 1 = lo := by simp
   have e2 : (hi - lo).toNat - (0 : Nat) = Builtin.Range.rangeSize lo hi 1 := by rw [rangeSize_one]; split <;> omega
   rw [e1, e2]
   exact Heap.get?_push_size _ rfl
 · have e : b = (s.heap.push { cls := .type "range", data := .fields #[.int lo t, .int hi u, .int 1 v] }).objs.size := by simpa using hb
   subst e
   exact I1.fpOk (Nat.le_refl _) (I1.hok.fresh (Nat.le_refl _))
def Fj (ta : TA) : TI := fun σ H R => ta σ H fun vs H1 => ∃ j : Int, vs = [.int j] ∧ -(2 ^ 62) ≤ j ∧ j < 2 ^ 62 ∧ R (DQ 0 j.toNat) H1
def De (ta : TA) : TI := fun σ H R => ta σ H fun vs H1 => ∃ i j : Int, vs = [.int i, .int j] ∧ (-(2 ^ 62) ≤ i ∧ i < 2 ^ 62 ∧ -(2 ^ 62) ≤ j ∧ j < 2 ^ 62) ∧ R (DQ i (j - i).toNat) H1
theorem qw (hg : Gl X "range") (hm : X.mg "range" = none) (ha : PA X [a] ta) (hs : starEach [a] X.env = [(false, eval a X.env)] := by rfl) : PI X tg (.Call (.Name "range" p) [a] [] pos) (Fj ta) := by
 intro pins s σ H R I h
 refine Call_ (bX I hg hm boot_range (PyProof.Rows.callWith_type1 (aU (ha _ _ s σ H _ I h) fun us s1 ⟨vs, H1, I1, r1, q1⟩ => ?_) hs rfl))
 obtain ⟨j, e, q1, q2, q⟩ := q1
 subst e
 cases r1 with
 | cons r rr =>
  cases rr
  obtain ⟨t, rfl⟩ := r
  exact call_range_1 (l4 I1 (by omega) (by omega) q1 q2 (by simpa using q))
theorem qY {p pos} (hg : Gl X "range") (hm : X.mg "range" = none) (ha : PA X [a, b] ta) (hs : starEach [a, b] X.env = [(false, eval a X.env), (false, eval b X.env)] := by rfl) (hs2 : starEach [b] X.env = [(false, eval b X.env)] := by rfl) :
 PI X tg (.Call (.Name "range" p) [a, b] [] pos) (De ta) := by
 intro pins s σ H R I h
 refine Call_ (bX I hg hm boot_range (PyProof.Rows.callWith_type1 (aU (ha _ _ s σ H _ I h) fun us s1 ⟨vs, H1, I1, r1, q1⟩ => ?_) (by rw [hs, hs2]) (by rw [hs2]; rfl)))
 obtain ⟨i, j, e, ⟨q1, q2, q3, q4⟩, q⟩ := q1
 subst e
 cases r1 with
 | cons r rr =>
  cases rr with
  | cons r' rr =>
   cases rr
   obtain ⟨t, rfl⟩ := r
   obtain ⟨t', rfl⟩ := r'
   exact call_range_2 (l4 I1 q1 q2 q3 q4 q)
def Iu (wi : TI) (g : TG) (tb : TS) : TS := fun D σ H => wi σ H fun J H1 => ∃ W : Nat → Nat → St → Hp → Prop, (∃ m, W 0 m σ H1) ∧ ∀ i m σ H, W i m σ H →
 (J.stop i H ∧ D.nx σ H) ∨ (J.go i H ∧ ∃ N : St → Hp → Prop, (∀ σ' H', N σ' H' → ∃ m', m' < m ∧ W (i + 1) m' σ' H') ∧ ∀ x H', J.yld i H x H' → g x σ H' fun σ2 H2 => tb { D with nx := N, ct := N, bk := D.nx } σ2 H2)
def ez (fp : List Addr) (h : Heap) : List (Addr × Obj) := fp.filterMap fun b => (h.get? b).map fun o => (b, o)
theorem bL {b} {o} (hb : b ∈ fp) (e : h.get? b = some o) : (b, o) ∈ ez fp h := List.mem_filterMap.mpr ⟨b, hb, by rw [e]; rfl⟩
theorem jC (hp : p ∈ ez fp h) : p.1 ∈ fp ∧ h.get? p.1 = some p.2 := by
 obtain ⟨b, hb, e⟩ := List.mem_filterMap.mp hp
 cases q : h.get? b with
 | none => rw [q] at e; cases e
 | some o =>
  rw [q] at e
  have e' := Option.some.inj e
  subst e'
  exact ⟨hb, q⟩
theorem Inv.pinned {σ : St} {H} {s} {fp} (I : Inv X pins σ H s) (hf : ∀ b ∈ fp, bA X pins H b) (ho : ∀ b ∈ fp, ∃ o, s.heap.get? b = some o ∧ ∀ v, o.data ≠ .cell v) : Inv X (pins ++ ez fp s.heap) σ H s :=
 I.pins_of fun p hp => (List.mem_append.mp hp).elim (fun z => I.pin p (List.mem_append_right _ z)) fun z => by
  obtain ⟨hb, e⟩ := jC z
  obtain ⟨f0, f1, f2, _⟩ := hf _ hb
  obtain ⟨o, e', d⟩ := ho _ hb
  simp_all
theorem Inv.unpinned {σ : St} {H} {s} (I : Inv X (pins ++ pl) σ H s) : Inv X pins σ H s := I.pins_of fun p hp => I.pin p (List.mem_append_right _ (List.mem_append_left _ hp))
theorem Ax {iter : Expr} {body : List Stmt} {wi : TI} {g : TG} {tb : TS} {pos : Pos} (hp : PassesOwn (model X.prog X.w) X.A X.env X.xe) (hc : X.calm = true) (hi : PI X tg iter wi) (hg : PG X tg g) (hb : fK X body tb)
 (hs : ∀ x, foldedSetIterable iter X.env x = pure x := by intro _; rfl) : PS X (.For tg iter body [] pos) (Iu wi g tb) := by
 intro pins s σ H D I h
 refine wpAny_For (aU (hi pins s σ H _ I h) fun v s1 h1 => aU h1 fun itv s2 h2 => ?_) hs
 obtain ⟨it, fp, tn, J, H2, e, I2, T, st2, f2, W, ⟨m0, w0⟩, turn⟩ := h2
 subst e
 have stat : ∀ {H' : Hp}, (∀ b ∈ fp, H' b = none) → ∀ b ∈ fp, bA X pins H' b := fun hn b hb => ⟨hn b hb, (f2 b hb).2⟩
 refine codeAny_forLoop_any (fun n s' => ∃ i σ' H', Inv X pins σ' H' s' ∧ tn i s'.heap ∧ (∀ b ∈ fp, H' b = none) ∧ W i n σ' H') ?_ m0 ⟨0, σ, H2, I2, st2, fun b hb => (f2 b hb).1, w0⟩
 rintro n s3 ⟨i, σ3, H3, I3, st3, fr3, w3⟩
 rcases turn i n σ3 H3 w3 with ⟨stop, qn⟩ | ⟨go, N, hN, step⟩
 · refine wpAny_passesOwn hp (aU (T.done X rfl rfl rfl hc i pins s3 σ3 H3 X.xe I3 (stat fr3) st3 stop) fun r s4 ⟨hr, I4⟩ => ?_)
   subst hr
   exact wpAny_execs_nil ⟨σ3, H3, I4, qn⟩
 · refine wpAny_passesOwn hp (aU (T.item X rfl rfl rfl hc i pins s3 σ3 H3 X.xe I3 (stat fr3) st3 go) fun r s4 ⟨u, hr, h4⟩ => ?_)
   subst hr
   refine wpAny_passesOwn hp (aU h4 fun _ s5 ⟨x, H5, I5, r5, y5, st5, fr5⟩ => ?_)
   have I5' := I5.pinned (stat fr5) (T.obj _ _ st5)
   refine wpAny_passesOwn hp (aU (hg _ s5 σ3 H5 x u _ I5' r5 (step x H5 y5)) fun _ s6 ⟨σ6, H6, I6, q6⟩ => ?_)
   refine wpAny_passesOwn hp (aU (hb _ s6 σ6 H6 _ I6 q6) fun f s7 q7 => ?_)
   have again : ∀ {σ7 : St} {H7 : Hp}, Inv X (pins ++ ez fp s5.heap) σ7 H7 s7 → N σ7 H7 → ∃ m, m < n ∧ ∃ i σ' H', Inv X pins σ' H' s7 ∧ tn i s7.heap ∧ (∀ b ∈ fp, H' b = none) ∧ W i m σ' H' := fun {σ7 H7} I7 n7 => by
    obtain ⟨m', hm, w7⟩ := hN σ7 H7 n7
    refine ⟨m', hm, i + 1, σ7, H7, I7.unpinned, T.keep _ _ _ st5 fun b hb o e => (I7.pin (b, o) (List.mem_append_right _ (List.mem_append_right _ (bL hb e)))).1, fun b hb => ?_, w7⟩
    obtain ⟨o, e, d⟩ := T.obj _ _ st5 b hb
    exact (I7.pin (b, o) (List.mem_append_right _ (List.mem_append_right _ (bL hb e)))).2.1
   cases f with
   | next => obtain ⟨σ7, H7, I7, n7⟩ := q7; exact again I7 n7
   | cont => obtain ⟨σ7, H7, I7, n7⟩ := q7; exact again I7 n7
   | brk => obtain ⟨σ7, H7, I7, q7⟩ := q7; exact ⟨σ7, H7, I7.unpinned, q7⟩
   | ret v => obtain ⟨x7, σ7, H7, I7, r7, q7⟩ := q7; exact ⟨x7, σ7, H7, I7.unpinned, r7, q7⟩
end
abbrev R2 := V → V → Hp → VK → Prop
def cA (X : Cx) (f : Value → Value → Sem Value) (r : R2) : Prop :=
 ∀ (pins : List (Addr × Obj)) (s : Shared) (σ : St) (H : Hp) (x y : V) (v u : Value) (Q : VK), Inv X pins σ H s → RelV x v → RelV y u → r x y H Q →
  wpAny (model X.prog X.w) X.A (f v u) (EP X pins σ Q) X.xe s
def HY (X : Cx) (f : Value → Sem Value) (r : V → Hp → VK → Prop) : Prop :=
 ∀ (pins : List (Addr × Obj)) (s : Shared) (σ : St) (H : Hp) (x : V) (v : Value) (Q : VK), Inv X pins σ H s → RelV x v → r x H Q →
  wpAny (model X.prog X.w) X.A (f v) (EP X pins σ Q) X.xe s
def bC (X : Cx) (f : Value) (r : List V → Hp → VK → Prop) : Prop :=
 ∀ (pins : List (Addr × Obj)) (s : Shared) (σ : St) (H : Hp) (xs : List V) (us : List Value) (Q : VK), Inv X pins σ H s → al xs us → r xs H Q →
  wpAny (model X.prog X.w) X.A (call f us) (EP X pins σ Q) X.xe s
def G4 (X : Cx) (r : V → Hp → (Bool → Hp → Prop) → Prop) : Prop :=
 ∀ (pins : List (Addr × Obj)) (s : Shared) (σ : St) (H : Hp) (x : V) (v : Value) (Q : Bool → Hp → Prop), Inv X pins σ H s → RelV x v → r x H Q →
  wpAny (model X.prog X.w) X.A (truthy v) (TP X pins σ Q) X.xe s
def Bg (r : R2) (ta tb : TE) : TE := fun σ H Q => ta σ H fun x H1 => tb σ H1 fun y H2 => r x y H2 Q
def Ju (r : V → Hp → VK → Prop) (ta : TE) : TE := fun σ H Q => ta σ H fun x H1 => r x H1 Q
def rI (C : Int → Int → Prop) (g : Int → Int → V) : R2 := fun x y H Q => ∃ i j, x = .int i ∧ y = .int j ∧ C i j ∧ Q (g i j) H
def rP (g : Int → Int → V) : R2 := fun x y H Q => ∃ i j, x = .int i ∧ y = .int j ∧ Q (g i j) H
def rU (g : Int → V) : V → Hp → VK → Prop := fun x H Q => ∃ i, x = .int i ∧ Q (g i) H
section
variable {X : Cx} {a b c : Expr} {ta tb tc : TE} {pos : Pos}
theorem eB (ha : PE X a ta) (hb : PE X b tb) {pins} {s} {σ : St} {H} {R : V → V → Hp → Prop} (I : Inv X pins σ H s)
 (h : ta σ H fun x H1 => tb σ H1 fun y H2 => R x y H2) {Q : Value → Shared → Prop} {f : Value → Value → Sem _}
 (hf : ∀ v u s2 x y H2, Inv X pins σ H2 s2 → RelV x v → RelV y u → R x y H2 → wpAny (model X.prog X.w) X.A (f v u) Q X.xe s2) :
 wpAny (model X.prog X.w) X.A (eval a X.env) (fun v s₁ => wpAny (model X.prog X.w) X.A (eval b X.env) (fun u s₂ => wpAny (model X.prog X.w) X.A (f v u) Q X.xe s₂) X.xe s₁) X.xe s := by
 refine aU (ha _ s σ H _ I h) fun v s1 ⟨x, H1, I1, r1, q1⟩ => ?_
 refine aU (hb _ s1 σ H1 _ I1 q1) fun u s2 ⟨y, H2, I2, r2, q2⟩ => ?_
 exact hf v u s2 x y H2 I2 r1 r2 q2
theorem DR (ho : cA X (binaryOp op) r) (ha : PE X a ta) (hb : PE X b tb) : PE X (.BinOp a op b pos) (Bg r ta tb) := by
 intro pins s σ H Q I h
 exact wpAny_BinOp (eB ha hb I h fun v u s2 x y H2 I2 rx ry q => ho _ s2 σ H2 x y v u Q I2 rx ry q)
theorem Eu (ho : HY X (unaryOp op) r) (ha : PE X a ta) : PE X (.UnaryOp op a pos) (Ju r ta) := by
 intro pins s σ H Q I h
 exact UnaryOp_ (aU (ha _ s σ H _ I h) fun v s1 ⟨x, H1, I1, r1, q1⟩ => ho _ s1 σ H1 x v Q I1 r1 q1)
theorem qF {op : Operator} {r : R2} (ho : cA X (inplaceOp op) r) {pins : List (Addr × Obj)} {s : Shared} {σ : St} {H : Hp} {x y : V} {v u : Value} {Q : VK} (I : Inv X pins σ H s)
 (rx : RelV x v) (ry : RelV y u) (q : r x y H Q) : wpAny (model X.prog X.w) X.A (inplaceOp op v u) (EP X pins σ Q) X.xe s := ho pins s σ H x y v u Q I rx ry q
theorem FD {C} {g : Int → Int → Int}
 (rule : ∀ (i j : Int) (t u : Tok) (s : Shared) (Q : Value → Shared → Prop) (E : Value → Shared → Prop), C i j → Q (.int (g i j) s.toks) { s with toks := s.toks + 1 } → wpAny (model X.prog X.w) X.A (f (.int i t) (.int j u)) Q E s) :
 cA X f (rI C fun i j => .int (g i j)) := by
 intro pins s σ H x y v u Q I rx ry h
 obtain ⟨i, j, rfl, rfl, hc, q⟩ := h
 obtain ⟨t, rfl⟩ := rx
 obtain ⟨t', rfl⟩ := ry
 exact rule i j t t' s _ _ hc ⟨.int _, H, I.tok _, ⟨_, rfl⟩, q⟩
theorem xy {g : Int → Int → Int}
 (rule : ∀ (i j : Int) (t u : Tok) (s : Shared) (Q : Value → Shared → Prop) (E : Value → Shared → Prop), Q (.int (g i j) s.toks) { s with toks := s.toks + 1 } → wpAny (model X.prog X.w) X.A (f (.int i t) (.int j u)) Q E s) :
 cA X f (rP fun i j => .int (g i j)) := by
 intro pins s σ H x y v u Q I rx ry h
 obtain ⟨i, j, rfl, rfl, q⟩ := h
 obtain ⟨t, rfl⟩ := rx
 obtain ⟨t', rfl⟩ := ry
 exact rule i j t t' s _ _ ⟨.int _, H, I.tok _, ⟨_, rfl⟩, q⟩
theorem yt {g : Int → Int → Bool}
 (rule : ∀ (i j : Int) (t u : Tok) (s : Shared) (Q : Value → Shared → Prop) (E : Value → Shared → Prop), Q (.bool (g i j)) s → wpAny (model X.prog X.w) X.A (f (.int i t) (.int j u)) Q E s) :
 cA X f (rP fun i j => .bl (g i j)) := by
 intro pins s σ H x y v u Q I rx ry h
 obtain ⟨i, j, rfl, rfl, q⟩ := h
 obtain ⟨t, rfl⟩ := rx
 obtain ⟨t', rfl⟩ := ry
 exact rule i j t t' s _ _ ⟨.bl _, H, I, rfl, q⟩
def E2 (i j : Int) : Prop := 0 ≤ j ∧ j ≤ 1000000 ∧ i.natAbs < 2 ^ 64
def qd (i j : Int) : Prop := (-(2 ^ 64) < i ∧ i < 2 ^ 64) ∨ (-(2 ^ 64) < j ∧ j < 2 ^ 64)
theorem qd.ok (h : qd i j) : IntMulOk i j := by
 rcases h with ⟨h1, h2⟩ | ⟨h1, h2⟩
 · exact .of_left (intBits_le_64 h1 h2)
 · exact .of_right (intBits_le_64 h1 h2)
theorem BC : cA X (binaryOp .Add) (rP fun i j => .int (i + j)) := xy fun _ _ _ _ _ _ _ q => add_int q
theorem BO : cA X (binaryOp .Sub) (rP fun i j => .int (i - j)) := xy fun _ _ _ _ _ _ _ q => sub_int q
theorem CG : cA X (binaryOp .Mult) (rI qd fun i j => .int (i * j)) := FD fun _ _ _ _ _ _ _ hc q => mul_int q hc.ok
theorem zY : cA X (binaryOp .Mod) (rI (fun _ j => 0 < j) fun i j => .int (i % j)) := FD fun i j _ _ _ _ _ hc q => mod_int' (by omega) (by rw [Int.fmod_eq_emod_of_nonneg i (by omega)]; exact q)
theorem AF : cA X (binaryOp .Pow) (rI E2 fun i j => .int (i ^ j.toNat)) := FD fun _ _ _ _ _ _ _ hc q => pow_int_small hc.1 hc.2.1 hc.2.2 q
theorem xW : cA X (inplaceOp .Add) (rP fun i j => .int (i + j)) := xy fun _ _ _ _ _ _ _ q => iadd_int q
theorem yE : cA X (inplaceOp .Sub) (rP fun i j => .int (i - j)) := xy fun _ _ _ _ _ _ _ q => isub_int q
theorem yl : cA X (inplaceOp .Mult) (rI qd fun i j => .int (i * j)) := FD fun _ _ _ _ _ _ _ hc q => imul_int q hc.ok
theorem KC {g : Int → Int}
 (rule : ∀ (i : Int) (t : Tok) (s : Shared) (Q : Value → Shared → Prop) (E : Value → Shared → Prop), Q (.int (g i) s.toks) { s with toks := s.toks + 1 } → wpAny (model X.prog X.w) X.A (f (.int i t)) Q E s) :
 HY X f (rU fun i => .int (g i)) := by
 intro pins s σ H x v Q I rx h
 obtain ⟨i, rfl, q⟩ := h
 obtain ⟨t, rfl⟩ := rx
 exact rule i t s _ _ ⟨.int _, H, I.tok _, ⟨_, rfl⟩, q⟩
theorem Am : HY X (unaryOp .USub) (rU fun i => .int (-i)) := KC fun _ _ _ _ _ q => neg_int q
theorem nO {σ : St} {H} {s} {Q} {k k'} (I : Inv X pins σ H s) (q : Q (.bl k) H) (e : k = k') : EP X pins σ Q (.bool k') s := by
 subst e
 exact ⟨.bl k, H, I, rfl, q⟩
theorem F6 : cA X (compareOp .Lt) (rP fun i j => .bl (decide (i < j))) := yt fun _ _ _ _ _ _ _ q => lt_int q
theorem DC : cA X (compareOp .LtE) (rP fun i j => .bl (decide (i ≤ j))) := yt fun _ _ _ _ _ _ _ q => le_int q
theorem Ek : cA X (compareOp .Gt) (rP fun i j => .bl (decide (j < i))) := yt fun _ _ _ _ _ _ _ q => gt_int q
theorem FY : cA X (compareOp .GtE) (rP fun i j => .bl (decide (j ≤ i))) := yt fun _ _ _ _ _ _ _ q => ge_int q
theorem tQ : cA X (compareOp .Is) fun x y H Q => y = .non ∧ Q (.bl (decide (x = .non))) H := by
 intro pins s σ H x y v u Q I rx ry h
 obtain ⟨rfl, q⟩ := h
 cases ry
 refine is_none_gen (nO I q ?_)
 cases x <;> first
  | (obtain ⟨t, rfl⟩ := rx; rfl)
theorem oU : cA X (compareOp .IsNot) fun x y H Q => y = .non ∧ Q (.bl !decide (x = .non)) H := by
 intro pins s σ H x y v u Q I rx ry h
 obtain ⟨rfl, q⟩ := h
 cases ry
 refine isnot_none_gen (nO I q ?_)
 cases x <;> first
  | (obtain ⟨t, rfl⟩ := rx; rfl)
theorem cA.or (h : cA X f r) (h' : cA X f r') : cA X f fun x y H Q => r x y H Q ∨ r' x y H Q := by
 intro pins s σ H x y v u Q I rx ry q
 rcases q with q | q
 · exact h _ s σ H x y v u Q I rx ry q
 · exact h' _ s σ H x y v u Q I rx ry q
theorem jT (b : Expr) {op} (h : op ≠ .In := by decide) (h2 : op ≠ .NotIn := by decide) : behindInMarks op b = false := by
 have e1 : (op == CmpOp.In) = false := by grind
 have e2 : (op == CmpOp.NotIn) = false := by grind
 cases b <;> simp [behindInMarks, e1, e2]
theorem gS (ho : cA X (compareOp op) r) (ha : PE X a ta) (hb : PE X b tb) (hm : behindInMarks op b = false) : PE X (.Compare a [op] [b] pos) (Bg r ta tb) := by
 intro pins s σ H Q I h
 exact wpAny_Compare1 (eB ha hb I h fun v u s2 x y H2 I2 rx ry q => ho _ s2 σ H2 x y v u Q I2 rx ry q) hm
def zf (t : TE) : TT := fun σ H Q => t σ H fun x H' => ∃ k, x = .bl k ∧ Q k H'
theorem gH (ho : cA X (compareOp op) r) (ha : PE X a ta) (hb : PE X b tb) (hm : behindInMarks op b = false) : PT X (.Compare a [op] [b] pos) (zf (Bg r ta tb)) := by
 intro pins s σ H Q I h
 refine wpAny_isTrue_Compare1 (aU (ha _ s σ H _ I h) fun v s1 ⟨x, H1, I1, r1, q1⟩ => aU (hb _ s1 σ H1 _ I1 q1) fun u s2 ⟨y, H2, I2, r2, q2⟩ =>
  aU (ho _ s2 σ H2 x y v u _ I2 r1 r2 q2) fun c s3 ⟨z, H3, I3, r3, k, e, q3⟩ => ?_) hm
 subst e
 cases r3
 exact wpAny_truthy_bool ⟨H3, I3, q3⟩
def nU (K : PySem.W.Frag) (x : V) (H : Hp) (k : Bool) : Prop :=
 match x with
 | .non => k = false
 | .bl b => k = b
 | .int i => k = (i != 0)
 | .str y => y.length ≤ sizeLine ∧ k = ((y.length : Int) != 0)
 | .byt y => y.size ≤ sizeLine ∧ k = ((y.size : Int) != 0)
 | .ref p => (∃ xs, cO K H p xs ∧ k = !xs.isEmpty) ∨ ∃ xs, et K H p xs ∧ k = !xs.isEmpty
 | _ => False
theorem i6 (r : al xs its) : (!its.toArray.isEmpty) = !xs.isEmpty := by
 cases r <;> simp
theorem eJ : sizeLine < 2 ^ 63 := by decide
theorem kX : G4 X (fun x H Q => ∃ k, nU X.K x H k ∧ Q k H) := by
 intro pins s σ H x v Q I rx h
 obtain ⟨k, e, q⟩ := h
 have hl := eJ
 have hs : sizeLine = 16777216 := sizeLine_eq
 cases x with
 | non =>
  cases rx
  have e' : k = false := e
  subst e'
  exact truthy_none ⟨H, I, q⟩
 | bl b =>
  cases rx
  have e' : k = b := e
  subst e'
  exact wpAny_truthy_bool ⟨H, I, q⟩
 | int i =>
  obtain ⟨t, rfl⟩ := rx
  have e' : k = (i != 0) := e
  subst e'
  exact PySem.P.truthy_int ⟨H, I, q⟩
 | str y =>
  obtain ⟨t, rfl⟩ := rx
  obtain ⟨hy, e'⟩ : y.length ≤ sizeLine ∧ k = ((y.length : Int) != 0) := e
  subst e'
  exact PySem.P.truthy_str (by omega) ⟨H, I.tok _, q⟩
 | byt y =>
  obtain ⟨t, rfl⟩ := rx
  obtain ⟨hy, e'⟩ : y.size ≤ sizeLine ∧ k = ((y.size : Int) != 0) := e
  subst e'
  exact PySem.W.truthy_bytes (by omega) ⟨H, I.tok _, q⟩
 | ref p =>
  cases rx
  have e' : (∃ xs, cO X.K H p xs ∧ k = !xs.isEmpty) ∨ (∃ xs, et X.K H p xs ∧ k = !xs.isEmpty) := e
  rcases e' with ⟨xs, hx, e'⟩ | ⟨xs, hx, e'⟩
  · subst e'
    obtain ⟨its, r, pl, hz⟩ := I.list hx
    have hlen := r.length
    exact wpAny_truthy_list pl.isList (by simp only [List.size_toArray]; omega) ⟨H, I.tok _, by rw [i6 r]; exact q⟩
  · subst e'
    obtain ⟨its, r, pl, hz⟩ := I.tuple hx
    have hlen := r.length
    exact truthy_tuple pl (by simp only [List.size_toArray]; omega) ⟨H, I.tok _, by rw [i6 r]; exact q⟩
 | _ => exact (show False from e).elim
theorem vz (ha : PE X a ta) (he : ∀ whole, isTrue a X.env whole = do let v ← whole; standAt a.pos; holding [v] (truthy v)) :
 PT X a fun σ H Q => ta σ H fun x H' => ∃ k, nU X.K x H' k ∧ Q k H' := by
 intro pins s σ H Q I h
 exact isTrue_plain (aU (ha _ s σ H _ I h) fun v s1 ⟨x, H1, I1, r1, q1⟩ => kX _ s1 σ H1 x v Q I1 r1 q1) (he _)
theorem mU : cA X (binaryOp .Add) fun x y H Q => ∃ i j, x = .str i ∧ y = .str j ∧ i.length + j.length ≤ sizeLine ∧ Q (.str (i ++ j)) H := by
 intro pins s σ H x y v u Q I rx ry h
 obtain ⟨i, j, rfl, rfl, hz, q⟩ := h
 obtain ⟨t, rfl⟩ := rx
 obtain ⟨t', rfl⟩ := ry
 exact add_str (fun t' tk => ⟨.str _, H, I.tok _, ⟨_, rfl⟩, q⟩) hz
theorem vals1 (r : al [x] us) : ∃ u, us = [u] ∧ RelV x u := by
 cases r with
 | cons r1 r2 => cases r2; exact ⟨_, rfl, r1⟩
theorem vals2 (r : al [x, y] us) : ∃ u w', us = [u, w'] ∧ RelV x u ∧ RelV y w' := by
 cases r with
 | cons r1 r2 =>
  cases r2 with
  | cons r3 r4 => cases r4; exact ⟨_, _, rfl, r1, r3⟩
theorem qN (hc : X.calm = true) : bC X (.builtin "max") fun xs H Q => ∃ i j, xs = [.int i, .int j] ∧ Q (.int (if j > i then j else i)) H := by
 intro pins s σ H xs us Q I r h
 obtain ⟨i, j, rfl, q⟩ := h
 obtain ⟨u, w', rfl, ⟨t, rfl⟩, ⟨t', rfl⟩⟩ := vals2 r
 refine max_two_ints (I.ok.hd hc) fun h' tk k => ⟨_, H, I.kept k, ?_, q⟩
 by_cases hj : j > i
 · rw [if_pos hj, if_pos hj]; exact ⟨_, rfl⟩
 · rw [if_neg hj, if_neg hj]; exact ⟨_, rfl⟩
theorem rJ (hc : X.calm = true) : bC X (.builtin "min") fun xs H Q => ∃ i j, xs = [.int i, .int j] ∧ Q (.int (if j < i then j else i)) H := by
 intro pins s σ H xs us Q I r h
 obtain ⟨i, j, rfl, q⟩ := h
 obtain ⟨u, w', rfl, ⟨t, rfl⟩, ⟨t', rfl⟩⟩ := vals2 r
 refine min_two_ints (I.ok.hd hc) fun h' tk k => ⟨_, H, I.kept k, ?_, q⟩
 by_cases hj : j < i
 · rw [if_pos hj, if_pos hj]; exact ⟨_, rfl⟩
 · rw [if_neg hj, if_neg hj]; exact ⟨_, rfl⟩
theorem qi : bC X (.type "int") fun xs H Q => (∃ i, xs = [.int i] ∧ Q (.int i) H) ∨ ∃ k, xs = [.bl k] ∧ Q (.int (if k then 1 else 0)) H := by
 intro pins s σ H xs us Q I r h
 rcases h with ⟨i, rfl, q⟩ | ⟨k, rfl, q⟩
 · obtain ⟨u, rfl, t, rfl⟩ := vals1 r
   exact call_int_int ⟨.int i, H, I, ⟨_, rfl⟩, q⟩
 · obtain ⟨u, rfl, r1⟩ := vals1 r
   cases r1
   exact call_int_bool ⟨.int _, H, I.tok _, ⟨_, rfl⟩, q⟩
end
structure wx (h : Heap) (x dx C : Addr) (mA : Str → Option Value) : Prop where
 obj : h.get? x = some (PySem.W.instObj C dx)
 ns : h.Ns1 dx mA
 ne : dx ≠ x
theorem qA {h : Heap} {dx} {mA} (n : h.Ns1 dx mA) : ∃ od, h.get? dx = some od ∧ ∀ name, PySem.W.lookIn name od = some (mA name) := by
 obtain ⟨o, es, ep, ho, hd, hk, _, hm⟩ := n
 refine ⟨o, ho, fun name => ?_⟩
 have e := hm name
 unfold nsFind findBy at e
 unfold PySem.W.lookIn
 rw [hd]
 dsimp only
 split
 · simp_all
 · have a : es.toList.any (·.refKey) = false := by
    rw [List.any_eq_false]
    intro y hy
    obtain ⟨z, t, hkey⟩ := hk y (Array.mem_toList_iff.mp hy)
    simp [DictEntry.refKey, hkey]
   grind
theorem wx.look (I : wx h x dx C mA) : ∃ od, PySem.W.InstAt h x (PySem.W.instObj C dx) C (some od) ∧ ∀ name, PySem.W.lookIn name od = some (mA name) :=
 let ⟨od, ho, hl⟩ := qA I.ns
 ⟨od, ⟨I.obj, rfl, rfl, ho⟩, hl⟩
section
variable {prog : Program} {w : World} {A : Around} {E : Value → Shared → Prop} {s : Shared} {K : PySem.W.Frag} {x dx C f : Addr} {mA : Str → Option Value} {name : Str} {v : Value}
theorem ut {Q} (X : K.In s.heap) (I : wx s.heap x dx C mA) (hg : PySem.W.plainGet K C name = true)
 (hf : PySem.W.findIn K (.ref C) name = some (some (.ref f))) (ht : PySem.W.isFn K (.ref f) = true) (hv : mA name = none) (h : Q (.ref f, [.ref x]) s) :
 wpAny (model prog w) A (getMethod (.ref x) name pl) Q E s := by
 obtain ⟨od, J, hl⟩ := I.look
 exact PySem.W.method_fn X J (PySem.W.plainGet_of hg).1 (PySem.W.plainGet_of hg).2 hf (beq_iff_eq.mp ht) (by show (PySem.W.lookIn _ od).map _ = some _; rw [hl, hv]; rfl) h
theorem rF (X : K.In s.heap) (hm : PySem.W.makesIn K C = true)
 (hi : PySem.W.findIn K (.ref C) "__init__" = some (some (.builtin "object.__init__")))
 (hb : ∀ self, PySem.W.Looks (model prog w) s.heap (bindSpecial (.builtin "object.__init__") self) (.builtin "object.__init__", [self]))
 (h : codeAny (model prog w) (A.under (.builtin "type.__call__" ⟨[.ref C], []⟩)) (.call (.builtin "object.__init__") ⟨[.ref (s.heap.objs.size + 1)], []⟩) (PySem.W.InitBack (s.heap.objs.size + 1) R)
  { s with heap := (s.heap.push PySem.W.emptyDict).push (PySem.W.instObj C s.heap.objs.size) }) :
 codeAny (model prog w) A (.call (.ref C) ⟨[], []⟩) R s := PySem.W.make_core (PySem.W.makes_of X hm) (PySem.W.looks_findIn X hi) hb (.inr ⟨rfl, rfl⟩) h
end
theorem rL.none_of (r : rL none o) : o = none := by
 cases o with
 | none => rfl
 | some u => exact r.elim
section
variable {P : Program} {w : World} {H H' : Hp} {h h' : Heap} {a C dx : Addr} {fs fs' : List (Str × V)}
theorem o7 (hok : fI P w H h) (e : H a = some (.ins C dx fs)) : ∃ mA, wx h a dx C mA ∧ (∀ f, rL (fs.lookup f) (mA f)) ∧ PySem.Within mA (fs.map (·.1)) ∧ fs.length ≤ 1000 ∧ H dx = some (.own a) := by
 obtain ⟨d, z, ne, ob, mA, n, r, q⟩ := hok a _ e
 exact ⟨mA, ⟨ob, n, ne⟩, r, q, z, d⟩
end
structure j4 (K : PySem.W.Frag) (C : Addr) : Prop where
 pg : PySem.W.plainGet K C Str.empty = true
 hd : PySem.W.hasDictIn K C = true
 po : PySem.W.plainOver K C = true
 sa : PySem.W.findIn K (.ref C) "__setattr__" = some (some (.builtin "object.__setattr__"))
theorem j4.get {K} {C} (c : j4 K C) (f : Str) : PySem.W.plainGet K C f = true := c.pg
structure xT (K : PySem.W.Frag) (C : Addr) (m : Str) (f : Addr) : Prop where
 at_ : PySem.W.findIn K (.ref C) m = some (some (.ref f))
 fn : PySem.W.isFn K (.ref f) = true
 kp : PySem.W.keepIn K (.ref f) = true
section
variable {X : Cx} {pins : List (Addr × Obj)} {σ : St} {H : Hp} {s : Shared} {a C dx : Addr} {fs : List (Str × V)} {f : Str} {v : V} {A : Around} {E : Value → Shared → Prop}
theorem gW {Q} (I : Inv X pins σ H s) (e : H a = some (.ins C dx fs)) (c : j4 X.K C) (k : xT X.K C m g) (l : fs.lookup m = none)
 (h : Q (.ref g, [.ref a]) s) : wpAny (model X.prog X.w) A (getMethod (.ref a) m pl) Q E s := by
 obtain ⟨mA, O, r, _, _, _⟩ := o7 I.hok e
 have hn := rL.none_of (by rw [← l]; exact r m)
 exact ut I.kIn O (c.get m) k.at_ k.fn hn h
theorem Inv.made (I : Inv X pins σ H s) : Inv X pins σ (bq (bq H s.heap.objs.size (.own (s.heap.objs.size + 1))) (s.heap.objs.size + 1) (.ins C s.heap.objs.size []))
 { s with heap := (s.heap.push PySem.W.emptyDict).push (PySem.W.instObj C s.heap.objs.size) } := by
 have e1 : (s.heap.push PySem.W.emptyDict).get? _ = some _ := Heap.get?_push_size _ rfl
 have e2 : ((s.heap.push PySem.W.emptyDict).push (PySem.W.instObj C s.heap.objs.size)).get? (s.heap.objs.size + 1) = some (PySem.W.instObj C s.heap.objs.size) := by
  have := Heap.get?_push_size (s.heap.push PySem.W.emptyDict) (o := PySem.W.instObj C s.heap.objs.size) rfl
  simp_all
 have e3 : (s.heap.push _).Ns _ _ := ⟨_, #[], _, e1, rfl, fun e he => absurd he (by simp), fun _ => rfl⟩
 have I1 := I.laid (o := .own (s.heap.objs.size + 1)) (t' := s.toks) (fun b u q => Heap.get?_push_of_some _ q) (Nat.le_refl _) ⟨_, e1⟩
 refine I1.laid (fun b u q => Heap.get?_push_of_some _ q) (Nat.le_of_eq (Heap.size_push _ _)) ?_
 have ne : s.heap.objs.size ≠ s.heap.objs.size + 1 := Nat.ne_of_lt (Nat.lt_succ_self _)
 refine ⟨by rw [az ne, bD], Nat.zero_le _, ne, e2, _, (Heap.Ns1.of_empty e3).at fun o q => Heap.get?_push_of_some _ q, fun _ => True.intro, fun y hy => absurd rfl hy⟩
end
section
variable {X : Cx} {o e value : Expr} {f : Str} {pos pos' tpos : Pos} {ta tv : TE}
def AS : V → V → Hp → VK → Prop := fun x y H Q => ∃ i j, x = .int i ∧ y = .int j ∧ Q (.int (i + j)) H
end
section
variable {X : Cx} {pins : List (Addr × Obj)} {σ : St} {H : Hp} {s : Shared} {A : Around} {E : Value → Shared → Prop} {Q : Value → Shared → Prop} {c : Value} {b : Bool}
inductive jd (K : PySem.W.Frag) (H : Hp) : V → Value → Prop where
 | non : jd K H .non (.type "NoneType")
 | bl (x : Bool) : jd K H (.bl x) (.type "bool")
 | int (i : Int) : jd K H (.int i) (.type "int")
 | str (x : Str) : jd K H (.str x) (.type "str")
 | flt (x : UInt64) : jd K H (.flt x) (.type "float")
 | lst {a : Addr} {xs : List V} (e : H a = some (.lst xs)) : jd K H (.ref a) (.type "list")
 | frz {a : Addr} {o : Obj} {xs : List V} (e : H a = some (.frz o (.lst xs))) : jd K H (.ref a) (.type "list")
 | tup {a : Addr} {xs : List V} (e : H a = some (.tup xs)) : jd K H (.ref a) (.type "tuple")
 | ins {a C dx : Addr} {fs : List (Str × V)} (e : H a = some (.ins C dx fs)) (cl : j4 K C) (ha : PySem.W.findIn K (.ref C) "__class__" = some (some (.builtin "object.__class__")))
  (hn : PySem.W.specialIn K (.builtin "object.__class__") "__get__" = some (some (.builtin "getset_descriptor.__get__"))) (htk : PySem.W.takesIn K (.builtin "object.__class__") = some true)
  (hm : PySem.W.mroIn K C (.type "object") = some true) : jd K H (.ref a) (.ref C)
theorem cT {x : V} {u t : Value} (I : Inv X pins σ H s) (rx : RelV x u) (ty : jd X.K H x t) (e : PySem.W.kitOne X.K t c = some b) (h : ∀ tk, Q (.bool b) { s with toks := tk }) :
 wpAny (model X.prog X.w) A (call (.builtin "isinstance") [u, c]) Q E s := by
 cases ty with
 | non => cases (show u = Value.none from rx); exact PySem.W.kia_one PySem.W.kitx_none I.kIn True.intro e nofun h
 | bl y => cases (show u = Value.bool y from rx); exact PySem.W.kia_one PySem.W.kitx_bool I.kIn True.intro e nofun h
 | int i => obtain ⟨t, q⟩ := (show ∃ t, u = Value.int i t from rx); cases q; exact PySem.W.kia_one PySem.W.kitx_int I.kIn True.intro e nofun h
 | str y => obtain ⟨t, q⟩ := (show ∃ t, u = Value.str y t from rx); cases q; exact PySem.W.kia_one PySem.W.kitx_str I.kIn True.intro e nofun h
 | flt y => obtain ⟨t, q⟩ := (show ∃ t, u = Value.float y t from rx); cases q; exact PySem.W.kia_one PySem.W.kitx_float I.kIn True.intro e nofun h
 | @lst a xs ea =>
  cases (show u = Value.ref a from rx)
  obtain ⟨_, _, n, _, h1⟩ := (show bv X.prog X.w H s.heap a (.lst xs) from I.hok a _ ea)
  exact PySem.W.kia_one PySem.W.kitx_list I.kIn ⟨_, h1, rfl⟩ e nofun h
 | @frz a ob xs ea =>
  cases (show u = Value.ref a from rx)
  obtain ⟨_, _, _, n, _, h1⟩ := (show bv X.prog X.w H s.heap a (.frz ob (.lst xs)) from I.hok a _ ea)
  exact PySem.W.kia_one PySem.W.kitx_list I.kIn ⟨_, h1, rfl⟩ e nofun h
 | @tup a xs ea =>
  cases (show u = Value.ref a from rx)
  obtain ⟨_, _, _, p⟩ := (show bv X.prog X.w H s.heap a (.tup xs) from I.hok a _ ea)
  obtain ⟨o, h1, h2, _⟩ := p
  exact PySem.W.kia_one PySem.W.kitx_tuple I.kIn ⟨o, h1, h2⟩ e nofun h
 | @ins a C dx fs ea cl ha hn htk hm =>
  cases (show u = Value.ref a from rx)
  obtain ⟨mA, O, _⟩ := o7 I.hok ea
  obtain ⟨od, J, _⟩ := O.look
  exact PySem.W.kia_one (PySem.W.kitx_own (cl.get _) cl.hd ha hn htk hm) I.kIn J e nofun h
end
structure bh (k : Nat) (A : Around) : Prop where
 hd : A.handled = none
 dp : A.depth + 3 * k + 5 < recursionLimit
 un : A.units + 16 * k + 200 < cLine
theorem bh.mono {j k} {A} (r : bh k A) (h : j ≤ k) : bh j A := ⟨r.hd, by have := r.dp; omega, by have := r.un; omega⟩
theorem bh.deeper (r : bh (k + 1) A) (env : Env) : bh k (A.deeper env) :=
 ⟨r.hd, by have := r.dp; show A.depth + 1 + 3 * k + 5 < _; omega, by have := r.un; show A.units + 3 + 16 * k + 200 < _; omega⟩
theorem bh.depth (r : bh k A) : A.depth < recursionLimit := by have := r.dp; omega
theorem bh.units (r : bh k A) : A.units + 64 < cLine := by have := r.un; omega
def CJ : TA := fun _ H Q => Q [] H
def FA (ta : TE) (tr : TA) : TA := fun σ H Q => ta σ H fun x H1 => tr σ H1 fun xs H2 => Q (x :: xs) H2
section
variable {X : Cx} {e : Expr} {es : List Expr} {te : TE} {t : TA} {pos : Pos}
theorem kx : PA X [] CJ := fun _ _ _ _ H Q I h => Calls.spliced_nil ⟨[], H, I, .nil, h⟩
theorem dZ (ha : PE X e te) (hr : PA X es t) (hs : starEach (e :: es) X.env = (false, eval e X.env) :: starEach es X.env := by rfl) : PA X (e :: es) (FA te t) := by
 intro pos pins s σ H Q I h
 rw [hs]
 refine Calls.spliced_cons (aU (ha _ s σ H _ I h) fun u s1 ⟨x, H1, I1, r1, q1⟩ => ?_)
 exact aU (hr _ _ s1 σ H1 _ I1 q1) fun us s2 ⟨xs, H2, I2, r2, q2⟩ => ⟨_, H2, I2, .cons r1 r2, q2⟩
def Hx (t : TA) : TE := fun σ H Q => t σ H fun xs H1 => xs.length ≤ sizeLine ∧ ∀ p, H1 p = none → Q (.ref p) (bq H1 p (.tup xs))
def Ha (t : TA) : TE := fun σ H Q => t σ H fun xs H1 => xs.length ≤ sizeLine ∧ ∀ p, H1 p = none → Q (.ref p) (bq H1 p (.lst xs))
theorem At (h : PA X es t) : PE X (.Tuple es x1 pos) (Hx t) := by
 intro pins s σ H Q I hq
 refine wpAny_Tuple_spliced (aU (h _ _ s σ H _ I hq) fun us s1 ⟨xs, H1, I1, r, z, q⟩ => ⟨by rw [← r.length]; exact z, ?_⟩)
 have hf := I1.hok.fresh (Nat.le_refl _)
 refine ⟨.ref _, _, I1.laid (fun b u e => Heap.get?_push_of_some _ e) (Nat.le_refl _) ?_, rfl, q _ hf⟩
 exact ⟨z, us, r, ⟨_, Heap.get?_push_size _ rfl, rfl, _, rfl⟩⟩
theorem BS (h : PA X es t) : PE X (.List es pos) (Ha t) := by
 intro pins s σ H Q I hq
 refine wpAny_List_spliced (aU (h _ _ s σ H _ I hq) fun us s1 ⟨xs, H1, I1, r, z, q⟩ => ⟨by rw [← r.length]; exact z, ?_⟩)
 have hf := I1.hok.fresh (Nat.le_refl _)
 refine ⟨.ref _, _, I1.laid (fun b u e => Heap.get?_push_of_some _ e) (Nat.le_refl _) ?_, rfl, q _ hf⟩
 exact ⟨z, us, 0, r, Heap.get?_push_size _ rfl⟩
end
abbrev Sp := List V → Hp → VK → XK → Prop
abbrev zR := List Env → Hp → Shared → XK → Value → Shared → Prop
structure wL (P : Program) (w : World) (K : PySem.W.Frag) (mg : Str → Option Value) (base : Heap) (A : Around) (outer : List Env) (s : Shared) (H : Hp) : Prop where
 frames : A.frames = some outer
 mod : Mod K mg base
 bs : ∀ b o, base.get? b = some o → s.heap.get? b = some o ∧ H b = none
 bsz : base.objs.size ≤ s.heap.objs.size
 funs : s.heap.FunFrames base outer
 frf : ∀ b ∈ oC outer, H b = none
 hok : fI P w H s.heap
 bare : AllBare s.gens
def CE (outer : List Env) (P : Program) (w : World) (H : Hp) (s : Shared) (Q : VK) (u : Value) (s' : Shared) : Prop :=
 ∃ v H', Jd s s' ∧ AllBare s'.gens ∧ Un (oC outer) [] H H' s.heap s'.heap ∧ fI P w H' s'.heap ∧ RelV v u ∧ Q v H'
def CR (CX : zR) (outer : List Env) (P : Program) (w : World) (H : Hp) (s : Shared) (Q : VK) (E : XK) (r : Result) (s' : Shared) : Prop :=
 match r with
 | .ok (.ret u) => CE outer P w H s Q u s'
 | .ok _ => False
 | .error e => CX outer H s E e s'
structure fG (P : Program) (w : World) (K : PySem.W.Frag) (mg : Str → Option Value) (base : Heap) (CX : zR) (k : Nat) (f : Addr) (fd : FuncData) (ps : List Str) (sp : Sp) : Prop where
 len : ∀ vs H Q E, sp vs H Q E → vs.length = ps.length
 run : ∀ (A : Around) (outer : List Env) (s : Shared) (H : Hp) (args : Args) (us : List Value) (vs : List V) (Q : VK) (E : XK), bh k A → wL P w K mg base A outer s H → BindsTo s fd args (ps.zip us) → al vs us → sp vs H Q E →
  codeAny (model P w) A (.call (.ref f) args) (CR CX outer P w H s Q E) s
section
variable {X : Cx} {pins : List (Addr × Obj)} {σ : St} {H : Hp} {s s' : Shared}
theorem Inv.env0 (I : Inv X pins σ H s) : wL X.prog X.w X.K X.mg X.base X.A X.stack s H :=
 ⟨I.ok.frames, I.ok.mod, I.bs, Nat.le_trans I.ok.bsz I.sz, I.stack, I.stkFree, I.hok, I.bare⟩
theorem Inv.after (I : Inv X pins σ H s) (h : CE X.stack X.prog X.w H s Q u s') : EP X pins σ Q u s' := by
 obtain ⟨v, H', os, bare, un, hok, r, q⟩ := h
 obtain ⟨hh, g, d, t, os'⟩ := s'
 obtain rfl : os' = s.os := os.1
 exact ⟨v, H', I.call un hok bare os.2 fun b z => absurd z (by simp), r, q⟩
end
def pq (sp : Sp) (dvs : List V) (E : XK) (t : TA) : TE := fun σ H Q => t σ H fun vs H1 => sp (vs ++ dvs) H1 Q E
def Binds (K : PySem.W.Frag) (fd : FuncData) (ps : List Str) (ds : List Value) : Prop :=
 ∀ (s : Shared) (us : List Value), K.In s.heap → (us ++ ds).length = ps.length → BindsTo s fd ⟨us, []⟩ (ps.zip (us ++ ds))
theorem Binds.all {K} {fd} {ps} (h : ∀ us, us.length = ps.length → bindArgs fd ⟨us, []⟩ = pure (ps.zip us)) : Binds K fd ps [] := fun s us _ hl => by
 rw [List.append_nil] at hl ⊢
 exact .of_eq (h us hl)
def ku (CX : zR) (X : Cx) (E : XK) : Prop := ∀ (pins : List (Addr × Obj)) (σ : St) (H : Hp) (s : Shared) (e : Value) (s' : Shared), Inv X pins σ H s → CX X.stack H s E e s' → X.xe e s'
section
variable {X : Cx} {CX : zR} {k : Nat} {f C : Addr} {fd : FuncData} {ps : List Str} {sp : Sp} {dvs : List V} {ds : List Value} {E : XK} {x m : Str} {p pos apos : Pos} {e o : Expr} {es : List Expr} {ta : TE} {t : TA}
theorem kZ {σ : St} {H} {s} {Q} {us} {vs} (F : fG X.prog X.w X.K X.mg X.base CX k f fd ps sp) (hr : bh k X.A) (hb : Binds X.K fd ps ds) (hd : al dvs ds) (hx : ku CX X E)
 (I : Inv X pins σ H s) (r : al vs us) (h : sp (vs ++ dvs) H Q E) : wpAny (model X.prog X.w) X.A (call (.ref f) us) (EP X pins σ Q) X.xe s := by
 have r2 := r.append hd
 have hl : (us ++ ds).length = ps.length := by rw [← r2.length]; exact F.len _ _ _ _ h
 refine wpAny_call (codeAny_mono (F.run _ _ s H _ _ _ Q E hr I.env0 (hb s us I.kIn hl) r2 h) fun r s' hq => ?_)
 cases r with
 | error e => exact hx _ σ H s e s' I hq
 | ok fl =>
  cases fl with
  | ret u => exact I.after hq
  | next => exact False.elim hq
  | brk => exact False.elim hq
  | cont => exact False.elim hq
theorem wF (F : fG X.prog X.w X.K X.mg X.base CX k f fd ps sp) (hr : bh k X.A) (hg : Gl X x) (hm : X.mg x = some (.ref f)) (hk : PySem.W.keepIn X.K (.ref f) = true) (hb : Binds X.K fd ps ds) (hd : al dvs ds) (hx : ku CX X E)
 (ha : PA X (e :: es) t) (hdb : (x == ("__debug__")) = false := by decide) (he : starEach (e :: es) X.env = (false, eval e X.env) :: starEach es X.env := by rfl) (hpl : (backTo pos (starEach es X.env)).any (·.1) = false := by rfl) :
 PE X (.Call (.Name x p) (e :: es) [] pos) (pq sp dvs E t) := by
 intro pins s σ H Q I h
 refine wpAny_Call_Name_kw (gJ I hg hm ?_ hdb)
 refine PySem.W.callWith_K I.ok.mod.kin hk (aU (ha _ _ s σ H _ I h) fun us s1 ⟨vs, H1, I1, r, q⟩ => ⟨I1.kIn, ?_⟩) he hpl
 exact kZ F hr hb hd hx I1 r q
theorem sO (F : fG X.prog X.w X.K X.mg X.base CX k f fd ps sp) (hr : bh k X.A) (hg : Gl X x) (hm : X.mg x = some (.ref f)) (hk : PySem.W.keepIn X.K (.ref f) = true) (hb : Binds X.K fd ps ds) (hd : al dvs ds) (hx : ku CX X E)
 (hdb : (x == "__debug__") = false := by decide) : PE X (.Call (.Name x p) [] [] pos) (pq sp dvs E CJ) := by
 intro pins s σ H Q I h
 refine wpAny_Call_Name_kw (gJ I hg hm ?_ hdb)
 exact PySem.W.callWith_K0 I.kIn hk (kZ F hr hb hd hx I .nil h)
end
structure cf (N P : List Str) (sc : Scope) : Prop where
 kind : sc.kind = .function
 co : sc.isCoroutine = false
 gen : sc.isGenerator = false
 nd : N.Nodup
 pre : N.take P.length = P
 par : ∀ x ∈ P, sc.names.lookup x = some .local ∨ sc.names.lookup x = some .cell
 nofree : ∀ y ∈ sc.names, y.2 ≠ .free
theorem jz {kindOf} {x} : ∀ {binds} {m}, (∀ v, (x, v) ∉ binds) → bindL kindOf binds m x = m x
 | [], _, _ => rfl
 | (n, v) :: r, m, h => by
  unfold bindL
  rw [jz fun w hw => h w (List.mem_cons_of_mem _ hw)]
  split
  · have : x ≠ n := by rintro rfl; exact h v List.mem_cons_self
    simp [this]
  · rfl
theorem jQ {kindOf} {x} : ∀ {binds} {m}, (∀ v, (x, v) ∉ binds) → bindC kindOf binds m x = m x
 | [], _, _ => rfl
 | (n, v) :: r, m, h => by
  unfold bindC
  rw [jQ fun w hw => h w (List.mem_cons_of_mem _ hw)]
  split
  · rfl
  · have : x ≠ n := by rintro rfl; exact h v List.mem_cons_self
    simp [this]
theorem jy {kindOf} {x} {v} : ∀ {P : List _} {vs} {i : Nat} {m}, P.Nodup → P[i]? = some x → vs[i]? = some v → kindOf x = some .local →
 bindL kindOf (P.zip vs) m x = some v
 | [], _, _, _, _, h, _, _ => by simp at h
 | _ :: _, [], _, _, _, _, h, _ => by simp at h
 | p :: P, w :: vs, 0, m, nd, h1, h2, hk => by
  simp at h1 h2; subst h1; subst h2
  show bindL _ ((p, w) :: P.zip vs) m p = _
  unfold bindL
  rw [jz fun v hv => (List.nodup_cons.mp nd).1 (List.of_mem_zip hv).1, if_pos hk]
  simp
 | p :: P, w :: vs, i + 1, m, nd, h1, h2, hk => by
  show bindL _ ((p, w) :: P.zip vs) m x = _
  exact jy (List.nodup_cons.mp nd).2 (by simpa using h1) (by simpa using h2) hk
theorem jp {kindOf} {x} {v} : ∀ {P : List _} {vs} {i : Nat} {m}, P.Nodup → P[i]? = some x → vs[i]? = some v → kindOf x ≠ some .local →
 bindC kindOf (P.zip vs) m x = some v
 | [], _, _, _, _, h, _, _ => by simp at h
 | _ :: _, [], _, _, _, _, h, _ => by simp at h
 | p :: P, w :: vs, 0, m, nd, h1, h2, hk => by
  simp at h1 h2; subst h1; subst h2
  show bindC _ ((p, w) :: P.zip vs) m p = _
  unfold bindC
  rw [jQ fun v hv => (List.nodup_cons.mp nd).1 (List.of_mem_zip hv).1, if_neg hk]
  simp
 | p :: P, w :: vs, i + 1, m, nd, h1, h2, hk => by
  show bindC _ ((p, w) :: P.zip vs) m x = _
  exact jp (List.nodup_cons.mp nd).2 (by simpa using h1) (by simpa using h2) hk
def start (N : List Str) (vs : List V) : St := vs.map some ++ List.replicate (N.length - vs.length) none
def iW (CX : zR) (P : Program) (w : World) (K : PySem.W.Frag) (mg : Str → Option Value) (base : Heap) (N : List Str) (qual : Str) (scope : Scope) (f : Addr) (cd : Value) (A : Around) (outer : List Env) (s : Shared) (H : Hp) (E : XK) : Cx where
 prog := P
 w := w
 K := K
 mg := mg
 base := base
 A := A.deeper (envOfC qual scope s.heap.objs.size f cd)
 N := N
 s₀ := s
 H₀ := H
 env := envOfC qual scope s.heap.objs.size f cd
 outer := outer
 stack := envOfC qual scope s.heap.objs.size f cd :: outer
 ex := []
 calm := true
 fn := fun _ => true
 pn := []
 xe := fun e s' => wpAny (model P w) (A.deeper (envOfC qual scope s.heap.objs.size f cd)) (leaving (envOfC qual scope s.heap.objs.size f cd) e) (fun _ s'' => CX outer H s E e s'') (fun e' s'' => CX outer H s E e' s'') s'
theorem mz {sc : Scope} {n} {x} (h : sc.names.lookup x = some .cell) : ∃ c, (cellsFrom n sc.names []).lookup x = some c := by
 have q := PySem.W.cellsFrom_some _ n [] (.inl h)
 exact Option.isSome_iff_exists.mp q
theorem qx {CX : zR} {P : Program} {w : World} {K : PySem.W.Frag} {mg : Str → Option Value} {base : Heap} {N ps : List Str} {qual : Str} {scope : Scope} {f : Addr} {cd : Value} {A : Around} {outer : List Env} {s s1 : Shared} {H : Hp} {E : XK} {us : List Value} {vs : List V}
 (S : cf N ps scope) (hd : A.handled = none) (e0 : wL P w K mg base A outer s H) (hl : vs.length = ps.length) (r : al vs us)
 (x : InCallC s s.heap.objs.size (bindL (envOfC qual scope s.heap.objs.size f cd).kindOf (ps.zip us) fun _ => none) (cellsFrom (s.heap.objs.size + 1) scope.names []) (bindC (envOfC qual scope s.heap.objs.size f cd).kindOf (ps.zip us) fun _ => none) s1) :
 Inv (iW CX P w K mg base N qual scope f cd A outer s H E) [] (start N vs) H s1 := by
 have hpl : ps.length ≤ N.length := by have := congrArg List.length S.pre; rw [List.length_take] at this; omega
 obtain ⟨h1, tk, rfl, hk⟩ := x.done
 have noA : ∀ b : Addr, b ∉ (iW CX P w K mg base N qual scope f cd A outer s H E).ex := fun b z => absurd (show b ∈ ([] : List Addr) from z) (by simp)
 refine ⟨⟨e0.mod, S.kind, rfl, rfl, Nat.le_refl _, fun y z c h1 h2 => ?_, fun y hy => ?_, fun y c _ h => ?_, fun _ => hd, Around.frames_deeper e0.frames, .inr ⟨rfl, rfl⟩, fun b z => absurd z (noA b), e0.bs, e0.bsz, fun b _ _ => noA b, fun b z => absurd z (noA b), e0.funs, e0.frf⟩,
  ⟨rfl, Nat.le_refl _⟩, e0.bare, Un.kept hk, ⟨_, x.toInCall.ns, fun i y v h1 h2 h3 => ?_⟩, fun y c h => ⟨_, x.cell y c h⟩, e0.hok.fresh (Nat.le_refl _), fun y c h => ?_, fun p hp => absurd (show p ∈ ([] : List (Addr × Obj)) from hp) (by simp), e0.hok.kept hk, ?_⟩
 · exact name_of_addr x.apart (PySem.mem_of_lookup h1) (PySem.mem_of_lookup h2)
 · rcases hy with hy | hy
   · exact mz hy
   · exact absurd rfl (S.nofree _ (PySem.mem_of_lookup hy))
 · exact Nat.le_of_lt (x.above y c (PySem.mem_of_lookup h))
 · have hi : i < vs.length := by
    unfold start at h2
    by_cases hi : i < vs.length
    · exact hi
    · rw [List.getElem?_append_right (by simpa using hi)] at h2
      rw [List.getElem?_replicate] at h2
      grind
   have ha : vs[i]? = some v := by
    unfold start at h2
    rw [List.getElem?_append_left (by simpa using hi), List.getElem?_map] at h2
    grind
   obtain ⟨u, hu, rv⟩ := r.get ha
   have hp : ps[i]? = some y := by
    rw [← S.pre, List.getElem?_take_of_lt (by omega)]; exact h1
   have ndP : ps.Nodup := by rw [← S.pre]; exact S.nd.sublist (List.take_sublist _ _)
   refine ⟨u, rv, ?_⟩
   rcases S.par y (List.mem_of_getElem? hp) with k | k
   · exact .inl ⟨k, jy ndP hp hu k⟩
   · obtain ⟨c, e⟩ := mz k
     refine .inr ⟨.inl k, c, e, ?_⟩
     have q := x.cell y c e
     rw [jp ndP hp hu (by show scope.names.lookup y ≠ _; rw [k]; decide)] at q
     exact q
 · exact e0.hok.fresh (Nat.le_of_lt (x.above y c (PySem.mem_of_lookup h)))
 · unfold start
   show _ = N.length
   grind
theorem zb {CX : zR} {P : Program} {w : World} {K : PySem.W.Frag} {mg : Str → Option Value} {base : Heap} {k : Nat} {f : Addr} {name qual : Str} {params : Arguments} {body : List Stmt} {scope : Scope} {dV kV doc pm cdv ct oc : Value} {an od : Option Addr}
 {osl : Array (Option Value)} {N ps : List Str} {sp : Sp} (lk : K.lookup f = some ⟨oc, od, .func (PySem.W.fnOf name qual params body scope dV kV doc pm an cdv ct), osl⟩) (hcd : PySem.W.codeIn K cdv qual = true) (S : cf N ps scope)
 (len : ∀ vs H Q E, sp vs H Q E → vs.length = ps.length)
 (hbody : ∀ (A : Around) (outer : List _) (s : Shared) (H : Hp) (vs : List V) (Q : VK) (E : XK), bh k (A.deeper (envOfC qual scope s.heap.objs.size f cdv)) → sp vs H Q E →
  ∃ t, fK (iW CX P w K mg base N qual scope f cdv A outer s H E) body t ∧ t { nx := fun _ H' => Q .non H', rt := Q } (start N vs) H) :
 fG P w K mg base CX (k + 1) f (PySem.W.fnOf name qual params body scope dV kV doc pm an cdv ct) ps sp := by
 refine ⟨len, fun A outer s H args us vs Q E hr e0 hb r hsp => ?_⟩
 have hl := len _ _ _ _ hsp
 have KX := e0.mod.kin.keeps fun b o e => (e0.bs b o e).1
 have lim := e0.mod.nolimit.keeps fun b o e => (e0.bs b o e).1
 have hkind : ∀ y ∈ ps.zip us, scope.names.lookup y.1 = some _ ∨ (scope.names.lookup y.1 = some _ ∧ ((cellsFrom (s.heap.objs.size + 1) _ []).lookup y.1).isSome = true) := fun ⟨n, v⟩ hy => by
  rcases S.par n (List.of_mem_zip hy).1 with q | q
  · exact .inl q
  · exact .inr ⟨q, PySem.W.cellsFrom_some _ _ _ (.inl q)⟩
 refine codeAny_call_function hr.depth (KX _ _ lk) rfl S.co S.gen rfl (PySem.W.codeRec_of KX hcd) (hb _ _ _ _ ?_)
 refine wpAny_newFunctionEnv_cells S.kind hkind fun env he s1 x => ?_
 subst he
 refine ⟨lim.keeps x.toInCall.keep, codeAny_func ?_⟩
 obtain ⟨t, ht, hq⟩ := hbody A _ s H vs Q E (hr.deeper _) hsp
 have I : Inv (iW CX P w K mg _ N qual _ f cdv A _ s H E) [] _ H s1 := qx S hr.hd e0 hl r x
 refine wpAny_mono (ht [] s1 _ H _ I hq) (fun fl s' hs => ?_) fun e s' hs => hs
 have da : ∀ {σ'} {H'} {v} {u}, Inv (iW CX P w K mg base N qual scope f cdv A outer s H E) [] σ' H' s' → RelV v u → Q v H' → CE _ P w H s Q u s' :=
  fun {σ' H' v u} J rv q => ⟨v, H', J.os, J.bare, J.base, J.hok, rv, q⟩
 cases fl with
 | ret u =>
  obtain ⟨v, σ', H', J, rv, q⟩ := hs
  exact da J rv q
 | next =>
  obtain ⟨σ', H', J, q⟩ := hs
  exact da (v := V.non) J rfl q
 | brk =>
  obtain ⟨_, _, _, q⟩ := hs
  exact False.elim q
 | cont =>
  obtain ⟨_, _, _, q⟩ := hs
  exact False.elim q
section
variable {X : Cx} {x : Str} {p pos : Pos} {e : Expr} {es : List Expr} {t : TA} {id T : String} {r : List V → Hp → VK → Prop}
def IP (r : List V → Hp → VK → Prop) (t : TA) : TE := fun σ H Q => t σ H fun vs H1 => r vs H1 Q
theorem dS (hc : bC X (.builtin id) r) (hg : Gl X x) (hm : X.mg x = none) (hv : bootBuiltins x = some (.builtin id)) (ha : PA X (e :: es) t) (hn : x ≠ "__name__" := by decide) (hdb : (x == ("__debug__")) = false := by decide)
 (he : starEach (e :: es) X.env = (false, eval e X.env) :: starEach es X.env := by rfl) (hpl : (backTo pos (starEach es X.env)).any (·.1) = false := by rfl) : PE X (.Call (.Name x p) (e :: es) [] pos) (IP r t) := by
 intro pins s σ H Q I h
 refine wpAny_Call_Name_kw (bX I hg hm hv ?_ hn hdb)
 exact PyProof.Rows.callWith_builtin1 (aU (ha _ _ s σ H _ I h) fun us s1 ⟨vs, H1, I1, r1, q1⟩ => hc _ s1 σ H1 vs us Q I1 r1 q1) he hpl
theorem jx (hc : bC X (.type T) r) (hg : Gl X x) (hm : X.mg x = none) (hv : bootBuiltins x = some (.type T)) (ha : PA X (e :: es) t) (hn : x ≠ "__name__" := by decide) (hdb : (x == ("__debug__")) = false := by decide)
 (he : starEach (e :: es) X.env = (false, eval e X.env) :: starEach es X.env := by rfl) (hpl : (backTo pos (starEach es X.env)).any (·.1) = false := by rfl) : PE X (.Call (.Name x p) (e :: es) [] pos) (IP r t) := by
 intro pins s σ H Q I h
 refine wpAny_Call_Name_kw (bX I hg hm hv ?_ hn hdb)
 exact PyProof.Rows.callWith_type1 (aU (ha _ _ s σ H _ I h) fun us s1 ⟨vs, H1, I1, r1, q1⟩ => hc _ s1 σ H1 vs us Q I1 r1 q1) he hpl
end
end L2
namespace HT
open PySem PyProof.Rows
section
variable {prog : Program} {w : World} {A : Around} {E : Value → Shared → Prop} {s : Shared}
theorem wp {Q} (ht : IsTup s.heap t vs.toArray) (hb : IsTup s.heap b ws.toArray) (hv : vs ≠ [])
 (h1 : ws = [] → Q (.ref t) s) (h2 : ws ≠ [] → Q (.ref s.heap.objs.size) { s with heap := s.heap.push { cls := .type "tuple", data := .seq (vs ++ ws).toArray } })
 (hsz : vs.length + ws.length ≤ sizeLine) : wpAny (model prog w) A (binaryOp .Add (.ref t) (.ref b)) Q E s := by
 obtain ⟨⟨cls, dd, data, sl⟩, ho, hc, n, hd⟩ := id ht
 obtain ⟨⟨cls2, dd2, data2, sl2⟩, ho2, hc2, n2, hd2⟩ := id hb
 subst hc hd hc2 hd2
 have e : vs.toArray ++ ws.toArray = (vs ++ ws).toArray := by simp
 by_cases hw : ws = []
 · exact concat_meets ⟨_, ho, rfl⟩ ⟨_, ho2, rfl⟩ noFill_tuple_add seq_tuple_add PySem.F.slot_tuple_add PySem.F.entry_tuple_add (PySem.F.args_tuple_add_2 _ _)
    (tuple_addW1 t b _ _ n n2 dd _ sl _ (by simpa using hv) (by simp [hw])) ⟨ho, ho2, h1 hw⟩
 · refine concat_meets ⟨_, ho, rfl⟩ ⟨_, ho2, rfl⟩ noFill_tuple_add seq_tuple_add PySem.F.slot_tuple_add PySem.F.entry_tuple_add (PySem.F.args_tuple_add_2 _ _)
    (tuple_addW2 t b _ _ n n2 dd _ sl _ (by simpa using hv) (by simpa using hw) (by omega)) ⟨ho, ho2, ?_⟩
   rw [e]
   exact h2 hw
def cE (n d : Nat) : Option Int → Nat
 | none => d
 | some v => if v < 0 then (v + (n : Int)).toNat else min v.toNat n
theorem eU (n d : Nat) : cE n d none = d := rfl
theorem ff (n d k : Nat) : cE n d (some k) = min k n := rfl
theorem oX (v : Int) (n d : Nat) : (if v < 0 then max (v + n) 0 else min v n) = cE n d (some v) := by
 show (if v < 0 then max _ 0 else min v n) = (if v < 0 then (v + n).toNat else min _ n)
 grind
theorem nM (lo hi : Option _) (n : Nat) : Builtin.Slice.sliceAdjust lo hi 1 n = ((cE n 0 lo : Int), (cE n n hi : Int)) := by
 refine Prod.ext ?_ ?_
 · cases lo with
   | none => rfl
   | some v => exact oX v n 0
 · cases hi with
   | none => rfl
   | some v => exact oX v n n
theorem nS (i j : Nat) : Builtin.Slice.slicePlaces i j 1 = j - i := by
 unfold Builtin.Slice.slicePlaces
 grind
theorem ja (p : IsPart v o) (h : Q o s) : wpAny (model prog w) A (Builtin.Slice.slicePartIndex v) Q E s := by
 cases p with
 | none => exact slicePart_none h
 | int i t => exact slicePart_int h
theorem fN {lo hi} {n : Nat} {Q} (hs : s.heap.IsSliceOf sl vl vu .none) (pl : IsPart vl lo) (pu : IsPart vu hi)
 (h : Q (cE n 0 lo, 1, cE n n hi - cE n 0 lo) s) : wpAny (model prog w) A (Builtin.Slice.sliceApplied (.ref sl) (pure n)) Q E s := by
 obtain ⟨os, hos, hcs, hds⟩ := id hs
 refine wpAny_bind (wpAny_bind (wpAny_field hos hds (x := vl) rfl (wpAny_bind (wpAny_field hos hds (x := vu) rfl (wpAny_bind (wpAny_field hos hds rfl (wpAny_pure ?_)))))))
 refine wpAny_bind (slicePart_none ?_)
 refine wpAny_bind (ja pl (wpAny_bind (ja pu (wpAny_bind (wpAny_pure ?_)))))
 show wpAny _ _ (match Builtin.Slice.sliceAdjust lo hi 1 n with | (lo, hi) => pure (lo, (1 : Int), Builtin.Slice.slicePlaces lo hi 1)) _ _ s
 rw [nM lo hi n]
 show wpAny _ _ (pure _) _ _ s
 rw [nS]
 exact wpAny_pure h
theorem sD (xs : Array Value) (i k : Nat) : ((List.range k).filterMap fun (m : Nat) => xs[((i : Int) + m * 1).toNat]?).toArray = ((xs.toList.drop i).take k).toArray := by
 have e : (fun (m : Nat) => xs[((i : Int) + m * 1).toNat]?) = fun m => xs[i + m]? := by
  funext m
  have : ((i : Int) + m * 1).toNat = i + m := by omega
  rw [this]
 have := pick_run xs i k
 have e2 : ((fun x => xs[x]?) ∘ fun x => i + x) = fun m => xs[i + m]? := rfl
 simp_all
theorem eN {t sl : Addr} {ag : Array Value} {vl vu : Value} {lo hi : Option Int} {Q : Value → Shared → Prop} (ht : IsTup s.heap t ag) (hs : s.heap.IsSliceOf sl vl vu .none) (pl : IsPart vl lo) (pu : IsPart vu hi)
 (hw : ¬ (cE ag.size 0 lo = 0 ∧ cE ag.size ag.size hi = ag.size))
 (h : Q (.ref s.heap.objs.size) { s with heap := s.heap.push { cls := .type "tuple", data := .seq ((ag.toList.drop (cE ag.size 0 lo)).take (cE ag.size ag.size hi - cE ag.size 0 lo)).toArray } })
 (hsz : ag.size ≤ sizeLine) : wpAny (model prog w) A (getItem (.ref t) (.ref sl)) Q E s := by
 have htake : sizeOk (.seq ((ag.toList.drop (cE ag.size 0 lo)).take (cE ag.size ag.size hi - cE ag.size 0 lo)).toArray) := by
  show ((ag.toList.drop _).take _).toArray.size ≤ sizeLine
  rw [List.size_toArray, List.length_take, List.length_drop, Array.length_toList]
  omega
 obtain ⟨os, hos, hcs, hds⟩ := id hs
 have hTs : s.TypeIs (.ref sl) _ := ⟨os, hos, hcs⟩
 unfold getItem
 try with_reducible refine wpAny_holding ?_
 refine wpAny_bind (wpAny_sequenceKey ht.typeIs (rfl) ?_)
 refine wpAny_bind (wpAny_callSpecial?_slot ht.typeIs PyProof.Rows.slot_tuple_getitem
  (wpAny_call_entry PyProof.Rows.slot_tuple_getitem ht.typeIs entry_tuple_getitem ?_ (args_tuple_getitem _ _)))
 show wpAny _ _ (Builtin.Tuple.tupleItemsOf _ >>= _) _ _ s
 refine wpAny_bind (tupleItemsOf_ ht ?_)
 refine wpAny_bind (wpAny_typeOf hTs ?_)
 refine wpAny_bind (fN hs pl pu ?_)
 have hno : ¬ ((((cE ag.size 0 lo) : Int) == 0 && (1 : Int) == 1 && cE ag.size ag.size hi - cE ag.size 0 lo == ag.size) = true) := by
  grind
 show wpAny _ _ (if (((cE _ 0 lo) : Int) == 0 && 1 == 1 && (cE _ _ hi - cE _ 0 lo) == ag.size) = true then _ else _) _ _ s
 rw [if_neg hno, sD]
 first
  | exact wpAny_bind (wpAny_newObj_type (wpAny_pure ⟨_, rfl, wpAny_pure h⟩) htake)
end
end HT
namespace L2
abbrev TO := St → Hp → (Option Int → Hp → Prop) → Prop
def PO (X : Cx) (e : Option Expr) (t : TO) : Prop :=
 ∀ (pins : List (Addr × Obj)) (s : Shared) (σ : St) (H : Hp) (Q : Option Int → Hp → Prop), Inv X pins σ H s → t σ H Q →
  wpAny (model X.prog X.w) X.A (evalPart e X.env) (fun u s' => ∃ o H', Inv X pins σ H' s' ∧ IsPart u o ∧ Q o H') X.xe s
def xi : TO := fun _ H Q => Q none H
def Gj (t : TE) : TO := fun σ H Q => t σ H fun x H1 => ∃ i, x = .int i ∧ Q (some i) H1
theorem intsAre_of : ∀ {us}, al (ns.map V.int) us → IntsAre us ns := by
 induction ns with
 | nil => intro us r; cases r; exact .nil
 | cons n ns ih =>
  intro us r
  cases r with
  | cons r1 r2 =>
   obtain ⟨t, e⟩ := r1
   subst e
   exact .cons n t (ih r2)
section
variable {X : Cx} {e : Expr} {te : TE} {lo hi : Option Expr} {tl th : TO} {pos p2 : Pos}
theorem yq : PO X none xi := by
 intro pins s σ H Q I h
 exact wpAny_pure ⟨_, H, I, .none, h⟩
theorem xq (h : PE X e te) : PO X (some e) (Gj te) := by
 intro pins s σ H Q I hw
 refine aU (h _ s σ H _ I hw) fun u s1 ⟨x, H1, I1, r1, q1⟩ => ?_
 obtain ⟨i, rfl, q⟩ := q1
 obtain ⟨t, rfl⟩ := r1
 exact ⟨_, H1, I1, .int i t, q⟩
def wN (X : Cx) (r : V → Option Int → Option Int → Hp → VK → Prop) : Prop :=
 ∀ (pins : List (Addr × Obj)) (s : Shared) (σ : St) (H : Hp) (x : V) (v vl vu : Value) (lo hi : Option Int) (sl : Addr) (Q : VK), Inv X pins σ H s → RelV x v → s.heap.IsSliceOf sl vl vu .none → IsPart vl lo → IsPart vu hi → r x lo hi H Q →
  ∃ T id, typeLookup (.type T) "__getitem__" = pure (some (.builtin id)) ∧ s.TypeIs v T ∧ wpAny (model X.prog X.w) X.A (getItem v (.ref sl)) (EP X pins σ Q) X.xe s
theorem wN.or (h : wN X r) (h' : wN X r') : wN X fun x lo hi H Q => r x lo hi H Q ∨ r' x lo hi H Q := by
 intro pins s σ H x v vl vu lo hi sl Q I rx hs pl pu q
 rcases q with q | q
 · exact h _ s σ H x v vl vu lo hi sl Q I rx hs pl pu q
 · exact h' _ s σ H x v vl vu lo hi sl Q I rx hs pl pu q
def Kg (r : V → Option Int → Option Int → Hp → VK → Prop) (te : TE) (tl th : TO) : TE := fun σ H Q => te σ H fun x H1 => tl σ H1 fun l H2 => th σ H2 fun u H3 => r x l u H3 Q
theorem u7 (hr : wN X r) (he : PE X e te) (hl : PO X lo tl) (hu : PO X hi th) : PE X (.Subscript e (.Slice lo hi none p2) pos) (Kg r te tl th) := by
 intro pins s σ H Q I h
 refine Subscript_ (aU (he _ s σ H _ I h) fun v s1 ⟨x, H1, I1, r1, q1⟩ => ?_)
 refine wpAny_Slice (aU (hl _ s1 σ H1 _ I1 q1) fun vl s2 ⟨l, H2, I2, pl, q2⟩ => aU (hu _ s2 σ H2 _ I2 q2) fun vu s3 ⟨u, H3, I3, pu, q3⟩ => ?_)
 refine wpAny_pure ?_
 have I4 : Inv X _ σ H3 { s3 with heap := s3.heap.push { cls := .type "slice", data := .fields #[vl, vu, .none] } } := I3.kept fun b ob q => Heap.get?_push_of_some _ q
 obtain ⟨T, id, hT, ht, hg⟩ := hr _ _ σ H3 x v vl vu l u _ Q I4 r1 (Heap.IsSliceOf.new ..) pl pu q3
 exact tail_any ht hT hg rfl
def qP (xs : List V) (lo hi : Option Int) : List V := (xs.drop (HT.cE xs.length 0 lo)).take (HT.cE xs.length xs.length hi - HT.cE xs.length 0 lo)
theorem gy (xs : List V) (lo hi : Option _) : (qP xs lo hi).length ≤ xs.length := by
 unfold qP
 rw [List.length_take, List.length_drop]
 omega
def DW (K : PySem.W.Frag) : V → Option Int → Option Int → Hp → VK → Prop := fun x lo hi H Q => ∃ a xs, x = .ref a ∧ et K H a xs ∧
 ¬ (HT.cE xs.length 0 lo = 0 ∧ HT.cE xs.length xs.length hi = xs.length) ∧ ∀ p, H p = none → Q (.ref p) (bq H p (.tup (qP xs lo hi)))
theorem AU : wN X (DW X.K) := by
 intro pins s σ H x v vl vu lo hi sl Q I rx hs pl pu h
 obtain ⟨a, xs, rfl, hx, hw, q⟩ := h
 cases rx
 obtain ⟨its, r, ht, hz⟩ := I.tuple hx
 have hlen : its.toArray.size = xs.length := r.length.symm
 refine ⟨_, _, PyProof.Rows.slot_tuple_getitem.lookup, ht.typeIs, ?_⟩
 refine HT.eN ht hs pl pu (by rw [hlen]; exact hw) ?_ (by rw [hlen]; exact hz)
 rw [hlen]
 refine ⟨.ref _, _, I.laid (fun b ob q => Heap.get?_push_of_some _ q) (Nat.le_refl _) ?_, rfl, q _ (I.hok.fresh (Nat.le_refl _))⟩
 exact ⟨Nat.le_trans (gy xs lo hi) hz, _, (r.drop _).take _, IsTup.new _ _⟩
def Ed (K : PySem.W.Frag) : R2 := fun x y H Q => ∃ a b xs ys, x = .ref a ∧ y = .ref b ∧ et K H a xs ∧ et K H b ys ∧ xs ≠ [] ∧ xs.length + ys.length ≤ sizeLine ∧
 (ys = [] → Q (.ref a) H) ∧ (ys ≠ [] → ∀ p, H p = none → Q (.ref p) (bq H p (.tup (xs ++ ys))))
theorem al.nil_iff (r : al xs us) : us = [] ↔ xs = [] := by
 cases r with
 | nil => simp
 | cons _ _ => simp
theorem yi : cA X (binaryOp .Add) (Ed X.K) := by
 intro pins s σ H x y v u Q I rx ry h
 obtain ⟨a, b, xs, ys, rfl, rfl, ha, hb, hx, hz, q1, q2⟩ := h
 cases rx
 cases ry
 obtain ⟨its, r1, p1, _⟩ := I.tuple ha
 obtain ⟨its2, r2, p2, _⟩ := I.tuple hb
 refine HT.wp p1 p2 (fun z => hx (r1.nil_iff.mp z)) (fun z => ⟨.ref a, H, I, rfl, q1 (r2.nil_iff.mp z)⟩) (fun z => ?_) (by rw [← r1.length, ← r2.length]; exact hz)
 refine ⟨.ref _, _, I.laid (fun b ob q => Heap.get?_push_of_some _ q) (Nat.le_refl _) ?_, rfl, q2 (fun w => z (r2.nil_iff.mpr w)) _ (I.hok.fresh (Nat.le_refl _))⟩
 exact ⟨by simp_all, _, r1.append r2, IsTup.new _ _⟩
end
def rR (n : Nat) (i : Int) : Option Nat := if 0 ≤ i then (if i < n then some i.toNat else none) else if -(n : Int) ≤ i then some (i + n).toNat else none
def db {α : Type} (xs : List α) (i : Int) : Option α := (rR xs.length i).bind fun j => xs[j]?
theorem qa (h : rR n i = some j) : seqIndex? i n = some j ∧ j < n ∧ -n ≤ i ∧ i < n := by
 unfold rR at h
 by_cases h0 : 0 ≤ i
 · rw [if_pos h0] at h
   by_cases h1 : i < n
   · rw [if_pos h1] at h
     have e := Option.some.inj h
     exact ⟨by rw [seqIndex_of h0 h1, e], by omega, by omega, h1⟩
   simp_all
 · rw [if_neg h0] at h
   by_cases h1 : -n ≤ i
   · rw [if_pos h1] at h
     have e := Option.some.inj h
     exact ⟨by rw [seqIndex_neg (by omega) h1, e], by omega, h1, by omega⟩
   simp_all
theorem kQ {v} (h : db xs i = some v) : ∃ j, seqIndex? i xs.length = some j ∧ xs[j]? = some v ∧ j < xs.length ∧ -xs.length ≤ i ∧ i < xs.length := by
 unfold db at h
 cases e : rR _ i with
 | none => rw [e] at h; cases h
 | some j =>
  rw [e] at h
  obtain ⟨h1, h2, h3, h4⟩ := qa e
  exact ⟨j, h1, h, h2, h3, h4⟩
def jY (b : Expr) : Prop := ∀ o i, subscripted b false o i = operate [o, i] (getItem o i)
def vF (X : Cx) (r : R2) : Prop :=
 ∀ (value slice : Expr) (pins : List (Addr × Obj)) (s : Shared) (σ : St) (H : Hp) (x y : V) (v u : Value) (Q : VK), Inv X pins σ H s → RelV x v → RelV y u → r x y H Q →
  subscripted slice false v u = operate [v, u] (getItem v u) → wpAny (model X.prog X.w) X.A (subscriptTail value slice v u) (EP X pins σ Q) X.xe s
def sf (X : Cx) (id : String) (r : V → List V → Hp → VK → Prop) : Prop :=
 ∀ (pins : List (Addr × Obj)) (s : Shared) (σ : St) (H : Hp) (x : V) (xs : List V) (v : Value) (us : List Value) (Q : VK), Inv X pins σ H s → RelV x v → al xs us → r x xs H Q →
  wpAny (model X.prog X.w) X.A (call (.builtin id) (v :: us)) (EP X pins σ Q) X.xe s
section
variable {X : Cx} {a b : Expr} {ta tb : TE} {pos : Pos}
theorem vF.or (h : vF X r) (h' : vF X r') : vF X fun x y H Q => r x y H Q ∨ r' x y H Q := by
 intro value slice pins s σ H x y v u Q I rx ry q hs
 rcases q with q | q
 · exact h _ _ _ s σ H x y v u Q I rx ry q hs
 · exact h' _ _ _ s σ H x y v u Q I rx ry q hs
theorem sf.or {id} {r r'} (h : sf X id r) (h' : sf X id r') : sf X id fun x xs H Q => r x xs H Q ∨ r' x xs H Q := by
 intro pins s σ H x xs v us Q I rx rs q
 rcases q with q | q
 · exact h _ s σ H x xs v us Q I rx rs q
 · exact h' _ s σ H x xs v us Q I rx rs q
theorem D8 (hr : vF X r) (ha : PE X a ta) (hb : PE X b tb) (hs : jY b) : PE X (.Subscript a b pos) (Bg r ta tb) := by
 intro pins s σ H Q I h
 exact Subscript_ (eB ha hb I h fun v u s2 x y H2 I2 rx ry q => hr a b _ s2 σ H2 x y v u Q I2 rx ry q (hs _ _))
def E5 (K : PySem.W.Frag) : R2 := fun x y H Q => ∃ p xs i v, x = .ref p ∧ y = .int i ∧ cO K H p xs ∧ db xs i = some v ∧ Q v H
def C8 (K : PySem.W.Frag) : R2 := fun x y H Q => ∃ p xs i v, x = .ref p ∧ y = .int i ∧ et K H p xs ∧ db xs i = some v ∧ Q v H
def DA : R2 := fun x y H Q => ∃ z i c, x = .str z ∧ y = .int i ∧ z.length ≤ sizeLine ∧ db z.cps.toList i = some c ∧ Q (.str ⟨#[c]⟩) H
theorem xl : vF X (E5 X.K) := by
 intro value slice pins s σ H x y v u Q I rx ry h hs
 obtain ⟨p, xs, i, z, rfl, rfl, hq, he, q⟩ := h
 cases rx
 obtain ⟨t, rfl⟩ := ry
 obtain ⟨its, r, pl, hz⟩ := I.list hq
 obtain ⟨j, h1, h2, h3, h4, h5⟩ := kQ he
 obtain ⟨w, ew, rw'⟩ := r.get h2
 have hl := r.length
 have hn := eJ
 have da : EP X _ σ Q w s := ⟨z, H, I, rw', q⟩
 by_cases h0 : 0 ≤ i
 · have hj : i.toNat = j := by
    rw [seqIndex_of h0 h5] at h1
    simp_all
   exact item_listR pl.isList h0 (by omega) (by rw [hj]; simpa using ew) da hs
 · have hj : (i + its.toArray.size).toNat = j := by
    rw [seqIndex_neg (by omega) h4] at h1
    simp_all
   exact subscriptTail_builtinR pl.isList.typeIs slot_list_getitem.lookup
    (wpAny_getItem_list_neg pl.isList (by omega) (by grind) (by omega) (by rw [hj]; simpa using ew) ⟨rfl, da⟩) hs
theorem Bz : vF X (C8 X.K) := by
 intro value slice pins s σ H x y v u Q I rx ry h hs
 obtain ⟨p, xs, i, z, rfl, rfl, hq, he, q⟩ := h
 cases rx
 obtain ⟨t, rfl⟩ := ry
 obtain ⟨its, r, pl, hz⟩ := I.tuple hq
 obtain ⟨j, h1, h2, h3, h4, h5⟩ := kQ he
 obtain ⟨w, ew, rw'⟩ := r.get h2
 have hl := r.length
 have hn := eJ
 have da : EP X _ σ Q w s := ⟨z, H, I, rw', q⟩
 exact subscriptTail_builtinR pl.typeIs slot_tuple_getitem.lookup
  (getItem_tuple (j := j) pl (by omega) (by omega) (by grind) (by simpa using ew) ⟨rfl, da⟩) hs
theorem CK : vF X DA := by
 intro value slice pins s σ H x y v u Q I rx ry h hs
 obtain ⟨z, i, c, rfl, rfl, hz, he, q⟩ := h
 obtain ⟨t, rfl⟩ := rx
 obtain ⟨t', rfl⟩ := ry
 obtain ⟨j, h1, h2, h3, h4, h5⟩ := kQ he
 have hl : z.cps.toList.length = z.length := rfl
 rw [hl] at h1 h4 h5
 have hn := eJ
 exact tail_any (typeIs_str s z t) slot_str_getitem.lookup (getItem_str (by
  have e1 : decide (i < -2 ^ 63) = false := decide_eq_false (by omega)
  have e2 : decide (i ≥ 2 ^ 63) = false := decide_eq_false (by omega)
  rw [e1, e2, Bool.or_false]) (by rw [h1]; simpa using h2) ⟨.str _, H, I.tok _, ⟨_, rfl⟩, q⟩) hs
def He (K : PySem.W.Frag) : R2 := fun x y H Q => E5 K x y H Q ∨ C8 K x y H Q ∨ DA x y H Q
theorem AM : vF X (He X.K) := xl.or (Bz.or CK)
theorem nX (its : List _) (n j : Nat) (u : Value) : Obj.mapSeq (·.setIfInBounds j u) { cls := .type "list", data := .seq its.toArray n } = { cls := .type "list", data := .seq (its.set j u).toArray n } := by
 simp [Obj.mapSeq]
theorem Inv.lst {σ : St} {H} {s} {p} {xs} (I : Inv X pins σ H s) (h : H p = some (.lst xs)) :
 ∃ (its : List _) (n : Nat), al xs its ∧ s.heap.get? p = some { cls := .type "list", data := .seq its.toArray n } ∧ xs.length ≤ sizeLine := by
 obtain ⟨z, its, n, r, e⟩ := I.hok p _ h
 exact ⟨its, n, r, e, z⟩
theorem Inv.lstUpd {σ : St} {H} {s} {p} {xs ys} {its its' : List _} {n n'} {f} (I : Inv X pins σ H s) (h : H p = some (.lst xs))
 (ho : s.heap.get? p = some { cls := .type "list", data := .seq its.toArray n }) (hf : f { cls := .type "list", data := .seq its.toArray n } = { cls := .type "list", data := .seq its'.toArray n' }) (r : al ys its') (hz : ys.length ≤ sizeLine) (t : Nat) :
 Inv X pins σ (bq H p (.lst ys)) { s with heap := s.heap.update p f, toks := t } := by
 have e : (s.heap.update p f).get? p = some { cls := .type "list", data := .seq its'.toArray n' } := by
  rw [Heap.get?_update_self f ho (by rw [hf] <;> rfl), hf]
 refine I.write (by rw [h]; trivial) (.inl rfl) (fun b u hb q => (Heap.get?_update_other _ _ (Ne.symm hb)).trans q) ⟨_, e⟩ ?_
 exact ⟨hz, _, n', r, e⟩
def Fv : V → V → V → Hp → (Hp → Prop) → Prop := fun o i v H Q => ∃ p xs k j, o = .ref p ∧ i = .int k ∧ H p = some (.lst xs) ∧ rR xs.length k = some j ∧ Q (bq H p (.lst (xs.set j v)))
theorem uP : Fy X Fv := by
 intro pins s σ H o i v ov iv u Q I ro ri rv h
 obtain ⟨p, xs, k, j, rfl, rfl, hp, hj, q⟩ := h
 cases ro
 obtain ⟨t, rfl⟩ := ri
 obtain ⟨its, n, r, ho, hz⟩ := I.lst hp
 obtain ⟨h1, h2, h3, h4⟩ := qa hj
 have hl := r.length
 have hn := eJ
 have I' : Inv X _ σ _ { s with heap := s.heap.update p _ } :=
  I.lstUpd hp ho (nX _ n j u) (r.set rv j) (by simp_all) _
 by_cases h0 : 0 ≤ k
 · have hk : k.toNat = j := by
    rw [seqIndex_of h0 h4] at h1
    simp_all
   exact PySem.W.ki_setAt ho h0 (by omega) (by simp_all) (by rw [hk]; exact ⟨_, I', q⟩)
 · have hk : (k + its.toArray.size).toNat = j := by
    rw [seqIndex_neg (by omega) h3] at h1
    simp_all
   exact PySem.W.ki_setBack ho (by omega) (by simp_all) (by omega) (by rw [hk]; exact ⟨_, I', q⟩)
theorem kv (lo hi : Option _) (n : Nat) : (sliceBounds lo hi none n).1 = HT.cE n 0 lo ∧ (sliceBounds lo hi none n).2.1 = HT.cE n n hi ∧ (sliceBounds lo hi none n).2.2 = 1 := by
 refine ⟨?_, ?_, rfl⟩
 · cases lo with
   | none => rfl
   | some i =>
    simp only [sliceBounds, HT.cE, Option.getD_none, show (1 : Int) > 0 by decide, if_true]
    by_cases h : i < 0
    · simp only [h, if_true] <;> omega
    · simp only [h, if_false] <;> omega
 · cases hi with
   | none => rfl
   | some i =>
    simp only [sliceBounds, HT.cE, Option.getD_none, show (1 : Int) > 0 by decide, if_true]
    by_cases h : i < 0
    · simp only [h, if_true] <;> omega
    · simp only [h, if_false] <;> omega
theorem jf (its : List _) (lo hi : Option _) : slicePick its.toArray lo hi none = ((its.drop (HT.cE its.length 0 lo)).take (HT.cE its.length its.length hi - HT.cE its.length 0 lo)).toArray := by
 obtain ⟨h1, h2, h3⟩ := kv lo hi _
 unfold slicePick
 rw [h1, h2, h3]
 simp only [sliceRange_one, pick_run, List.size_toArray]
def Fz (K : PySem.W.Frag) : V → Option Int → Option Int → Hp → VK → Prop := fun x lo hi H Q => ∃ a xs, x = .ref a ∧ cO K H a xs ∧ ∀ p, H p = none → Q (.ref p) (bq H p (.lst (qP xs lo hi)))
theorem vR : wN X (Fz X.K) := by
 intro pins s σ H x v vl vu lo hi sl Q I rx hs pl pu h
 obtain ⟨a, xs, rfl, hx, q⟩ := h
 cases rx
 obtain ⟨its, r, ht, hz⟩ := I.list hx
 have hlen := r.length
 refine ⟨_, _, slot_list_getitem.lookup, ht.isList.typeIs, ?_⟩
 refine wpAny_getItem_list_slice ht.isList hs pl pu .none (by simp) ?_ (by grind)
 rw [jf, ← hlen]
 refine ⟨.ref _, _, I.laid (fun b ob q => Heap.get?_push_of_some _ q) (Nat.le_refl _) ?_, rfl, q _ (I.hok.fresh (Nat.le_refl _))⟩
 exact ⟨Nat.le_trans (gy xs lo hi) hz, _, 0, (r.drop _).take _, Heap.get?_push_size _ rfl⟩
def eh : V → Bool
 | .non => true
 | .bl _ => true
 | .int _ => true
 | .str _ => true
 | _ => false
def wY : V → V → Bool
 | .non, .non => true
 | .bl a, .bl b => a == b
 | .bl a, .int b => (if a then 1 else 0) == b
 | .int a, .bl b => a == (if b then 1 else 0)
 | .int a, .int b => a == b
 | .str a, .str b => a == b
 | _, _ => false
theorem By {A : Around} {s : Shared} {y x : V} {u v} (ry : RelV y u) (rx : RelV x v) (fy : eh y = true) (fx : eh x = true) : SeqAt.EqAt A s u v (wY y x) := by
 cases y with
 | non =>
  cases ry
  cases x with
  | non => cases rx; exact SeqAt.EqAt.same _
  | bl b => cases rx; exact SeqAt.EqAt.none_bool b
  | int b => obtain ⟨t, rfl⟩ := rx; exact SeqAt.EqAt.none_int b t
  | str b => obtain ⟨t, rfl⟩ := rx; exact SeqAt.EqAt.none_str b t
  | _ => exact absurd (fx) Bool.false_ne_true
 | bl a =>
  cases ry
  cases x with
  | non => cases rx; exact SeqAt.EqAt.bool_none a
  | bl b => cases rx; exact SeqAt.EqAt.bool_bool a b
  | int b => obtain ⟨t, rfl⟩ := rx; exact SeqAt.EqAt.bool_int a b t
  | str b => obtain ⟨t, rfl⟩ := rx; exact SeqAt.EqAt.bool_str a b t
  | _ => exact absurd (fx) Bool.false_ne_true
 | int a =>
  obtain ⟨t', rfl⟩ := ry
  cases x with
  | non => cases rx; exact SeqAt.EqAt.int_none a t'
  | bl b => cases rx; exact SeqAt.EqAt.int_bool a t' b
  | int b => obtain ⟨t, rfl⟩ := rx; exact SeqAt.EqAt.int_int a t' b t
  | str b => obtain ⟨t, rfl⟩ := rx; exact SeqAt.EqAt.int_str a t' b t
  | _ => exact absurd (fx) Bool.false_ne_true
 | str a =>
  obtain ⟨t', rfl⟩ := ry
  cases x with
  | non => cases rx; exact SeqAt.EqAt.str_none a t'
  | bl b => cases rx; exact SeqAt.EqAt.str_bool a t' b
  | int b => obtain ⟨t, rfl⟩ := rx; exact SeqAt.EqAt.str_int a t' b t
  | str b => obtain ⟨t, rfl⟩ := rx; exact SeqAt.EqAt.str_str a t' b t
  | _ => exact absurd (fx) Bool.false_ne_true
 | _ => exact absurd (fy) Bool.false_ne_true
def CH (x : V) (u : Value) : Bool := match u with
 | .none => wY .non x
 | .bool b => wY (.bl b) x
 | .int i _ => wY (.int i) x
 | .str z _ => wY (.str z) x
 | _ => false
theorem uu {x y} {u} (r : RelV y u) (f : eh y = true) : CH x u = wY y x := by
 cases y with
 | non => cases r; rfl
 | bl b => cases r; rfl
 | int i => obtain ⟨t, rfl⟩ := r; rfl
 | str z => obtain ⟨t, rfl⟩ := r; rfl
 | _ => exact absurd f Bool.false_ne_true
theorem fw : ∀ {xs} {us}, al xs us → xs.all eh = true → us.any (CH x) = xs.any fun y => wY y x
 | _, _, .nil, _ => rfl
 | y :: xs, u :: us, .cons r t, f => by
  rw [List.all_cons, Bool.and_eq_true] at f
  rw [List.any_cons, List.any_cons, uu r f.1, fw t f.2]
theorem dL {x} {v} (rx : RelV x v) (fx : eh x = true) : ∀ {xs} {us}, al xs us → xs.all eh = true → ∀ u ∈ us, SeqAt.EqAt A s u v (CH x u)
 | _, _, .nil, _ => fun u hu => by cases hu
 | y :: xs, u :: us, .cons r t, f => fun u' hu => by
  rw [List.all_cons, Bool.and_eq_true] at f
  rcases List.mem_cons.mp hu with rfl | hu
  · rw [uu r f.1]; exact By r rx f.1 fx
  · exact dL rx fx t f.2 u' hu
def GN (x : V) (xs : List V) : Bool := xs.any fun y => wY y x
def D9 (K : PySem.W.Frag) (neg : Bool) : R2 := fun x y H Q => ∃ p xs, y = .ref p ∧ (cO K H p xs ∨ et K H p xs) ∧ eh x = true ∧ xs.all eh = true ∧ Q (.bl (if neg then !GN x xs else GN x xs)) H
theorem rm : cA X (compareOp .In) (D9 X.K false) := by
 intro pins s σ H x y v u Q I rx ry h
 obtain ⟨p, xs, rfl, hq, fx, fs, q⟩ := h
 cases ry
 rcases hq with hq | hq
 · obtain ⟨its, r, pl, hz⟩ := I.list hq
   refine SeqAt.in_listAt _ pl.isList (fun w hw => dL rx fx r fs w (by simpa using hw)) ⟨.bl _, H, I, rfl, ?_⟩
   rw [show its.toArray.any _ = its.any (CH x) by simp, fw r fs]
   exact q
 · obtain ⟨its, r, pl, hz⟩ := I.tuple hq
   refine SeqAt.in_tupleAt _ pl (fun w hw => dL rx fx r fs w (by simpa using hw)) ⟨.bl _, H, I, rfl, ?_⟩
   rw [show its.toArray.any _ = its.any (CH x) by simp, fw r fs]
   exact q
theorem jZ : cA X (compareOp .NotIn) (D9 X.K true) := by
 intro pins s σ H x y v u Q I rx ry h
 obtain ⟨p, xs, rfl, hq, fx, fs, q⟩ := h
 cases ry
 rcases hq with hq | hq
 · obtain ⟨its, r, pl, hz⟩ := I.list hq
   refine SeqAt.notIn_listAt _ pl.isList (fun w hw => dL rx fx r fs w (by simpa using hw)) ⟨.bl _, H, I, rfl, ?_⟩
   rw [show its.toArray.any _ = its.any (CH x) by simp, fw r fs]
   exact q
 · obtain ⟨its, r, pl, hz⟩ := I.tuple hq
   refine SeqAt.notIn_tupleAt _ pl (fun w hw => dL rx fx r fs w (by simpa using hw)) ⟨.bl _, H, I, rfl, ?_⟩
   rw [show its.toArray.any _ = its.any (CH x) by simp, fw r fs]
   exact q
theorem k9 : bC X (.builtin "len") fun xs H Q => ∃ p ys, xs = [.ref p] ∧ (cO X.K H p ys ∨ et X.K H p ys) ∧ Q (.int ys.length) H := by
 intro pins s σ H xs us Q I r h
 obtain ⟨p, ys, rfl, hq, q⟩ := h
 obtain ⟨u, rfl, rx⟩ := vals1 r
 cases rx
 have hn := eJ
 rcases hq with hq | hq
 · obtain ⟨its, r', pl, hz⟩ := I.list hq
   have hlen := r'.length
   exact Calls.call_len_list pl.isList (by simp only [List.size_toArray] <;> omega) ⟨.int _, H, I.tok _, ⟨s.toks + 1, by simp_all⟩, q⟩
 · obtain ⟨its, r', pl, hz⟩ := I.tuple hq
   have hlen := r'.length
   exact len_tuple pl (by simp only [List.size_toArray] <;> omega) ⟨.int _, H, I.tok _, ⟨s.toks + 1, by simp_all⟩, q⟩
theorem kU : bC X (.builtin "len") fun xs H Q => ∃ z, xs = [.str z] ∧ z.length ≤ sizeLine ∧ Q (.int z.length) H := by
 intro pins s σ H xs us Q I r h
 obtain ⟨z, rfl, hz, q⟩ := h
 obtain ⟨u, rfl, t, rfl⟩ := vals1 r
 have hn := eJ
 exact len_str (by omega) ⟨.int _, H, I.tok _, ⟨_, rfl⟩, q⟩
theorem bC.or (h : bC X f r) (h' : bC X f r') : bC X f fun xs H Q => r xs H Q ∨ r' xs H Q := by
 intro pins s σ H xs us Q I rs q
 rcases q with q | q
 · exact h _ s σ H xs us Q I rs q
 · exact h' _ s σ H xs us Q I rs q
theorem jj : bC X (.type "tuple") fun xs H Q => ∃ p ys, xs = [.ref p] ∧ ((cO X.K H p ys ∧ ∀ l, H l = none → Q (.ref l) (bq H l (.tup ys))) ∨ et X.K H p ys ∧ Q (.ref p) H) := by
 intro pins s σ H xs us Q I r h
 obtain ⟨p, ys, rfl, h⟩ := h
 obtain ⟨u, rfl, rx⟩ := vals1 r
 cases rx
 rcases h with ⟨hq, q⟩ | ⟨hq, q⟩
 · obtain ⟨its, r', pl, hz⟩ := I.list hq
   have hlen := r'.length
   refine call_tuple_list pl.isList (fun h' kp => ?_) (by simp_all)
   have I1 : Inv X _ σ H { s with heap := h' } := I.kept kp
   have I2 : Inv X _ σ (bq H _ (.tup ys)) { s with heap := h'.push _ } :=
    I1.laid (fun b o e => Heap.get?_push_of_some _ e) (Nat.le_refl _) ⟨hz, its, r', IsTup.new _ _⟩
   exact ⟨.ref _, _, I2, rfl, q _ (I1.hok.fresh (Nat.le_refl _))⟩
 · obtain ⟨its, r', pl, hz⟩ := I.tuple hq
   exact call_tuple_same pl ⟨.ref p, H, I, rfl, q⟩
def Ig (K : PySem.W.Frag) (T : String) (x : V) (H : Hp) : Prop := match x with
 | .str _ => T = "str"
 | .int _ => T = "int"
 | .ref p => (T = "list" ∧ ∃ xs, cO K H p xs) ∨ (T = "tuple" ∧ ∃ o, K.lookup p = some o ∧ o.cls = .type "tuple" ∧ o.dict = none) ∨
  (T = "set" ∧ ∃ S n, H p = some (.set S n))
 | _ => False
theorem uM {pins : List (Addr × Obj)} {σ : St} {H : Hp} {s : Shared} {T : String} {x : V} {v : Value} (I : Inv X pins σ H s) (r : RelV x v) (ty : Ig X.K T x H) :
 s.TypeIs v T ∧ ∀ a, v = .ref a → ∃ ob, s.heap.get? a = some ob ∧ ob.dict = none := by
 cases x with
 | str z =>
  obtain ⟨t, rfl⟩ := r
  cases (show T = "str" from ty)
  exact ⟨typeIs_str s z t, fun _ e => nomatch e⟩
 | int i =>
  obtain ⟨t, rfl⟩ := r
  cases (show T = "int" from ty)
  exact ⟨typeIs_int s i t, fun _ e => nomatch e⟩
 | ref p =>
  cases r
  rcases ty with ⟨rfl, xs, hq⟩ | ⟨rfl, o, hk, hc, hd⟩ | ⟨rfl, S, n, hk⟩
  · obtain ⟨its, _, pl, _⟩ := I.list hq
    refine ⟨pl.isList.typeIs, fun a e => ?_⟩
    cases e
    obtain ⟨o, n, e, c, hd, _⟩ := pl
    exact ⟨o, e, hd⟩
  · refine ⟨⟨o, I.kIn p o hk, hc⟩, fun a e => ?_⟩
    cases e
    exact ⟨o, I.kIn _ o hk, hd⟩
  · obtain ⟨o, _, _, _, e, ex, _⟩ := I.hok p _ hk
    refine ⟨⟨o, e, ex.1⟩, fun a e2 => ?_⟩
    cases e2
    exact ⟨o, e, ex.2.1⟩
 | _ => exact False.elim ty
def Cj (K : PySem.W.Frag) (T : String) (r : V → List V → Hp → VK → Prop) (to : TE) : TE := fun σ H Q => to σ H fun x H1 => Ig K T x H1 ∧ r x [] H1 Q
def GK (K : PySem.W.Frag) (T : String) (r : V → List V → Hp → VK → Prop) (to : TE) (t : TA) : TE := fun σ H Q => to σ H fun x H1 => Ig K T x H1 ∧ t σ H1 fun xs H2 => r x xs H2 Q
variable {o e : Expr} {es : List Expr} {to : TE} {t : TA} {name : Str} {apos cpos : Pos} {T id : String} {r : V → List V → Hp → VK → Prop}
theorem AJ (pa : PlainAttrs T) (slot : Slot T name id) (hty : typeOf (.builtin id) = pure (.type "method_descriptor")) (hm : sf X id r) (ho : PE X o to)
 (hbase : attributeBase o name X.env (eval o X.env) = eval o X.env := by rfl) (hline : (apos.endLine == cpos.line) = true := by rfl) : PE X (.Call (.Attribute o name apos) [] [] cpos) (Cj X.K T r to) := by
 intro pins s σ H Q I h
 refine wpAny_Call_method0_late hbase hline (aU (ho _ s σ H _ I h) fun v s1 ⟨x, H1, I1, r1, ty, q1⟩ => ?_)
 obtain ⟨h1, h2⟩ := uM I1 r1 ty
 exact ⟨T, id, pa, slot, hty, h1, h2, Calls.callWith_builtin rfl (PySem.evalArgs_none (hm _ s1 σ H1 x [] v [] Q I1 r1 .nil q1))⟩
theorem DY (pa : PlainAttrs T) (slot : Slot T name id) (hty : typeOf (.builtin id) = pure (.type "method_descriptor")) (hm : sf X id r) (ho : PE X o to) (ha : PA X (e :: es) t)
 (hbase : attributeBase o name X.env (eval o X.env) = eval o X.env := by rfl)
 (hfew : ((backTo cpos (starEach (e :: es) X.env)).all (fun x => !x.1) && (backToKw cpos (keywordEach [] X.env)).all (fun x => x.1.isSome)
  && decide ((e :: es).length + ([] : List Keyword).length + (if ([] : List Keyword).isEmpty then 0 else 1) < 30)) = true := by rfl)
 (hline : (apos.endLine == cpos.line) = true := by rfl) (hs : starEach (e :: es) X.env = (false, eval e X.env) :: starEach es X.env := by rfl) (hplain : (backTo cpos (starEach es X.env)).any (·.1) = false := by rfl) :
 PE X (.Call (.Attribute o name apos) (e :: es) [] cpos) (GK X.K T r to t) := by
 intro pins s σ H Q I h
 refine wpAny_Call_method_late hbase hfew hline rfl (aU (ho _ s σ H _ I h) fun v s1 ⟨x, H1, I1, r1, ty, q1⟩ => ?_)
 obtain ⟨h1, h2⟩ := uM I1 r1 ty
 refine ⟨T, id, pa, slot, hty, h1, h2, ?_⟩
 have hA := ha cpos _ s1 σ H1 _ I1 q1
 rw [hs] at hA ⊢
 refine Calls.callWith_builtin (by show (false || (backTo _ _).any _) = false; rw [hplain] <;> rfl) (Calls.evalArgs_plain ?_)
 exact aU hA fun us s2 ⟨vs, H2, I2, r2, q2⟩ => hm _ s2 σ H2 x vs v us Q I2 r1 r2 q2
end
def JC (X : Cx) (id : String) (r : V → List V → Hp → VK → Prop) : Prop :=
 ∀ (pins : List (Addr × Obj)) (s : Shared) (σ : St) (H : Hp) (x : V) (xs : List V) (v : Value) (us : List Value) (Q : VK), Inv X pins σ H s → RelV x v → al xs us → r x xs H Q →
  wpAny (model X.prog X.w) X.A (call (.builtin id) (v :: us)) (EP X pins σ Q) X.xe s
theorem al.one : ∀ {x} {us}, al [x] us → ∃ u, us = [u] ∧ RelV x u
 | _, _, .cons r .nil => ⟨_, rfl, r⟩
theorem al.two : ∀ {x y} {us}, al [x, y] us → ∃ u v, us = [u, v] ∧ RelV x u ∧ RelV y v
 | _, _, _, .cons r (.cons q .nil) => ⟨_, _, rfl, r, q⟩
theorem al.zero : ∀ {us}, al [] us → us = []
 | _, .nil => rfl
theorem al.reverse (h : al xs us) : al xs.reverse us.reverse := by
 induction h with
 | nil => exact .nil
 | cons r t ih => rw [List.reverse_cons, List.reverse_cons]; exact al.append ih (.cons r .nil)
theorem foldl_rep (its : List Value) : ∀ (k : Nat) (acc : List _),
 List.foldl (fun x1 x2 => x1 ++ x2) acc.toArray (List.replicate k its.toArray) = (acc ++ (List.replicate k its).flatten).toArray
 | 0, acc => by simp
 | k + 1, acc => by
  have e : acc.toArray ++ its.toArray = (acc ++ its).toArray := by simp
  have e2 : acc ++ its ++ (List.replicate k its).flatten = acc ++ (List.replicate (k + 1) its).flatten := by
   rw [List.replicate_succ, List.flatten_cons, List.append_assoc]
  rw [← e2, ← foldl_rep _ k, ← e, List.replicate_succ, List.foldl_cons]
section
variable {X : Cx} {pins : List (Addr × Obj)} {σ : St} {H : Hp} {s : Shared} {l b : Addr} {xs ys zs : List V}
theorem Inv.lset {its its' : List _} {n} {f} {t'} (I : Inv X pins σ H s) (hH : H l = some (.lst xs))
 (e : s.heap.get? l = some { cls := .type "list", data := .seq its.toArray n }) (hf : f its.toArray = its'.toArray) (hv : al ys its') (hz : ys.length ≤ sizeLine) :
 Inv X pins σ (bq H l (.lst ys)) { s with heap := s.heap.update l (Obj.mapSeq f), toks := t' } := by
 have q := PySem.IsL.update e f
 rw [hf] at q
 refine I.write (by rw [hH]; exact trivial) (.inl rfl) (fun b' u hb hu => (Heap.get?_update_other _ _ (Ne.symm hb)).trans hu) ⟨_, q⟩ ?_
 exact ⟨hz, _, _, hv, q⟩
theorem Inv.lnew (I : Inv X pins σ H s) (hv : al ys its) (hz : ys.length ≤ sizeLine) :
 Inv X pins σ (bq H s.heap.objs.size (.lst ys)) { s with heap := s.heap.push { cls := .type "list", data := .seq its.toArray }, toks := t' } :=
 I.laid (fun _ _ q => Heap.get?_push_of_some _ q) (Nat.le_refl _) ⟨hz, its, 0, hv, Heap.get?_push_size _ rfl⟩
theorem Inv.fresh (I : Inv X pins σ H s) : H s.heap.objs.size = none := I.hok.fresh (Nat.le_refl _)
theorem Inv.lstM (I : Inv X pins σ H s) (hH : H l = some (.lst xs)) : xs.length ≤ sizeLine ∧ ∃ (its : List _) (n : Nat), al xs its ∧ xs.length = its.length ∧ s.heap.get? l = some { cls := .type "list", data := .seq its.toArray n } := by
 obtain ⟨z, its, n, r, e⟩ := I.hok l _ hH
 exact ⟨z, its, n, r, r.length, e⟩
end
section
variable {X : Cx}
def o9 : V → List V → Hp → VK → Prop := fun x vs H Q => ∃ l xs y, x = .ref l ∧ vs = [y] ∧ H l = some (.lst xs) ∧ xs.length < sizeLine ∧ Q .non (bq H l (.lst (xs ++ [y])))
theorem rh : JC X "list.append" o9 := by
 intro pins s σ H x vs v us Q I rx rv h
 obtain ⟨l, xs, y, rfl, rfl, hH, hz, q⟩ := h
 cases rx
 obtain ⟨u, rfl, ru⟩ := rv.one
 obtain ⟨z, its, n, r, hl, e⟩ := I.lstM hH
 refine call_meets F.slot_list_append ⟨_, e, rfl⟩ F.entry_list_append (F.args_list_append_2 _ _) (PySem.list_append l _ n u (by grind)) ⟨e, ?_⟩
 refine ⟨.non, _, I.lset hH e (by simp) (r.append (.cons ru .nil)) ?_, rfl, q⟩
 rw [List.length_append, List.length_singleton]
 omega
def lu : V → List V → Hp → VK → Prop := fun x vs H Q => ∃ l xs, x = .ref l ∧ vs = [] ∧ H l = some (.lst xs) ∧ Q .non (bq H l (.lst xs.reverse))
theorem nI : JC X "list.reverse" lu := by
 intro pins s σ H x vs v us Q I rx rv h
 obtain ⟨l, xs, rfl, rfl, hH, q⟩ := h
 cases rx
 have hus := rv.zero
 subst hus
 obtain ⟨z, its, n, r, hl, e⟩ := I.lstM hH
 refine call_meets F.slot_list_reverse ⟨_, e, rfl⟩ F.entry_list_reverse (F.args_list_reverse_1 _) (AutoSeq1.list_reverse_list_0 l _ n (by simp_all)) ⟨e, ?_⟩
 refine ⟨.non, _, I.lset hH e (by simp) r.reverse ?_, rfl, q⟩
 simp_all
end
end L2
namespace Att
open PySem PySem.W PySem.Calls PyProof.Rows
theorem gD : ∀ (ns : List _) (vs : List _), WellAll P h vs (ns.map WData.int) → IntsAre vs ns := by
 intro ns
 induction ns with
 | nil =>
  intro vs w
  cases w
  exact .nil
 | cons n ns ih =>
  intro vs w
  cases w with
  | cons a b =>
   cases a
   exact .cons _ _ (ih _ b)
theorem rk {l : OpenLaw} {n} (hn : l.most = some n) {P} {h} {args} {vals}
 (hpre : l.row.toRowW.claim.pre args = true) (hwl : WellAll P h vals args) :
 ∃ a vs ns, vals = [Value.ref a] ∧ args = [WData.list (ns.map WData.int)] ∧ h.get? a = some { cls := .type "list", data := .seq vs.toArray } ∧ IntsAre vs ns ∧ ns.length ≤ n := by
 have hsh := (pre_splitW hpre).1
 have hc : l.pre.holds [] _ = true := (pre_splitW hpre).2
 obtain ⟨d, r, rfl, h1, h2⟩ := hasAllW_cons hsh
 obtain rfl := hasAllW_nil h2
 obtain ⟨xs, rfl, h3⟩ := hasW_list h1
 obtain ⟨ns, rfl⟩ := items_int h3
 have hlen : ns.length ≤ n := by
  have h4 : (WTm.not (.lt (.lit (.int n)) (.len (.arg 0)))).holds [] { args := [.list (ns.map .int)] } = true := by
   have h4 := (holds_andW hc).1
   simp_all
  have h5 := condW_of h4 (w_not (w_lt w_lit (w_len_list (w_arg rfl))))
  grind
 cases hwl with
 | cons w1 w2 =>
  cases w2
  cases w1 with
  | list ho hall => exact ⟨_, _, ns, rfl, rfl, ho, gD ns _ hall, hlen⟩
theorem qQ (l : OpenLaw) (args : List _) : l.row.toRowW.claim.post args (.bool true) args = true :=
 postW_of
  rfl
  (w_eq_bool (w_res rfl) w_lit) rfl
theorem lI {l : OpenLaw} {n} {q} {loose} {XP} {YP} {d}
 (hn : l.most = some n) (hdf : d.params.defaults = [])
 (call : ∀ (w : World) (s₀ s₁ : Shared) (mg mb : Str → Option _) (fa : Addr) (o : Obj) (pm cd doc : Value) (a : Addr) (vs : List _) (ns : List _),
  Ground q loose [] XP w s₀ mg mb s₁.heap → YP w s₁.heap →
  s₁.heap.get? fa = some o → o.data = .func (docDef d.name d.params d.body d.scope pm cd doc) → s₁.heap.CodeRec cd d.name → mg d.name = some (.ref fa) →
  s₁.heap.get? a = some { cls := .type "list", data := .seq vs.toArray } → IntsAre vs ns → ns.length ≤ n → s₁.gens = #[] →
  codeAny (model l.prog w) callerA (.call (.ref fa) ⟨[.ref a], []⟩) (fun r s' => r = .ok (.ret (.bool true)) ∧ OldK s₁.heap s'.heap ∧ s'.os = s₁.os ∧ AllBare s'.gens) s₁) :
 WalkO q loose XP YP l.row.toRowW d [] fun f vs => PySem.call f vs := by
 intro w s₀ s₁ mg mb G Y fa o pm cd doc dV kV ho hd hcd hD hmg hg args vals as hpre hlay hrd hwl hlo
 obtain rfl : dV = .none := Dflts.none hD hdf
 obtain rfl : kV = .none := Dflts.noKw hD
 obtain ⟨a, vs, ns, rfl, rfl, hobj, hints, hlen⟩ := rk hn hpre hwl
 refine enter_call (codeAny_mono (call w _ _ mg mb fa o pm cd _ a vs ns G Y ho (fd_plain hd) hcd hmg hobj hints hlen hg) fun r s' hq => ?_)
 obtain ⟨rfl, h2, h3, h4⟩ := hq
 exact ⟨.inl ⟨_, _, [], rfl, fun _ => rfl, .bool _, qQ l _, fun _ => ⟨List.Pairwise.nil, fun _ hm => nomatch hm⟩⟩, h2, h3, h4⟩
end Att
namespace L2
theorem gd : ∀ {vs} {ns}, IntsAre vs ns → al (ns.map V.int) vs
 | _, _, .nil => .nil
 | _, _, .cons n t h => .cons ⟨t, rfl⟩ (gd h)
abbrev JK {K : PySem.W.Frag} {h : Heap} (_ : K.In h) : PySem.W.Frag := K
abbrev mn : zR := fun _ _ _ _ _ _ => False
abbrev E0 : XK := fun _ _ _ => False
theorem o1 : ku mn X E0 := fun _ _ _ _ _ _ _ h => h.elim
structure vI (K : PySem.W.Frag) (x qual : Str) (st : Stmt) (f : Addr) (fd : FuncData) : Prop where
 ex : ∃ (oc : Value) (od : Option Addr) (kV doc pm : Value) (an : Option Addr) (cdv ct : Value) (osl : Array (Option Value)),
  fd = PySem.W.fnOf x qual (aL st) (aB st) (ah st) .none kV doc pm an cdv ct ∧ K.lookup f = some ⟨oc, od, .func fd, osl⟩ ∧ PySem.W.codeIn K cdv qual = true
 kp : PySem.W.keepIn K (.ref f) = true
section
variable {P : Program} {w : World} {K : PySem.W.Frag} {mg : Str → Option Value} {base : Heap}
theorem vI.ok {st} {f} {fd} {N ps} {k} {sp} (F : vI K x qual st f fd) (S : cf N ps (ah st)) (len : ∀ vs H Q E, sp vs H Q E → vs.length = ps.length)
 (hbody : ∀ (cdv : Value) (A : Around) (outer : List _) (s : Shared) (H : Hp) (vs : List V) (Q : VK) (E : XK), bh k (A.deeper (envOfC qual (ah st) s.heap.objs.size f cdv)) → sp vs H Q E →
  ∃ t, fK (iW mn P w K mg base N qual (ah st) f cdv A outer s H E).nox (aB st) t ∧ t { nx := fun _ H' => Q .non H', rt := Q } (start N vs) H) : fG P w K mg base mn (k + 1) f fd ps sp := by
 obtain ⟨oc, od, kV, doc, pm, an, cdv, ct, osl, rfl, lk, hcd⟩ := F.ex
 refine zb lk hcd S len fun A outer s H vs Q E hr hsp => ?_
 obtain ⟨t, h, q⟩ := hbody _ A _ s H vs Q E hr hsp
 exact ⟨t, h.nox, q⟩
theorem vI.binds {st} {f} {fd} {ps} (F : vI K x qual st f fd)
 (h : ∀ (kV doc pm : Value) (an : Option _) (cdv ct : Value) (us : List _), us.length = ps.length → bindArgs (PySem.W.fnOf x qual (aL st) (aB st) (ah st) .none kV doc pm an cdv ct) ⟨us, []⟩ = pure (ps.zip us)) : Binds K fd ps [] := by
 obtain ⟨oc, od, kV, doc, pm, an, cdv, ct, osl, rfl, lk, hcd⟩ := F.ex
 exact .all (h kV _ pm an _ ct)
theorem m9 {st} {f} {oc} {od an} {osl} {kV doc pm cdv ct} (l : K.lookup f = some ⟨oc, od, .func (PySem.W.fnOf x qual (aL st) (aB st) (ah st) .none kV doc pm an cdv ct), osl⟩)
 (c : PySem.W.codeIn K cdv qual = true) (k : PySem.W.keepIn K (.ref f) = true) : vI K x qual st f (PySem.W.fnOf x qual (aL st) (aB st) (ah st) .none kV doc pm an cdv ct) := ⟨⟨oc, od, kV, doc, pm, an, cdv, ct, osl, rfl, l, c⟩, k⟩
end
section
variable {X : Cx}
theorem pv (i : Nat) {x : Str} {pos : Pos} (hN : X.N[i]? = some x := by rfl) (hv : yO X.env.scope x := by first | exact Or.inl rfl | exact Or.inr (Or.inl rfl) | exact Or.inr (Or.inr rfl)) (hd : (x == ("__debug__" : Str)) = false := by decide)
 (hcd : (x == ("__classdict__" : Str)) = false := by decide) : PE X (.Name x pos) (Dq i) := ue hN hv hd hcd
end
end L2
end
section
namespace L2
def PF (X : Cx) (cs : List Expr) (t : TT) : Prop :=
 ∀ (pins : List (Addr × Obj)) (s : Shared) (σ : St) (H : Hp) (Q : Bool → Hp → Prop), Inv X pins σ H s → t σ H Q →
  wpAny (model X.prog X.w) X.A (forIn cs true fun c r => if r = true then do let ok ← isTrue c X.env (eval c X.env); pure (ForInStep.yield ok) else pure (ForInStep.yield r)) (TP X pins σ Q) X.xe s
def GY : TT := fun _ H Q => Q true H
theorem mS : ∀ (cs : List _), (forIn cs false fun c r => if r = true then do let ok ← isTrue c env (eval c env); pure (ForInStep.yield ok) else pure (ForInStep.yield r)) = pure false
 | [] => rfl
 | c :: cs => by
  rw [List.forIn_cons]
  exact mS cs
theorem zZ : PF X [] GY := fun _ _ σ H _ I h => wpAny_pure ⟨H, I, h⟩
theorem wv {t u} (h1 : PT X c t) (h2 : PF X cs u) : PF X (c :: cs) (CT t u) := by
 intro pins s σ H Q I h
 rw [List.forIn_cons]
 refine wpAny_bind (wpAny_bind (aU (h1 _ s σ H _ I h) fun b s1 ⟨H1, I1, q1⟩ => wpAny_pure ?_))
 cases b with
 | true => exact h2 _ s1 σ H1 _ I1 q1
 | false =>
  dsimp only
  rw [mS]
  exact wpAny_pure ⟨H1, I1, q1⟩
theorem eI {env : Env} : ∀ (names : List (Str × NameKind)) (cs : List (Str × Addr)), (∀ x ∈ names, x.2 = .free → ∃ c, env.cells.lookup x.1 = some c) → (∀ x c, cs.lookup x = some c → env.cells.lookup x = some c) →
 ∃ cl, (forIn names cs fun (p : Str × NameKind) (r : List (Str × Addr)) => if (p.2 == .free) = true then do let a ← cellOf env p.1; pure (ForInStep.yield ((p.1, a) :: r)) else pure (ForInStep.yield r)) = (pure cl : Sem (List (Str × Addr))) ∧
  (∀ x c, cl.lookup x = some c → env.cells.lookup x = some c) ∧ (∀ x, (cs.lookup x).isSome = true → (cl.lookup x).isSome = true) ∧ ∀ x, (x, NameKind.free) ∈ names → (cl.lookup x).isSome = true
 | [], cs, _, h2 => ⟨cs, rfl, h2, fun _ h => h, fun _ h => nomatch h⟩
 | (n, k) :: r, cs, h1, h2 => by
  by_cases hk : k = .free
  · subst hk
    obtain ⟨c, hc⟩ := h1 (n, .free) List.mem_cons_self rfl
    have h2' : ∀ x d, ((n, c) :: cs).lookup x = some d → env.cells.lookup x = some d := fun x d e => by
     cases hx : x == n with
     | true => grind
     | false => grind
    obtain ⟨cl, e, a, b, d⟩ := eI r ((n, c) :: cs) (fun x hx => h1 x (List.mem_cons_of_mem _ hx)) h2'
    refine ⟨cl, ?_, a, fun x hx => b x ?_, fun x hx => ?_⟩
    · rw [List.forIn_cons]
      simp only [cellOf, hc]
      exact e
    · grind
    · rcases List.mem_cons.mp hx with z | z
      · grind
      · exact d x z
  · obtain ⟨cl, e, a, b, d⟩ := eI r cs (fun x hx => h1 x (List.mem_cons_of_mem _ hx)) h2
    refine ⟨cl, ?_, a, b, fun x hx => ?_⟩
    · grind
    · rcases List.mem_cons.mp hx with z | z
      · grind
      · exact d x z
theorem nH (h : ∀ x ∈ scope.names, x.2 = .free → ∃ c, env.cells.lookup x.1 = some c) :
 ∃ cl, closureFor scope env = pure cl ∧ (∀ x c, cl.lookup x = some c → env.cells.lookup x = some c) ∧ ∀ x, (x, NameKind.free) ∈ scope.names → (cl.lookup x).isSome = true := by
 obtain ⟨cl, e, a, _, d⟩ := eI _ [] h fun x c e => by cases e
 refine ⟨cl, ?_, a, d⟩
 simp only [closureFor]
 simp_all
def bj (X : Cx) (N' : List Str) (scope : Scope) (cl : List (Str × Addr)) (C : Addr) (ex : List Addr) (s : Shared) (H : Hp) : Cx where
 prog := X.prog
 w := X.w
 K := X.K
 mg := X.mg
 base := X.base
 A := X.A
 N := N'
 s₀ := s
 H₀ := H
 env := compEnvC scope cl C X.env
 outer := X.stack
 stack := X.stack
 ex := ex
 fn := fun _ => false
 calm := X.calm
 pn := []
 xe := fun _ _ => False
def bV (ix : List (Option Nat)) (σ : St) : St := ix.map fun o => match o with | none => none | some j => (σ[j]?).getD none
def fW (osc scope : Scope) (x : Str × NameKind) : Bool :=
 match x.2 with
 | .cell => false
 | .local => scope.names.lookup x.1 == some .local
 | .free => osc.names.lookup x.1 == some .cell || osc.names.lookup x.1 == some .free
 | _ => true
def fP (N : List Str) (scope : Scope) : List (Option Nat) → List Str → Bool
 | [], [] => true
 | none :: r, _ :: q => fP N scope r q
 | some j :: r, x :: q => N[j]? == some x && scope.names.lookup x == some .free && fP N scope r q
 | _, _ => false
def aZ (osc : Scope) (N : List Str) (scope : Scope) (N' : List Str) (ix : List (Option Nat)) : Bool :=
 scope.kind == .function && scope.names.all (fW osc scope) && fP N scope ix N'
theorem dh : ∀ {ix} {N'}, fP N scope ix N' = true → ix.length = N'.length
 | [], [], _ => rfl
 | none :: r, _ :: q, h => by rw [List.length_cons, List.length_cons, dh (ix := r) h]
 | some j :: r, x :: q, h => by
  have h := (Bool.and_eq_true_iff.mp h).imp_left Bool.and_eq_true_iff.mp
  rw [List.length_cons, List.length_cons, dh h.2]
 | [], _ :: _, h => by cases h
 | none :: _, [], h => by cases h
 | some _ :: _, [], h => by cases h
theorem gr {scope} : ∀ {ix} {N'} {i j : Nat}, fP N scope ix N' = true → ix[i]? = some (some j) → ∃ x, N'[i]? = some x ∧ N[j]? = some x ∧ scope.names.lookup x = some .free
 | [], [], _, _, _, e => by simp at e
 | none :: r, _ :: q, 0, _, h, e => by simp at e
 | none :: r, _ :: q, i + 1, j, h, e => by
  obtain ⟨x, a, b⟩ := gr (ix := r) h (by simpa using e)
  grind
 | some k :: r, x :: q, 0, j, h, e => by
  have h := (Bool.and_eq_true_iff.mp h).imp_left Bool.and_eq_true_iff.mp
  grind
 | some k :: r, x :: q, i + 1, j, h, e => by
  have h := (Bool.and_eq_true_iff.mp h).imp_left Bool.and_eq_true_iff.mp
  obtain ⟨y, a, b⟩ := gr h.2 (by simpa using e)
  grind
 | [], _ :: _, _, _, h, _ => by cases h
 | none :: _, [], _, _, h, _ => by cases h
 | some _ :: _, [], _, _, h, _ => by cases h
theorem vV {i : Nat} {v} (h : (bV ix σ)[i]? = some (some v)) : ∃ j, ix[i]? = some (some j) ∧ σ[j]? = some (some v) := by
 unfold bV at h
 rw [List.getElem?_map] at h
 cases e : ix[i]? with
 | none => rw [e] at h; cases h
 | some o =>
  rw [e] at h
  cases o with
  | none => cases h
  | some j =>
   have h' : σ[j]?.getD _ = some v := Option.some.inj h
   cases q : σ[j]? with
   | none => rw [q] at h'; cases h'
   | some z => simp_all
theorem lX (ix : List _) (σ : St) : (bV ix σ).length = ix.length := by unfold bV; rw [List.length_map]
theorem kh (h : scope.names.lookup x = some .free) : (relabel scope env).names.lookup x = some .cell ∨ (relabel scope env).names.lookup x = some .free := by
 unfold relabel
 dsimp only
 revert h
 generalize scope.names = l
 intro h
 induction l with
 | nil => cases h
 | cons p r ih =>
  obtain ⟨n, k⟩ := p
  rw [List.map_cons]
  cases hx : x == n with
  | true =>
   split
   · left; simp [List.lookup_cons, hx]
   simp_all
  | false =>
   simp only [List.lookup_cons, hx] at h
   split
   · simp only [List.lookup_cons, hx]; exact ih h
   · simp only [List.lookup_cons, hx]; exact ih h
theorem lg (hn : ∀ y ∈ scope.names, y.2 ≠ .cell) (h : (relabel scope env).names.lookup x = some .cell ∨ (relabel scope env).names.lookup x = some .free) : (x, NameKind.free) ∈ scope.names := by
 have key : ∀ k, k = NameKind.cell ∨ k = NameKind.free → (x, k) ∈ (relabel scope env).names → (x, NameKind.free) ∈ scope.names := by
  intro k hk hm
  obtain ⟨⟨n, k'⟩, hy, e⟩ := List.mem_map.mp hm
  dsimp only at e
  split at e
  · grind
  · cases e
    rcases hk with z | z
    · exact absurd z (hn _ hy)
    simp_all
 rcases h with h | h
 · exact key _ (.inl rfl) (PySem.mem_of_lookup h)
 · exact key _ (.inr rfl) (PySem.mem_of_lookup h)
section
variable {X : Cx} {pins : List (Addr × Obj)} {σ : St} {H H' : Hp} {s : Shared}
theorem Inv.off (I : Inv X pins σ H s) {b} (f : bA X pins H b) : b ∉ oC X.stack := fun hb => by
 rcases List.mem_cons.mp (I.stkSub b hb) with e | e
 · exact f.2.1 e
 · exact f.2.2.1 e
theorem ci {osc scope : Scope} {N N' : List Str} {ix : List (Option Nat)} (h : aZ osc N scope N' ix = true) : scope.kind = .function ∧ (∀ y ∈ scope.names, fW osc scope y = true) ∧ ∀ y ∈ scope.names, y.2 ≠ .cell := by
 unfold aZ at h
 simp only [Bool.and_eq_true] at h
 refine ⟨by simpa using h.1.1, List.all_eq_true.mp h.1.2, fun y hy z => ?_⟩
 have := List.all_eq_true.mp h.1.2 y hy
 unfold fW at this
 rw [z] at this
 cases this
theorem lH (I : Inv X pins σ H s) {scope : Scope} {N' : List Str} {ix : List (Option Nat)} {cl : List (Str × Addr)} {h' : Heap} {i : Nat} {x : Str} {v : V} (hok : aZ X.env.scope X.N scope N' ix = true)
 (hc1 : ∀ x c, cl.lookup x = some c → X.env.cells.lookup x = some c) (hc2 : ∀ x, (x, NameKind.free) ∈ scope.names → (cl.lookup x).isSome = true) (old : ∀ b o, s.heap.get? b = some o → h'.get? b = some o) (e1 : N'[i]? = some x) (e2 : (bV ix σ)[i]? = some (some v)) :
 ∃ u, RelV v u ∧ scope.names.lookup x = some .free ∧ ∃ c, cl.lookup x = some c ∧ h'.IsCell c u := by
 have hall := (ci hok).2.1
 have hsl : fP X.N scope ix N' = true := by
  unfold aZ at hok
  simp only [Bool.and_eq_true] at hok
  exact hok.2
 obtain ⟨j, hj, hv⟩ := vV e2
 obtain ⟨y, a, b, hf⟩ := gr hsl hj
 rw [a] at e1
 have e1 : y = x := Option.some.inj e1
 subst e1
 have hmem : (y, NameKind.free) ∈ scope.names := PySem.mem_of_lookup hf
 have ho := hall _ hmem
 simp only [fW, Bool.or_eq_true] at ho
 have Bs : yO X.env.scope y := by
  rcases ho with z | z
  · exact .inr (.inl (by simpa using z))
  · exact .inr (.inr (by simpa using z))
 obtain ⟨m, hn, hl⟩ := I.loc
 obtain ⟨u, r, l⟩ := hl j y v b hv Bs
 obtain ⟨c, hc⟩ := Option.isSome_iff_exists.mp (hc2 y hmem)
 refine ⟨u, r, hf, c, hc, ?_⟩
 rcases l with ⟨kl, _⟩ | ⟨_, c', e', z⟩
 · exfalso
   have kl' : X.env.scope.names.lookup y = some .local := kl
   rw [kl'] at ho
   rcases ho with z | z
   · exact absurd z (by decide)
   · exact absurd z (by decide)
 · rw [hc1 y c hc] at e'
   cases e'
   obtain ⟨o, ho', hd⟩ := z
   exact ⟨o, old _ o ho', hd⟩
theorem sA (I : Inv X pins σ H s) {scope : Scope} {N' : List Str} {ix : List (Option Nat)} {cl : List (Str × Addr)} {ex : List Addr} {h' : Heap} {tk : Nat} (hok : aZ X.env.scope X.N scope N' ix = true)
 (hc1 : ∀ x c, cl.lookup x = some c → X.env.cells.lookup x = some c) (hc2 : ∀ x, (x, NameKind.free) ∈ scope.names → (cl.lookup x).isSome = true) (hex : ∀ b ∈ ex, bA X pins H b ∧ b < s.heap.objs.size)
 {mC : Str → Option Value} (hns : h'.Ns s.heap.objs.size mC) (old : ∀ b o, s.heap.get? b = some o → h'.get? b = some o) :
 Inv (bj X N' scope cl s.heap.objs.size ex s H) [] (bV ix σ) H { s with heap := h', toks := tk } := by
 obtain ⟨hk, _, nocell⟩ := ci hok
 refine ⟨⟨I.ok.mod, hk, I.ok.glob, I.ok.blt, Nat.le_refl _, fun x y c e1 e2 => I.ok.inj x y c (hc1 x c e1) (hc1 y c e2), fun x hx => ?_, fun x c z => (nomatch z), I.ok.hd, I.ok.frames, .inl rfl, fun b hb => ?_, I.bs, Nat.le_trans I.ok.bsz I.sz, fun b o e hb => ?_, fun b hb => I.off (hex b hb).1, I.stack, I.stkFree⟩,
  ⟨rfl, Nat.le_refl _⟩, I.bare, Un.kept old, ⟨_, hns, fun i x v e1 e2 e3 => ?_⟩, fun x c e => ?_, I.hok.fresh (Nat.le_refl _), fun x c e => I.freeC x c (hc1 x c e), fun p hp => (nomatch hp), I.hok.kept old, ?_⟩
 · have := hc2 x (lg (env := X.env) nocell hx)
   exact Option.isSome_iff_exists.mp this
 · exact ⟨Nat.ne_of_lt (hex b hb).2, fun x c e => (hex b hb).1.2.2.2.2.1 x c (hc1 x c e)⟩
 · rcases (hex b hb).1.2.2.2.1 with z | z
   · exact I.ok.noex b o e z
   · exact absurd (Nat.lt_of_lt_of_le (Nat.lt_of_lt_of_le (Heap.lt_size e) I.ok.bsz) z) (Nat.lt_irrefl _)
 · obtain ⟨u, r, hf, c, hc, z⟩ := lH I hok hc1 hc2 old e1 e2
   exact ⟨u, r, .inr ⟨kh hf, c, hc, z⟩⟩
 · obtain ⟨v, o, ho', hd⟩ := I.cell x c (hc1 x c e)
   exact ⟨v, o, old _ o ho', hd⟩
 · unfold aZ at hok
   rw [lX]
   exact dh (Bool.and_eq_true_iff.mp hok).2
theorem Inv.track (I : Inv X pins σ H s) {D} {o} (f : bA X pins H D) (new : bv X.prog X.w (bq H D o) s.heap D o) : Inv X pins σ (bq H D o) s := by
 obtain ⟨f0, f1, f2, f3, f4, f5⟩ := f
 have ne : ∀ b u, H b = some u → b ≠ D := fun b u e z => by grind
 refine I.step (ch := [D]) (fun b hb => ?_) (fun b o _ _ _ e _ => e) (fun b o _ _ _ e _ => ⟨_, e⟩) (fun b u hc _ n => ?_)
  (fun b o _ e => ⟨o, e⟩) (fun b xs e => by rw [az (ne _ _ e)]; exact e) (fun b u xs e => by rw [az (ne _ _ e)]; exact e) (fun b ps e => ⟨#[], by rw [az (ne _ _ e), e]; simp⟩) (fun m hm => hm) (fun b u e => ?_) I.bare (Nat.le_refl _)
 · have e := by simpa using hb
   subst e
   exact ⟨f3, f1, f4, f5⟩
 · rw [az (by simpa using hc)]; exact n
 · by_cases hb : b = D
   · subst hb
     rw [bD] at e
     cases e
     exact new
   · rw [az hb] at e
     refine (I.hok b u e).stay (fun c v hc q => q) fun c q => ?_
     rw [az (ne _ _ q)]; exact q
end
def Sub (σ σ' : St) : Prop := σ'.length = σ.length ∧ ∀ (i : Nat) v, σ[i]? = some (some v) → σ'[i]? = some (some v)
theorem Sub.set (h : σ[i]? = some none) : Sub σ (σ.set i v) := ⟨by rw [List.length_set], fun j u e => by
 have hj : i ≠ j := fun z => by grind
 simp_all⟩
theorem Sub.trans (a : Sub σ σ1) (b : Sub σ1 σ2) : Sub σ σ2 := ⟨b.1.trans a.1, fun i v e => b.2 i v (a.2 i v e)⟩
def jw {β : Type} (L S Z : β → Prop) (EM : St → Hp → β → (β → Hp → Prop) → Prop) (y0 : β) (J : It) (σc : St) (g : TG) (tt : TT) (Q : β → Hp → Prop) (H1 : Hp) : Prop :=
 ∃ W : Nat → Nat → β → Hp → Prop, (∃ m, W 0 m y0 H1) ∧ (∀ i m y H, W i m y H → L y) ∧ ∀ i m y H, W i m y H →
  (J.stop i H ∧ S y ∧ Q y H) ∨
  (J.go i H ∧ Z y ∧ ∃ N : β → Hp → Prop, (∀ y' H', N y' H' → ∃ m', m' < m ∧ W (i + 1) m' y' H') ∧ ∀ x H2, J.yld i H x H2 → g x σc H2 fun σ2 H3 => Sub σc σ2 ∧ tt σ2 H3 fun ok H4 =>
   if ok = true then EM σ2 H4 y N else N y H4)
def GU (te : TE) (σ2 : St) (H4 : Hp) (ys : List V) (N : List V → Hp → Prop) : Prop := te σ2 H4 fun y H5 => N (ys ++ [y]) H5
def uA (J : It) (σc : St) (g : TG) (tt : TT) (te : TE) (Q : List V → Hp → Prop) (H1 : Hp) : Prop :=
 jw (fun _ => True) (fun ys => ys.length ≤ sizeLine) (fun ys => ys.length < sizeLine) (GU te) [] J σc g tt Q H1
def lv (ix : List (Option Nat)) (wi : TI) (g : TG) (tt : TT) (te : TE) : TE := fun σ H Q => wi σ H fun J H1 =>
 uA J (bV ix σ) g tt te (fun ys H' => ∀ p, H' p = none → Q (.ref p) (bq H' p (.lst ys))) H1
def Gp (c : Code) (iter target : Expr) (ifs : List Expr) (it : Value) (env : Env) (em : Sem Unit) : Sem Fin := do
 standAt iter.pos
 match ← pyNext it with
 | none => pure (.done .next)
 | some v =>
  letOwnedTupleGo target it v
  assign target env v
  let mut ok := true
  for c in ifs do
   if ok then ok ← isTrue c env (eval c env)
  if ok then em
  again c
structure Cd (P : Program) (w : World) (A : Around) (e : Expr) (d : Nat) (iter target : Expr) (ifs : List Expr) (em : Value → Env → Sem Unit) : Prop where
 q : ∀ it acc env, (Code.compLoop e d it acc env).quiet = true
 u : ∀ it acc env, A.under (.compLoop e d it acc env) = A
 den : ∀ it acc env, (model P w).den (.compLoop e d it acc env) = (Gp (.compLoop e d it acc env) iter target ifs it env (em acc env)).onRaise fun x => do noteFrame x env; theTreesLotGoes x
 us : ∀ it acc env, A.under (.compStart e d it acc env) = A
 dens : ∀ it acc env, (model P w).den (.compStart e d it acc env) = (compStart e d it acc env).onRaise fun x => do noteFrame x env; standAt theWindowsPlace
 cl : (clausesOf e)[d]? = some ⟨target, iter, ifs, 0⟩
theorem oh {prog : Program} {w : World} {A : Around} {R : Result → Shared → Prop} {s : Shared} {e : Expr} {d : Nat} {iter target : Expr} {ifs : List Expr} {it acc : Value} {env : Env} {em : Value → Env → Sem Unit} (hd : Cd prog w A e d iter target ifs em) (I : Nat → Shared → Prop)
 (turn : ∀ n s, I n s → wpAny (model prog w) A (pyNext it) (fun r s₁ => match r with
  | none => R (.ok .next) s₁
  | some v => wpAny (model prog w) A (letOwnedTupleGo target it v) (fun _ s₁' => wpAny (model prog w) A (assign target env v) (fun _ s₂ =>
   wpAny (model prog w) A (forIn ifs true fun c r => if r = true then do let ok ← isTrue c env (eval c env); pure (ForInStep.yield ok) else pure (ForInStep.yield r)) (fun ok s₃ =>
    if ok = true then wpAny (model prog w) A (em acc env) (fun _ s₅ => ∃ m, m < n ∧ I m s₅) (fun _ _ => False) s₃
    else ∃ m, m < n ∧ I m s₃) (fun _ _ => False) s₂) (fun _ _ => False) s₁') (fun _ _ => False) s₁) (fun _ _ => False) s)
 (n : Nat) (h : I n s) : codeAny (model prog w) A (.compLoop e d it acc env) R s := by
 refine codeAny_loop (hd.q _ _ _) I (fun n s hI => ?_) n h
 rw [hd.u, hd.den]
 refine wpAny_noted ?_
 refine wpAny_bind (wpAny_standAt (wpAny_bind (wpAny_mono (turn n s hI) (fun r s₁ h₁ => ?_) fun _ _ h' => h'.elim)))
 cases r with
 | none => exact wpAny_pure h₁
 | some v =>
  refine wpAny_bind (wpAny_mono h₁ (fun _ s₁' h₁' => ?_) fun _ _ h' => h'.elim)
  refine wpAny_bind (wpAny_mono h₁' (fun _ s₂ h₂ => wpAny_bind (wpAny_mono h₂ (fun ok s₃ h₃ => ?_) fun _ _ h' => h'.elim)) fun _ _ h' => h'.elim)
  cases ok with
  | false => exact wpAny_pure ⟨rfl, h₃⟩
  | true => exact wpAny_bind (wpAny_mono h₃ (fun _ s₅ h₅ => wpAny_pure ⟨rfl, h₅⟩) fun _ _ h' => h'.elim)
theorem vU {A} {R} {s} {e} {d} {iter target} {ifs} {it acc} {env} {em} (hd : Cd prog w A e d iter target ifs em)
 (h0 : codeAny (model prog w) A (.compLoop e d it acc env) R s) (h : wpAny (model prog w) A (pyIter it) (fun it' s' => codeAny (model prog w) A (.compLoop e d it' acc env) R s') (fun _ _ => False) s) :
 codeAny (model prog w) A (.compStart e d it acc env) R s := by
 refine codeAny_of_tree ?_
 rw [hd.us, hd.dens]
 refine wpAny_notedAt ?_
 unfold compStart
 rw [hd.cl]
 refine wpAny_bind (wpAny_askSetting (wpAny_ite ?_))
 have st := fun it' s' (h' : codeAny (model prog w) A (.compLoop e d it' acc env) R s') => And.intro (hd.q it' acc env) h'
 split
 · exact wpAny_bind (wpAny_pure (wpAny_pure (st _ _ h0)))
 · refine wpAny_bind (wpAny_rule ?_)
   exact wpAny_bind (wpAny_standAt (wpAny_bind (wpAny_mono h (fun it' s' h' => wpAny_pure (st _ _ h')) fun _ _ x => x.elim)))
def xb {β : Type} (Xc : Cx) (σc : St) (OB : β → Obj → Prop) (Z : β → Prop) (EM : St → Hp → β → (β → Hp → Prop) → Prop) (em : Value → Env → Sem Unit) : Prop :=
 ∀ {D : Addr} {pins : List (Addr × Obj)} {σ : St} {H : Hp} {s : Shared} {y : β} {ob : Obj} {N : β → Hp → Prop}, Sub σc σ → Inv Xc ((D, ob) :: pins) σ H s → (∀ {H' : Hp}, H' D = none → bA Xc pins H' D) → OB y ob → Z y → EM σ H y N →
  wpAny (model Xc.prog Xc.w) Xc.A (em (.ref D) Xc.env) (fun _ s' => ∃ H' y' ob', Inv Xc pins σc H' s' ∧ H' D = none ∧ s'.heap.get? D = some ob' ∧ OB y' ob' ∧ N y' H') (fun _ _ => False) s
theorem Inv.sub {σ σ' : St} {H} {s} (I : Inv X pins σ' H s) (h : Sub σ σ') (hp : ∀ p ∈ pins', p ∈ pins) : Inv X pins' σ H s :=
 (I.weak h.1.symm h.2).pins_of fun p q => I.pin p (List.mem_append_right _ (hp p q))
theorem Sub.refl (σ) : Sub σ σ := ⟨rfl, fun _ _ e => e⟩
theorem Az {β : Type} {OB : β → Obj → Prop} {Xc : Cx} {pins : List (Addr × Obj)} {D : Addr} {s2 : Shared} {σ : St} {H2 : Hp} {e : Expr} {d : Nat} {iter target : Expr} {ifs : List Expr} {em : Value → Env → Sem Unit} {g : TG} {tt : TT} {it : Addr} {fp : List Addr} {tn : Nat → Heap → Prop} {J : It} {L S Z : β → Prop} {EM : St → Hp → β → (β → Hp → Prop) → Prop} {Q : β → Hp → Prop} {R : Result → Shared → Prop} {y0 : β} {o0 : Obj}
 (hd : Cd Xc.prog Xc.w Xc.A e d iter target ifs em) (hc : Xc.calm = true) (hx : Xc.xe = fun _ _ => False) (hg : PG Xc target g) (hf : PF Xc ifs tt) (hO : ∀ y ob, OB y ob → ∀ v, ob.data ≠ .cell v) (fD : ∀ {H' : Hp}, H' D = none → bA Xc pins H' D)
 (I : Inv Xc ((D, o0) :: pins) σ H2 s2) (o : OB y0 o0) (T : jg Xc.prog Xc.w Xc.K target J fp it tn) (st2 : tn 0 s2.heap) (f2 : ∀ b ∈ fp, bA Xc ((D, o0) :: pins) H2 b) (hw : jw L S Z EM y0 J σ g tt Q H2) (emit : xb Xc σ OB Z EM em)
 (da : ∀ {H' : Hp} {s' : Shared} {y : β} {ob : Obj}, Inv Xc pins σ H' s' → H' D = none → s'.heap.get? D = some ob → OB y ob → S y → Q y H' → R (.ok .next) s') :
 codeAny (model Xc.prog Xc.w) Xc.A (.compStart e d (.ref it) (.ref D) Xc.env) R s2 := by
 obtain ⟨W, ⟨m0, w0⟩, _, turn⟩ := hw
 have mem0 : ∀ {ob : Obj}, (D, ob) ∈ Xc.pn ++ (D, ob) :: pins := List.mem_append_right _ List.mem_cons_self
 have pD2 := I.pin (D, o0) mem0
 have dr := (fD (H' := fun _ => none) rfl).2
 have stat : ∀ {H' : Hp} {ob : Obj}, (∀ b ∈ fp, H' b = none) → ∀ b ∈ fp, bA Xc ((D, ob) :: pins) H' b := fun {H' ob} hn b hb => by
  obtain ⟨_, a1, a2, a3, a4, a5⟩ := f2 b hb
  refine ⟨hn b hb, a1, a2, a3, a4, fun p hp z => ?_⟩
  rcases List.mem_append.mp hp with hp | hp
  · exact a5 p (List.mem_append_left _ hp) z
  · rcases List.mem_cons.mp hp with hp | hp
    · rw [hp] at z
      exact a5 _ mem0 z
    · exact a5 p (List.mem_append_right _ (List.mem_cons_of_mem _ hp)) z
 have hDf : D ∉ fp := fun hm => (f2 D hm).2.2.2.2.2 _ mem0 rfl
 have loop : codeAny (model Xc.prog Xc.w) Xc.A (.compLoop e d (.ref it) (.ref D) Xc.env) R s2 := by
  refine oh hd (fun n s' => ∃ i y ob H', Inv Xc pins σ H' s' ∧ tn i s'.heap ∧ (∀ b ∈ fp, H' b = none) ∧ H' D = none ∧ s'.heap.get? D = some ob ∧ OB y ob ∧ W i n y H') ?_ m0
   ⟨0, y0, o0, H2, I.sub (.refl _) fun _ h => List.mem_cons_of_mem _ h, st2, fun b hb => (f2 b hb).1, pD2.2.1, pD2.1, o, w0⟩
  rintro n s5 ⟨i, y, ob, H5, I5, st5, fr5, d5, o5, v5, w5⟩
  have I5p : Inv Xc ((D, ob) :: pins) σ H5 s5 := I5.pins_of fun p hp => by
   rcases List.mem_cons.mp hp with hp | hp
   · subst hp
     exact ⟨o5, d5, dr.1, dr.2.1, hO _ _ v5⟩
   · exact I5.pin p (List.mem_append_right _ hp)
  rcases turn i n y H5 w5 with ⟨stop, hS, q⟩ | ⟨go, hZ, N, hN, step⟩
  · refine aU (T.done Xc rfl rfl rfl hc i _ s5 σ H5 (fun _ _ => False) I5p (stat fr5) st5 stop) fun r s6 ⟨hr, I6⟩ => ?_
    subst hr
    have p6 := I6.pin (D, ob) mem0
    exact da (I6.sub (.refl _) fun _ h => List.mem_cons_of_mem _ h) p6.2.1 p6.1 v5 hS q
  · refine aU (T.item Xc rfl rfl rfl hc i _ s5 σ H5 (fun _ _ => False) I5p (stat fr5) st5 go) fun r s6 ⟨u, hr, h6⟩ => ?_
    subst hr
    dsimp only
    refine aU h6 fun _ s7 ⟨x, H7, I7, r7, y7, st7, fr7⟩ => ?_
    have I7' := I7.pinned (stat fr7) (T.obj _ _ st7)
    have g7 := hg _ s7 σ H7 x u _ I7' r7 (step x H7 y7)
    rw [hx] at g7
    refine aU g7 fun _ s8 ⟨σ8, H8, I8, sub8, q8⟩ => ?_
    have t8 := hf _ s8 σ8 H8 _ I8 q8
    rw [hx] at t8
    refine aU t8 fun ok s9 ⟨H9, I9, q9⟩ => ?_
    have back : ∀ {H' : Hp} {s' : Shared}, Inv Xc (pins ++ ez fp s7.heap) σ H' s' → Inv Xc pins σ H' s' ∧ tn (i + 1) s'.heap ∧ ∀ b ∈ fp, H' b = none := fun {H' s'} K => by
     refine ⟨K.sub (.refl _) fun _ h => List.mem_append_left _ h, T.keep _ _ _ st7 fun b hb o e => (K.pin (b, o) (List.mem_append_right _ (List.mem_append_right _ (bL hb e)))).1, fun b hb => ?_⟩
     obtain ⟨o, e, d⟩ := T.obj _ _ st7 b hb
     exact (K.pin (b, o) (List.mem_append_right _ (List.mem_append_right _ (bL hb e)))).2.1
    cases ok with
    | false =>
     obtain ⟨m', hm, w9⟩ := hN _ _ q9
     obtain ⟨b1, b2, b3⟩ := back (I9.sub sub8 fun _ h => List.mem_cons_of_mem _ h)
     have pD := I9.pin (D, ob) (List.mem_append_right _ List.mem_cons_self)
     exact ⟨m', hm, i + 1, y, ob, H9, b1, b2, b3, pD.2.1, pD.1, v5, w9⟩
    | true =>
     refine aU (emit (pins := pins ++ ez fp s7.heap) sub8 I9 (fun {H'} hn => ?_) v5 hZ q9) fun _ s10 ⟨H', y', ob', K, hD', oD', v', q'⟩ => ?_
     · obtain ⟨a0, a1, a2, a3, a4, a5⟩ := fD hn
       refine ⟨a0, a1, a2, a3, a4, fun p hp z => ?_⟩
       rcases List.mem_append.mp hp with hp | hp
       · exact a5 p (List.mem_append_left _ hp) z
       · rcases List.mem_append.mp hp with hp | hp
         · exact a5 p (List.mem_append_right _ hp) z
         · exact hDf (by rw [← z]; exact (jC hp).1)
     · obtain ⟨m', hm, w'⟩ := hN _ _ q'
       obtain ⟨b1, b2, b3⟩ := back K
       exact ⟨m', hm, i + 1, y', ob', H', b1, b2, b3, hD', oD', v', w'⟩
 exact vU hd loop (T.self Xc.A 0 _ _ _ st2 loop)
def JP (ys : List V) (ob : Obj) : Prop := ∃ its k, al ys its ∧ ob = { cls := .type "list", data := .seq its.toArray k }
theorem jF {elt} {te} (he : PE Xc elt te) (hx : Xc.xe = fun _ _ => False) : xb Xc σc JP (fun ys => ys.length < sizeLine) (GU te) fun acc env => (do let _ ← call (.builtin "list.append") [acc, ← eval elt env]) := by
 intro D pins σ H s y ob N hs I fD o hz h
 obtain ⟨its, k, v, rfl⟩ := o
 have e9 := he _ s σ H _ I h
 rw [hx] at e9
 refine wpAny_bind (aU e9 fun u s1 ⟨z, H1, I1, r1, q1⟩ => wpAny_bind ?_)
 obtain ⟨p1, p2, _⟩ := I1.pin _ (List.mem_append_right _ List.mem_cons_self)
 have vl := v.length
 refine append_at p1 (fun h' hs' ho' => wpAny_pure ⟨H1, _, _, ?_, p2, ho', ⟨_, _, v.append (.cons r1 .nil), by rw [List.push_toArray]⟩, q1⟩) (by rw [List.size_toArray]; omega)
 have f := fD p2
 exact (I1.sub hs fun _ h => List.mem_cons_of_mem _ h).turned (fun b o hb e => (hs'.2 b hb).trans e) p2 f.2.1 f.2.2.2.1 f.2.2.2.2.1 f.2.2.2.2.2
section
variable {X : Cx}
theorem fI.but {h h'} {C} (ok : fI P w H h) (hC : H C = none) (hs : Heap.SameBut C h h') : fI P w H h' := fun b ob e => by
 refine (ok b ob e).stay (fun c w' hc q => (hs.2 c ?_).trans q) fun _ q => q
 grind
theorem Un.but {C : Addr} (u : Un fs ex H H1 h h1) (hC : h.objs.size ≤ C) (hs : Heap.SameBut C h1 h2) : Un fs ex H H1 h h2 := by
 have ne : ∀ b o, h.get? b = some o → b ≠ C := fun b o e z => by
  subst z
  exact absurd (Nat.lt_of_lt_of_le (Heap.lt_size e) hC) (Nat.lt_irrefl _)
 refine ⟨fun b o e n a c => (hs.2 b (ne b o e)).trans (u.keep b o e n a c), fun b o e n a c => ?_, u.free, fun b o e c => ?_, u.tups, u.frzs, u.tbls⟩
 · obtain ⟨sl, q⟩ := u.slot b o e n a c
   exact ⟨sl, (hs.2 b (ne b o e)).trans q⟩
 · obtain ⟨o', q⟩ := u.there b o e c
   exact ⟨o', (hs.2 b (ne b o e)).trans q⟩
structure IJ (X : Cx) {β : Type} (OB : β → Obj → Prop) (S : β → Prop) (ho : β → HO) (y0 : β) (mk : Sem Value) : Prop where
 cell : ∀ y o, OB y o → ∀ v, o.data ≠ .cell v
 fr : ∀ y o, OB y o → o.isFreed = false
 ok : ∀ {H h a y o}, OB y o → S y → h.get? a = some o → bv X.prog X.w H h a (ho y)
 new : ∀ {s : Shared} {Q E : Value → Shared → Prop}, (∀ o, OB y0 o → Q (.ref s.heap.objs.size) { s with heap := s.heap.push o }) → wpAny (model X.prog X.w) X.A mk Q E s
theorem i9 {β : Type} {OB : β → Obj → Prop} {L S Z : β → Prop} {ho : β → HO} {y0 : β} {mk : Sem Value} {EM : St → Hp → β → (β → Hp → Prop) → Prop} {em : Value → Env → Sem Unit} {pins : List (Addr × Obj)} {s2 : Shared} {σ : St} {H2 : Hp} {e target iter : Expr} {ifs : List Expr} {scope : Scope} {N' : List Str} {ix : List (Option Nat)} {cl : List (Str × Addr)} {g : TG} {tt : TT} {it : Addr} {fp : List Addr} {tn : Nat → Heap → Prop} {J : It} {Q : β → Hp → Prop}
 {RR : Value → Addr → Result → Shared → Prop} {E : Value → Shared → Prop}
 (hG : IJ X OB S ho y0 mk) (hd : Cd X.prog X.w X.A e 0 iter target ifs em) (hc : X.calm = true) (hg : ∀ cl C ex s H, PG (bj X N' scope cl C ex s H) target g) (hf : ∀ cl C ex s H, PF (bj X N' scope cl C ex s H) ifs tt) (he : ∀ cl C ex s H, xb (bj X N' scope cl C ex s H) (bV ix σ) OB Z EM em)
 (hok : aZ X.env.scope X.N scope N' ix = true) (hc1 : ∀ x c, cl.lookup x = some c → X.env.cells.lookup x = some c) (hc2 : ∀ x, (x, NameKind.free) ∈ scope.names → (cl.lookup x).isSome = true)
 (I2 : Inv X pins σ H2 s2) (T : jg X.prog X.w X.K target J fp it tn) (st2 : tn 0 s2.heap) (f2 : ∀ b ∈ fp, bA X pins H2 b) (hw : jw L S Z EM y0 J (bV ix σ) g tt Q H2)
 (hRR : ∀ (D C : Addr) (s' : Shared) (H' : Hp) (y : β) (m : Str → Option Value), s'.heap.Ns C m → bA X pins H' C → C ≠ D → H' D = none → (∀ h', Heap.SameBut C s'.heap h' → Inv X pins σ (bq H' D (ho y)) { s' with heap := h' }) → Q y H' → RR (.ref D) C (.ok .next) s') :
 wpAny (model X.prog X.w) X.A mk (fun acc s₃ => wpAny (model X.prog X.w) X.A (newFunctionEnv scope X.env.globals cl [] X.env.qual none .none (some X.env)) (fun cenv s₄ =>
  codeAny (model X.prog X.w) X.A (.compStart e 0 (.ref it) acc { cenv with scope := relabel scope X.env }) (RR acc cenv.locals) s₄) E s₃) E s2 := by
 obtain ⟨hk, _, hcell⟩ := ci hok
 refine hG.new fun o0 ob0 => wpAny_newFunctionEnv hcell (by intro y hy; simp at hy) (fun h₁ hns₁ hsb₁ => ?_) hk
 dsimp only at hns₁ hsb₁ ⊢
 have fpLt : ∀ b ∈ fp, b < s2.heap.objs.size := fun b hb => by
  obtain ⟨o, e, _⟩ := T.obj _ _ st2 b hb
  exact Heap.lt_size e
 have hDf : s2.heap.objs.size ∉ fp := fun hm => Nat.lt_irrefl _ (fpLt _ hm)
 generalize hH3 : s2.heap.push o0 = H3 at hns₁ hsb₁ ⊢
 have hC : H3.objs.size = s2.heap.objs.size + 1 := by rw [← hH3, Heap.size_push]
 have old3 : ∀ b o, s2.heap.get? b = some o → H3.get? b = some o := fun b o e => by rw [← hH3]; exact Heap.get?_push_of_some _ e
 have old1 : ∀ b o, H3.get? b = some o → h₁.get? b = some o := fun b o e => hsb₁.extBut b o (Nat.ne_of_lt (Heap.lt_size e)) (Heap.get?_push_of_some _ e)
 have accD : H3.get? s2.heap.objs.size = some o0 := by rw [← hH3]; exact Heap.get?_push_size _ (hG.fr _ _ ob0)
 have I3 : Inv X pins σ H2 { s2 with heap := H3 } := I2.kept (t' := s2.toks) old3
 have fD : bA X pins H2 s2.heap.objs.size := I2.fpOk (Nat.le_refl _) (I2.hok.fresh (Nat.le_refl _))
 have hex : ∀ b ∈ s2.heap.objs.size :: fp, bA X pins H2 b ∧ b < ({ s2 with heap := H3 } : Shared).heap.objs.size := fun b hb => by
  show _ ∧ b < H3.objs.size
  rcases List.mem_cons.mp hb with z | z
  · rw [z]; exact ⟨fD, by rw [hC]; exact Nat.lt_succ_self _⟩
  · exact ⟨f2 b z, by rw [hC]; exact Nat.lt_succ_of_lt (fpLt b z)⟩
 have I4 := sA I3 (tk := s2.toks + ([] : List (Str × Value)).length) hok hc1 hc2 hex hns₁ old1
 have own : ∀ {H' : Hp} {b : Addr}, b ∈ s2.heap.objs.size :: fp → H' b = none → bA (bj X N' scope cl H3.objs.size (s2.heap.objs.size :: fp) { s2 with heap := H3 } H2) [] H' b := fun {H' b} hb hn => by
  have f := (hex b hb).1
  exact ⟨hn, Nat.ne_of_lt (hex b hb).2, I2.off f, .inl hb, fun x c e => f.2.2.2.2.1 x c (hc1 x c e), fun p hp => nomatch hp⟩
 refine Az (Xc := bj X N' scope cl H3.objs.size (s2.heap.objs.size :: fp) { s2 with heap := H3 } H2) (pins := []) hd hc rfl (hg _ _ _ _ _) (hf _ _ _ _ _) hG.cell (fun hn => own List.mem_cons_self hn)
  (I4.pins_of fun p hp => ?_) ob0 T (T.keep _ _ _ st2 fun b hb o e => old1 b o (old3 b o e)) (fun b hb => ?_) hw (he _ _ _ _ _) fun {H' s' y ob} I6 d6 o6 v6 hS q => ?_
 · cases List.mem_singleton.mp hp
   exact ⟨old1 _ _ accD, fD.1, Nat.ne_of_lt (hex _ List.mem_cons_self).2, I2.off fD, hG.cell _ _ ob0⟩
 · obtain ⟨a0, a1, a2, a3, a4, a5⟩ := own (H' := H2) (List.mem_cons_of_mem _ hb) (f2 b hb).1
   refine ⟨a0, a1, a2, a3, a4, fun p hp z => ?_⟩
   cases List.mem_singleton.mp hp
   exact hDf (by rw [show s2.heap.objs.size = b from z]; exact hb)
 · obtain ⟨mC, hnC, _⟩ := I6.loc
   have fC : bA X pins H' H3.objs.size := ⟨I6.free, (I3.fpOk (Nat.le_refl _) (I3.hok.fresh (Nat.le_refl _))).2⟩
   refine hRR _ _ s' H' y mC hnC fC (by rw [hC]; exact Nat.ne_of_gt (Nat.lt_succ_self _)) d6 (fun h' hs' => ?_) q
   have J : Inv X pins σ H' { s' with heap := h' } := I3.call' (s' := { s' with heap := h' }) (ch := s2.heap.objs.size :: fp) I6.os (Un.but I6.base (Nat.le_refl _) hs') (fI.but I6.hok fC.1 hs') I6.bare
    (fun b hb => by
     have f := (hex b hb).1
     exact ⟨f.2.2.2.1, f.2.1, f.2.2.2.2.1, f.2.2.2.2.2⟩)
   exact J.track ⟨d6, fD.2⟩ (hG.ok v6 hS ((hs'.2 _ (by rw [hC]; exact Nat.ne_of_lt (Nat.lt_succ_self _))).trans o6))
theorem iq {pins : List (Addr × Obj)} {σ : St} {H : Hp} {s : Shared} {scope : Scope} {N' : List Str} {ix : List (Option Nat)} (I : Inv X pins σ H s) (hok : aZ X.env.scope X.N scope N' ix = true) :
 scope.kind = .function ∧ (∀ x ∈ scope.names, x.2 = .local → scope.names.lookup x.1 = some .local) ∧ ∃ cl, closureFor scope X.env = pure cl ∧ (∀ x c, cl.lookup x = some c → X.env.cells.lookup x = some c) ∧ ∀ x, (x, NameKind.free) ∈ scope.names → (cl.lookup x).isSome = true := by
 obtain ⟨hk, hall, _⟩ := ci hok
 refine ⟨hk, fun y hy z => ?_, nH fun y hy z => ?_⟩
 · have := hall y hy
   unfold fW at this
   rw [z] at this
   simpa using this
 · have := hall y hy
   unfold fW at this
   rw [z] at this
   simp only [Bool.or_eq_true] at this
   refine I.ok.has y.1 ?_
   rcases this with q | q
   · exact .inl (by simpa [Env.kindOf] using q)
   · exact .inr (by simpa [Env.kindOf] using q)
theorem my : IJ X JP (fun ys => ys.length ≤ sizeLine) .lst [] (newList []) :=
 ⟨fun y o ⟨_, _, _, e⟩ v z => (by rw [e] at z; cases z), fun y o ⟨_, _, _, e⟩ => by rw [e]; rfl, fun ⟨its, k, v, e⟩ hz h => ⟨hz, its, k, v, by rw [h, e]⟩, fun h => wpAny_newObj_type (h _ ⟨[], _, .nil, rfl⟩)⟩
theorem oV {ifs} {scope} {pos} : Cd X.prog X.w X.A (.ListComp elt [⟨target, iter, ifs, 0⟩] scope pos) 0 iter target ifs fun acc env => (do let _ ← call (.builtin "list.append") [acc, ← eval elt env]) :=
 ⟨fun _ _ _ => rfl, fun _ _ _ => rfl, fun _ _ _ => rfl, fun _ _ _ => rfl, fun _ _ _ => rfl, rfl⟩
theorem tJ {OB} {L S Z} {ho} {y0} {mk} {EM : St → St → Hp → β → (β → Hp → Prop) → Prop} {em} {e target iter} {ifs} {gs} {scope} {p} {N'} {ix} {wi} {g} {tt}
 (hG : IJ X OB S ho y0 mk) (hd : Cd X.prog X.w X.A e 0 iter target ifs em) (hev : eval e X.env = comprehension e scope X.env p mk false (eval iter X.env) none) (hcl : clausesOf e = ⟨target, iter, ifs, 0⟩ :: gs) (hc : X.calm = true) (hi : PI X target iter wi)
 (hg : ∀ cl C ex s H, PG (bj X N' scope cl C ex s H) target g) (hf : ∀ cl C ex s H, PF (bj X N' scope cl C ex s H) ifs tt) (he : ∀ σc cl C ex s H, xb (bj X N' scope cl C ex s H) σc OB Z (EM σc) em)
 (hok : aZ X.env.scope X.N scope N' ix = true) (hs : ∀ x, foldedSetIterable iter X.env x = pure x) : PE X e fun σ H Q => wi σ H fun J H1 => jw L S Z (EM (bV ix σ)) y0 J (bV ix σ) g tt (fun y H' => ∀ p, H' p = none → Q (.ref p) (bq H' p (ho y))) H1 := by
 intro pins s σ H Q I h
 obtain ⟨hk, hn, cl, hcl', hc1, hc2⟩ := iq I hok
 rw [hev]
 refine wpAny_comprehension_free hcl hs hcl' hk hn (aU (hi _ s σ H _ I h) fun v s1 h1 => aU h1 fun itv s2 h2 => ?_)
 obtain ⟨it, fp, tn, J, H2, e, I2, T, st2, f2, hw⟩ := h2
 subst e
 refine i9 hG hd hc hg hf (he _) hok hc1 hc2 I2 T st2 f2 hw ?_
 intro D C s' H' y m hn fC hCD hD hI hq
 exact ⟨m, hn, fun h' hs' => ⟨.ref D, _, hI h' hs', rfl, hq D hD⟩⟩
theorem pQ {elt target iter : Expr} {ifs : List Expr} {scope : Scope} {pos : Pos} {N' : List Str} {ix : List (Option Nat)} {wi : TI} {g : TG} {tt : TT} {te : TE} (hc : X.calm = true) (hi : PI X target iter wi)
 (hg : ∀ cl C ex s H, PG (bj X N' scope cl C ex s H) target g) (hf : ∀ cl C ex s H, PF (bj X N' scope cl C ex s H) ifs tt) (he : ∀ cl C ex s H, PE (bj X N' scope cl C ex s H) elt te)
 (hok : aZ X.env.scope X.N scope N' ix = true) (hs : ∀ x, foldedSetIterable iter X.env x = pure x := by intro _; rfl) : PE X (.ListComp elt [⟨target, iter, ifs, 0⟩] scope pos) (lv ix wi g tt te) :=
 tJ my oV (eval_ListComp ..) rfl hc hi hg hf (fun _ _ _ _ _ _ => jF (he _ _ _ _ _) rfl) hok hs
theorem ym {elt target iter : Expr} {ifs : List Expr} {scope : Scope} {pos spos py : Pos} {y : Str} {i : Nat} {N' : List Str} {ix : List (Option Nat)} {wi : TI} {g : TG} {tt : TT} {te : TE} (hN : X.N.Nodup) (hiy : X.N[i]? = some y) (hy : X.env.kindOf y = some .local) (hc : X.calm = true) (hi : PI X target iter wi)
 (hg : ∀ cl C ex s H, PG (bj X N' scope cl C ex s H) target g) (hf : ∀ cl C ex s H, PF (bj X N' scope cl C ex s H) ifs tt) (he : ∀ cl C ex s H, PE (bj X N' scope cl C ex s H) elt te)
 (hok : aZ X.env.scope X.N scope N' ix = true) (hsw : swapsWith (.ListComp elt [⟨target, iter, ifs, 0⟩] scope pos) (some (.Name y py)) spos.line X.env = pure true) (hs : ∀ x, foldedSetIterable iter X.env x = pure x := by intro _; rfl) :
 PS X (.Assign [.Name y py] (.ListComp elt [⟨target, iter, ifs, 0⟩] scope pos) spos) (xY (lv ix wi g tt te) (mQ i)) := by
 intro pins s σ H D0 I h
 obtain ⟨hk, hnm, cl, hcl, hc1, hc2⟩ := iq I hok
 rw [exec_Assign_Name_used _ _ _ _ hsw]
 refine wpAny_bind (wpAny_standAt (wpAny_bind ?_))
 refine wpAny_bind (wpAny_mono (wpAny_comprehension_free rfl hs hcl hk hnm (aU (hi _ s σ H _ I h) fun v s1 h1 => aU h1 fun itv s2 h2 => ?_)) (fun _ s' hq => wpAny_pure (wpAny_pure hq)) fun _ _ e => e)
 obtain ⟨it, fp, tn, J, H2, e, I2, T, st2, f2, hw⟩ := h2
 subst e
 refine i9 my oV hc hg hf (fun _ _ _ _ _ => jF (he _ _ _ _ _) rfl) hok hc1 hc2 I2 T st2 f2 hw ?_
 intro D C s' H' ys m hn fC hCD hD hI hq
 have J := hI _ (.refl ..)
 refine wpAny_assign_Name (jn J hN hiy (.inl hy) (v := .ref D) rfl (fun s'' J' ⟨a, hs, ha⟩ => ?_) (.inr hy))
 have hCa : C ≠ a := by
  rcases ha with z | z
  · rw [z]; exact fC.2.1
  · exact fun q => fC.2.2.2.2.1 y a z q.symm
 refine ⟨m, hn.sameBut hs hCa, fun h' hs' => ?_⟩
 refine ⟨_, _, ?_, hq D hD⟩
 exact J'.turned (fun b o hb e => (hs'.2 b hb).trans e) (by rw [az hCD]; exact fC.1) fC.2.1 fC.2.2.2.1 fC.2.2.2.2.1 fC.2.2.2.2.2
theorem gg {σ : St} {H} {s} {Q} {z} {t} (I : Inv X pins σ H s) (q : Q (.str z) H) : EP X pins σ Q (.str z t) s := ⟨.str z, H, I, ⟨t, rfl⟩, q⟩
def zm (i j : Int) : Prop := 0 < j ∧ j < 2 ^ 1000
theorem uV : cA X (binaryOp .FloorDiv) (rI zm fun i j => .int (i / j)) := FD fun i j _ _ _ _ _ hc q => by
 have h0 := hc.1
 refine floordiv_int (by omega) (by rw [Int.fdiv_eq_ediv_of_nonneg i (by omega)]; exact q) (.inl (PyProof.noPylong_of_log2 ?_))
 have h1 : j.natAbs < 2 ^ 1000 := by
  have h2 := hc.2
  omega
 have h3 : j.natAbs ≠ 0 := by omega
 have h4 := (Nat.log2_lt h3).mpr h1
 omega
theorem qb : cA X (compareOp .LtE) fun x y H Q => ∃ i j, x = .str i ∧ y = .str j ∧ Q (.bl !decide (j.cps.toList < i.cps.toList)) H := by
 intro pins s σ H x y v u Q I rx ry h
 obtain ⟨i, j, rfl, rfl, q⟩ := h
 obtain ⟨t, rfl⟩ := rx
 obtain ⟨t', rfl⟩ := ry
 exact P.le_str (nO I q rfl)
def F5 : V → Option Int → Option Int → Hp → VK → Prop := fun x lo hi H Q => ∃ z, x = .str z ∧ z.length ≤ sizeLine ∧ Q (.str (Txt.slice z lo hi)) H
theorem A7 : wN X F5 := by
 intro pins s σ H x v vl vu lo hi sl Q I rx hs pl pu h
 obtain ⟨z, rfl, hz, q⟩ := h
 obtain ⟨t, rfl⟩ := rx
 refine ⟨_, _, F.slot_str_getitem.lookup, typeIs_str _ _ _, ?_⟩
 obtain ⟨o, ho, hc, hd⟩ := hs
 have da : ∀ (lo hi : Option _), Q (.str (Txt.slice z lo hi)) H → ∀ t' k, EP X _ σ Q (.str _ t') _ := fun lo hi q t' k => gg (I.tok k) q
 cases pl with
 | none =>
  cases pu with
  | none => exact wpAny_getItem_str_slice (l := none) (u := none) (st := none) ⟨o, ho, hc, hd⟩ rfl (post_val_or_str ⟨Nat.le_trans (Txt.slice_le z _ _) hz, fun t' k => da _ _ q t' k⟩)
  | int j tj => exact wpAny_getItem_str_slice (l := none) (u := some (j, tj)) (st := none) ⟨o, ho, hc, hd⟩ rfl (post_val_or_str ⟨Nat.le_trans (Txt.slice_le z _ _) hz, fun t' k => da _ _ q t' k⟩)
 | int i ti =>
  cases pu with
  | none => exact wpAny_getItem_str_slice (l := some (i, ti)) (u := none) (st := none) ⟨o, ho, hc, hd⟩ rfl (post_val_or_str ⟨Nat.le_trans (Txt.slice_le z _ _) hz, fun t' k => da _ _ q t' k⟩)
  | int j tj => exact wpAny_getItem_str_slice (l := some (i, ti)) (u := some (j, tj)) (st := none) ⟨o, ho, hc, hd⟩ rfl (post_val_or_str ⟨Nat.le_trans (Txt.slice_le z _ _) hz, fun t' k => da _ _ q t' k⟩)
theorem eF : ∀ {ys} {us}, al (ys.map V.str) us → StrsAre us ys
 | [], _, .nil => .nil
 | y :: ys, _, .cons ⟨t, e⟩ r => by subst e; exact .cons y t (eF r)
def zq (K : PySem.W.Frag) : V → List V → Hp → VK → Prop := fun x vs H Q => ∃ sep a ys, x = .str sep ∧ vs = [.ref a] ∧ cO K H a (ys.map V.str) ∧ (ys.map (·.length)).sum + ys.length * sep.length ≤ 16777216 ∧ Q (.str (Txt.join sep ys)) H
theorem xC : sf X "str.join" (zq X.K) := by
 intro pins s σ H x vs v us Q I rx rv h
 obtain ⟨sep, a, ys, rfl, rfl, hS, hz, q⟩ := h
 obtain ⟨t, rfl⟩ := rx
 obtain ⟨u, rfl, ru⟩ := rv.one
 cases ru
 obtain ⟨its, r, p, _⟩ := I.list hS
 exact join_list p.isList (eF (by simpa using r)) hz fun t' k => gg (I.tok k) q
def uT (K : PySem.W.Frag) : V → List V → Hp → VK → Prop := fun x vs H Q => ∃ sep a ys, x = .str sep ∧ vs = [.ref a] ∧ et K H a (ys.map V.str) ∧ (ys.map (·.length)).sum + ys.length * sep.length ≤ 16777216 ∧ Q (.str (Txt.join sep ys)) H
theorem ur : sf X "str.join" (uT X.K) := by
 intro pins s σ H x vs v us Q I rx rv h
 obtain ⟨sep, a, ys, rfl, rfl, hS, hz, q⟩ := h
 obtain ⟨t, rfl⟩ := rx
 obtain ⟨u, rfl, ru⟩ := rv.one
 cases ru
 obtain ⟨its, r, p, _⟩ := I.tuple hS
 exact join_tuple p (eF (by simpa using r)) hz fun t' k => gg (I.tok k) q
def ee (z : Str) (n : Int) : Str := if n < 1 then Str.empty else if (n == 1 || z.length == 0) = true then z else ⟨(List.replicate n.toNat z.cps).foldl (· ++ ·) #[]⟩
theorem nu : cA X (binaryOp .Mult) (fun x y H Q => ∃ z n, x = .str z ∧ y = .int n ∧ z.length ≤ 1000 ∧ 0 ≤ n ∧ n ≤ 1000 ∧ Q (.str (ee z n)) H) := by
 intro pins s σ H x y v u Q I rx ry h
 obtain ⟨z, n, rfl, rfl, hz, h0, h1, q⟩ := h
 obtain ⟨t, rfl⟩ := rx
 obtain ⟨t', rfl⟩ := ry
 have hsz : z.length * n.toNat ≤ 1000000 := by
  have := Nat.mul_le_mul hz (show n.toNat ≤ 1000 by omega)
  omega
 have hline : sizeLine = 16777216 := by rw [sizeLine_eq]
 refine P.mul_str (by rw [decide_eq_false (by omega), decide_eq_false (by omega)]; rfl) (fun a b hh => ?_) (fun a b => ?_) ?_
 · have : (1000 : Int) ≤ (2 ^ 63 - 1) / n := by
    have e : (2 ^ 63 - 1 : Int) / 1000 ≤ (2 ^ 63 - 1) / n := by
     refine (Int.le_ediv_iff_mul_le (by omega)).mpr ?_
     have : (2 ^ 63 - 1 : Int) / 1000 * n ≤ (2 ^ 63 - 1) / 1000 * 1000 := Int.mul_le_mul_of_nonneg_left h1 (by decide)
     exact Int.le_trans this (by decide)
    exact Int.le_trans (by decide) e
   omega
 · exact decide_eq_false (by rw [hline]; omega)
 · unfold ee at q
   split
   · rename_i c
     rw [if_pos c] at q
     exact ⟨by decide, gg (I.tok _) q⟩
   · rename_i c
     rw [if_neg c] at q
     split
     · rename_i d
       rw [if_pos d] at q
       exact gg I q
     · rename_i d
       rw [if_neg d] at q
       refine ⟨?_, gg (I.tok _) q⟩
       have key : ∀ (k : Nat) (acc : Array Nat), ((List.replicate k z.cps).foldl (· ++ ·) acc).size = acc.size + z.length * k := by
        intro k
        induction k with
        | zero => simp
        | succ k ih => intro acc; rw [List.replicate_succ, List.foldl_cons, ih, Array.size_append, Nat.mul_succ]; show acc.size + z.length + z.length * k = _; omega
       have := key n.toNat #[]
       show Array.size _ ≤ sizeLine
       rw [this, hline]
       simp only [List.size_toArray, List.length_nil]
       omega
end
end L2
end
section
namespace L2
open AutoSeq1 (wpAny_loadPart')
section
variable {prog : Program} {w : World} {A : Around} {E : Value → Shared → Prop} {s : Shared}
theorem kj {it l : Addr} {i : Nat} {ag} {Q : Value → Shared → Prop} (hit : s.heap.IsTupleIter it l i) (hl : s.heap.IsTuple l ag)
 (h : match ag[i]? with
  | some x => ∀ h', h'.IsTupleIter it l (i + 1) → Heap.SameBut it s.heap h' → Q x { s with heap := h' }
  | none => A.handled = none ∧ ∀ h' e, Heap.ExtBut it s.heap h' → (∃ o, h'.get? e = some o ∧ o.cls = .type "StopIteration") → E (.ref e) { s with heap := h' }) :
 wpAny (model prog w) A (Builtin.SmallTypes.nextOf (.ref it)) Q E s := by
 obtain ⟨o, ho, hc, hd⟩ := id hit
 obtain ⟨ol, hol, _, nl, hdl⟩ := hl
 refine wpAny_bind (wpAny_callSpecial?_slot (name := Str.ofString "__next__") hit.typeIs F.slot_tuple_iterator_next
  (wpAny_call_entry F.slot_tuple_iterator_next hit.typeIs F.entry_tuple_iterator_next ?_ (F.args_tuple_iterator_next_1 _)))
 show wpAny _ _ (field (.ref it) 0 >>= _) _ _ s
 refine wpAny_bind (wpAny_field ho hd (x := .ref l) rfl ?_)
 refine wpAny_bind (wpAny_field ho hd (x := .int i 0) rfl ?_)
 refine wpAny_bind (wpAny_seqItems hol hdl ?_)
 cases hx : ag[i]? with
 | some x =>
  rw [hx] at h
  simp only [Int.toNat_natCast, hx]
  refine wpAny_bind (wpAny_setField ho hd (by simp) (wpAny_pure ⟨x, rfl, wpAny_pure (h _ ?_ (Heap.SameBut.update ..))⟩))
  exact ⟨_, Heap.get?_update_self _ ho (Obj.isFreed_of_fields (Obj.data_mapFields hd _)), (Obj.cls_mapFields ..).trans hc, by
   rw [Obj.data_mapFields hd]; simp [rawInt]⟩
 | none =>
  rw [hx] at h
  simp only [Int.toNat_natCast, hx]
  refine wpAny_bind (wpAny_rule (wpAny_bind (wpAny_setField ho hd (by simp) ?_)))
  refine wpAny_bind ?_
  refine wpAny_bind (m := firstArgMember _ _) (wpAny_of_eq (a := Value.none) (by rfl) ?_)
  refine wpAny_newObj_type ?_ (by size_fits)
  refine wpAny_bind (wpAny_handled ?_)
  first | rw [h.1]
  refine wpAny_bind (wpAny_pure (wpAny_throw ?_))
  exact h.2 _ _ (((Heap.SameBut.update ..).extBut.push _).push _) ⟨_, Heap.get?_push_size _ rfl, rfl⟩
theorem qI {e it : Addr} {i : Nat} {x old : Value} {T : Heap → Prop} {Q : Value → Shared → Prop}
 (he : IsEnum s.heap e it i old) (hne : e ≠ it) (hT : ∀ h h', T h → (∀ o, h.get? it = some o → h'.get? it = some o) → T h')
 (hN : ∀ (Q' : Value → Shared → Prop), (∀ h', T h' → Heap.SameBut it s.heap h' → Q' x { s with heap := h' }) → wpAny (model prog w) A (Builtin.SmallTypes.nextOf (.ref it)) Q' E s)
 (hQ : ∀ h', IsEnumOut h' e it ((i : Int) + 1) x s.heap.objs.size → T h' →
  h'.get? s.heap.objs.size = some { cls := .type "tuple", data := .seq #[.int i s.toks, x] } → h'.objs.size = s.heap.objs.size + 1 →
  (∀ b o, b ≠ e → b ≠ it → s.heap.get? b = some o → h'.get? b = some o) → Q (.ref s.heap.objs.size) { s with heap := h', toks := s.toks + 1 }) :
 wpAny (model prog w) A (Builtin.«enumerate.__next__» ⟨[.ref e], []⟩) (fun da s' => ∃ v, da = .done (.ret v) ∧ Q v s') E s := by
 obtain ⟨hp, g, d, tk, os⟩ := s
 show wpAny _ _ (field (.ref e) 2 >>= _) _ _ _
 refine wpAny_bind (wpAny_field he rfl (x := .ref it) rfl ?_)
 refine wpAny_bind (hN _ fun h₁ hit₁ hs₁ => ?_)
 have he₁ : IsEnum h₁ e it i old := (hs₁.2 e hne).trans he
 refine wpAny_bind (wpAny_field he₁ rfl (x := rawInt i) rfl ?_)
 refine wpAny_bind (wpAny_field he₁ rfl (x := .none) rfl ?_)
 refine wpAny_bind (wpAny_mkInt ?_)
 refine wpAny_bind (wpAny_setField_rec he₁ (by simp) fun h₂ he₂ hs₂ => ?_)
 refine wpAny_bind (wpAny_setField_rec he₂ (by simp) fun h₃ he₃ hs₃ => ?_)
 refine wpAny_bind (wpAny_newTuple ?_)
 have he₄ : IsEnum (h₃.push { cls := .type "tuple", data := .seq #[.int i tk, x] }) e it ((i : Int) + 1) old := Heap.get?_push_of_some _ he₃
 generalize hh₄ : h₃.push { cls := .type "tuple", data := .seq #[.int i tk, x] } = h₄ at he₄
 have hsz : h₃.objs.size = hp.objs.size := by rw [hs₃.1, hs₂.1, hs₁.1]
 have hel : e < hp.objs.size := Heap.lt_size he
 have ht₄ : h₄.get? hp.objs.size = some { cls := .type "tuple", data := .seq #[.int i tk, x] } := by rw [← hh₄, ← hsz]; exact Heap.get?_push_size _ rfl
 have hz₄ : h₄.objs.size = hp.objs.size + 1 := by rw [← hh₄, Heap.size_push, hsz]
 have hk₄ : ∀ b o, b ≠ e → b ≠ it → hp.get? b = some o → h₄.get? b = some o := fun b o hbe hbi hb => by
  rw [← hh₄]; exact Heap.get?_push_of_some _ (hs₃.extBut b o hbe (hs₂.extBut b o hbe (hs₁.extBut b o hbi hb)))
 have hit₄ : T h₄ := hT _ _ hit₁ fun o ho => by
  rw [← hh₄]; exact Heap.get?_push_of_some _ (hs₃.extBut _ o (Ne.symm hne) (hs₂.extBut _ o (Ne.symm hne) ho))
 rw [hsz]
 refine wpAny_bind ?_
 · refine wpAny_bind (wpAny_field he₄ rfl (x := .none) rfl (wpAny_pure ?_))
   refine wpAny_bind (wpAny_rule ?_)
   refine wpAny_bind (wpAny_field he₄ rfl (x := old) rfl ?_)
   refine wpAny_bind (wpAny_setField_rec he₄ (by simp) fun h₅ he₅ hs₅ => ?_)
   refine wpAny_bind ?_
   · refine wpAny_bind (wpAny_setField_rec he₅ (by simp) fun h₆ he₆ hs₆ => ?_)
     refine wpAny_setField_rec he₆ (by simp) fun h₇ he₇ hs₇ => ?_
     refine wpAny_bind (wpAny_letGo (wpAny_pure ⟨_, rfl, hQ h₇ he₇ ?_ ?_ ?_ ?_⟩))
     · exact hT _ _ hit₄ fun o ho => hs₇.extBut _ o (Ne.symm hne) (hs₆.extBut _ o (Ne.symm hne) (hs₅.extBut _ o (Ne.symm hne) ho))
     · exact hs₇.extBut _ _ (Nat.ne_of_gt hel) (hs₆.extBut _ _ (Nat.ne_of_gt hel) (hs₅.extBut _ _ (Nat.ne_of_gt hel) ht₄))
     · rw [hs₇.1, hs₆.1, hs₅.1, hz₄]
     · exact fun b o hbe hbi hb => hs₇.extBut b o hbe (hs₆.extBut b o hbe (hs₅.extBut b o hbe (hk₄ b o hbe hbi hb)))
theorem ij (l : Addr) (ag : Array Value) (n : Nat) (dct : Option Addr) (sl : Array (Option Value)) :
 Meets (Builtin.«enumerate.__new__» ⟨[.type "enumerate", .ref l], []⟩) (fun _ R s => s.heap.get? l = some { cls := .type "tuple", dict := dct, data := .seq ag n, slots := sl } ∧
  R (.ok (.ret (.ref (s.heap.push { cls := .type "tuple_iterator", data := .fields #[.ref l, .int 0 0] }).objs.size)))
   { s with heap := (s.heap.push { cls := .type "tuple_iterator", data := .fields #[.ref l, .int 0 0] }).push { cls := .type "enumerate", data := .fields #[.none, .bool false, .ref s.heap.objs.size, rawInt 0, .none, .none] } }) :=
 .of_wp fun prog w A R s h => by
  obtain ⟨hp, g, d, tk, os⟩ := s; obtain ⟨hl, h⟩ := h
  have hsub := sub_enumerate
  have hL : Heap.IsTuple (Shared.heap ⟨hp, g, d, tk, os⟩) l ag := ⟨_, hl, rfl, n, rfl⟩
  wp_walk using wpAny_loadPart' hl
  refine wpAny_stack_any fun st => wpAny_pure ?_
  split
  · rename_i c _ _ _ _ _
    cases (c == Value.type _)
    · wp_walk using wpAny_loadPart' hl, wpAny_pyIter_tuple hL
      exact ⟨_, rfl, h⟩
    · wp_walk using wpAny_loadPart' hl, wpAny_pyIter_tuple hL
      exact ⟨_, rfl, h⟩
  · wp_walk using wpAny_loadPart' hl, wpAny_pyIter_tuple hL
    exact ⟨_, rfl, h⟩
theorem gF {Q} (hL : s.heap.IsTuple l ag)
 (h : ∀ h', IsEnum h' (s.heap.objs.size + 1) s.heap.objs.size 0 .none → h'.IsTupleIter s.heap.objs.size l 0 → h'.objs.size = s.heap.objs.size + 2 →
  (∀ b o, s.heap.get? b = some o → h'.get? b = some o) → Q (.ref (s.heap.objs.size + 1)) { s with heap := h' }) :
 wpAny (model prog w) A (call (.type "enumerate") [.ref l]) Q E s := by
 obtain ⟨⟨c, dct, dt, sl⟩, hl, hc, n, hd⟩ := hL
 subst hc hd
 refine callType_new F.called_enumerate rfl (F.typeCall_enumerate_1 _) (F.newCall_enumerate_1 _) (fun obj => F.args_object_init_2 _ _) F.entry_enumerate_new
  (ij l _ n _ sl) ⟨hl, ?_⟩
 have hz : (s.heap.push { cls := .type "tuple_iterator", data := .fields #[.ref l, .int 0 0] }).objs.size = s.heap.objs.size + 1 := Heap.size_push ..
 rw [hz]
 have he := by
  have := Heap.get?_push_size (s.heap.push { cls := .type "tuple_iterator", data := .fields #[.ref l, .int 0 0] })
   (o := { cls := .type "enumerate", data := .fields #[.none, .bool false, .ref s.heap.objs.size, rawInt 0, .none, .none] }) rfl
  rw [hz] at this; exact this
 refine ⟨⟨_, he, rfl⟩, h _ he ⟨_, Heap.get?_push_of_some _ (Heap.get?_push_size _ rfl), rfl, rfl⟩ (by rw [Heap.size_push, hz]) fun b o x => Heap.get?_push_of_some _ (Heap.get?_push_of_some _ x)⟩
end
def Ht (Sq : Hp → List V → Prop) : It := ⟨fun i H => ∃ xs x, Sq H xs ∧ xs[i]? = some x, fun i H x H' => ∃ p v, H p = none ∧ x = .ref p ∧ (∀ xs, Sq H xs → xs[i]? = some v) ∧ H' = bq H p (.tup [.int i, v]), fun i H => ∃ xs, Sq H xs ∧ xs.length ≤ i⟩
section
variable {X : Cx} {pins : List (Addr × Obj)} {σ : St} {H : Hp} {s : Shared}
theorem Inv.turnedL {h'} {ch : List _} (I : Inv X pins σ H s) (k : ∀ b o, b ∉ ch → s.heap.get? b = some o → h'.get? b = some o) (hf : ∀ b ∈ ch, bA X pins H b) : Inv X pins σ H { s with heap := h', toks := t' } := by
 have nit : ∀ b u, H b = some u → b ∉ ch := fun b u e z => by rw [(hf b z).1] at e; cases e
 refine I.step (fun b hb => ?_) (fun b o _ _ hc e _ => k b o hc e) (fun b o _ _ hc e _ => ⟨_, k b o hc e⟩) (fun _ _ _ _ n => n)
  (fun b o hc e => ⟨o, k b o hc e⟩) (fun _ _ e => e) (fun _ _ _ e => e) (fun b ps e => ⟨#[], by rw [e]; simp⟩) (fun m hm => ?_) (fun b u e => ?_) I.bare (Nat.le_refl _)
 · obtain ⟨f0, f1, f2, f3, f4, f5⟩ := hf b hb
   exact ⟨f3, f1, f4, f5⟩
 · obtain ⟨o, es, ep, ho, r⟩ := hm
   exact ⟨o, es, ep, k _ o (fun z => (hf _ z).2.1 rfl) ho, r⟩
 · refine (I.hok b u e).stay (fun c v hc q => k c v ?_ q) fun _ q => q
   grind
def rg (i : Addr) (T : Heap → Prop) : Prop := ∀ h h', T h → (∀ o, h.get? i = some o → h'.get? i = some o) → T h'
structure CL (P : Program) (w : World) (K : PySem.W.Frag) (Sq : Hp → List V → Prop) (l it : Addr) (T : Nat → Heap → Prop) : Prop where
 own : ∀ i, rg it (T i)
 obj : ∀ i h, T i h → ∃ o, h.get? it = some o ∧ ∀ v, o.data ≠ .cell v
 inj : ∀ (X : Cx) pins σ H s xs ys, X.K = K → Inv X pins σ H s → Sq H xs → Sq H ys → xs = ys
 nx : ∀ (X : Cx), X.K = K → ∀ pins σ H s xs x i, Inv X pins σ H s → Sq H xs → xs[i]? = some x → ∃ u, RelV x u ∧ ∀ h, (∀ o, s.heap.get? l = some o → h.get? l = some o) → T i h → ∀ (A : Around) (E : Value → Shared → Prop) (Q' : Value → Shared → Prop),
  (∀ h', T (i + 1) h' → Heap.SameBut it h h' → Q' u { s with heap := h' }) → wpAny (model P w) A (Builtin.SmallTypes.nextOf (.ref it)) Q' E { s with heap := h }
 en : ∀ (X : Cx), X.K = K → ∀ pins σ H s xs i, Inv X pins σ H s → Sq H xs → xs.length ≤ i → ∀ h, (∀ o, s.heap.get? l = some o → h.get? l = some o) → T i h → ∀ (A : Around) (E : Value → Shared → Prop) (Q' : Value → Shared → Prop), A.handled = none →
  (∀ h' e, Heap.ExtBut it h h' → (∃ o, h'.get? e = some o ∧ o.cls = .type "StopIteration") → E (.ref e) { s with heap := h' }) → wpAny (model P w) A (Builtin.SmallTypes.nextOf (.ref it)) Q' E { s with heap := h }
theorem vB {P : Program} {w : World} {K : PySem.W.Frag} {S : Hp → List V → Prop} {l it : Addr} {T : Nat → Heap → Prop} {IsS : Heap → Array Value → Prop} (own : ∀ i, rg it (T i)) (obj : ∀ i h, T i h → ∃ o, h.get? it = some o ∧ ∀ v, o.data ≠ .cell v)
 (inj : ∀ (X : Cx) pins σ H s xs ys, X.K = K → Inv X pins σ H s → S H xs → S H ys → xs = ys)
 (get : ∀ (X : Cx) pins σ H s xs, X.K = K → Inv X pins σ H s → S H xs → ∃ its : List Value, al xs its ∧ ∀ h, (∀ o, s.heap.get? l = some o → h.get? l = some o) → IsS h its.toArray)
 (nx : ∀ (s : Shared) i (its : Array Value) (A : Around) (E Q : Value → Shared → Prop), T i s.heap → IsS s.heap its → (match its[i]? with
  | some x => ∀ h', T (i + 1) h' → Heap.SameBut it s.heap h' → Q x { s with heap := h' }
  | none => A.handled = none ∧ ∀ h' e, Heap.ExtBut it s.heap h' → (∃ o, h'.get? e = some o ∧ o.cls = .type "StopIteration") → E (.ref e) { s with heap := h' }) → wpAny (model P w) A (Builtin.SmallTypes.nextOf (.ref it)) Q E s) : CL P w K S l it T where
 own := own
 obj := obj
 inj := inj
 nx := by
  intro X hK pins σ H s xs x i I hq hx
  obtain ⟨its, rv, ht⟩ := get X _ σ H s xs hK I hq
  obtain ⟨u, hu, ru⟩ := rv.get hx
  refine ⟨u, ru, fun h hl hit A E Q' hQ => nx _ i _ A E Q' hit (ht h hl) ?_⟩
  simp_all
 en := by
  intro X hK pins σ H s xs i I hq hx h hl hit A E Q' hA hE
  obtain ⟨its, rv, ht⟩ := get X _ σ H s xs hK I hq
  have hln := rv.length
  refine nx _ i _ A E Q' hit (ht h hl) ?_
  grind
theorem wR {K} (l it) : CL P w K (fun H xs => et K H l xs) l it fun i h => h.IsTupleIter it l i :=
 vB (IsS := fun h its => h.IsTuple l its) (fun i h h' ⟨o, e, r⟩ k => ⟨o, k o e, r⟩) (fun i h ⟨o, e, c, d⟩ => ⟨o, e, fun v z => by rw [d] at z; cases z⟩)
  (fun X pins σ H s xs ys hK I h1 h2 => by subst hK; exact I.tuple_inj h1 h2) (fun X pins σ H s xs hK I hq => by
   subst hK
   obtain ⟨its, rv, ⟨o, e, r⟩, hz⟩ := I.tuple hq
   exact ⟨its, rv, fun h k => ⟨o, k o e, r⟩⟩) fun s i its A E Q hit hl h => kj hit hl h
theorem wJ {K} (l it) : CL P w K (fun H xs => cO K H l xs) l it fun i h => h.IsListIter it l i :=
 vB (IsS := fun h its => h.IsList l its) (fun i h h' ⟨o, e, r⟩ k => ⟨o, k o e, r⟩) (fun i h ⟨o, e, c, d⟩ => ⟨o, e, fun v z => by rw [d] at z; cases z⟩)
  (fun X pins σ H s xs ys hK I h1 h2 => by subst hK; exact I.list_inj h1 h2) (fun X pins σ H s xs hK I hq => by
   subst hK
   obtain ⟨its, rv, ht, hz⟩ := I.list hq
   obtain ⟨o, e, r⟩ := ht.isList
   exact ⟨its, rv, fun h k => ⟨o, k o e, r⟩⟩) fun s i its A E Q hit hl h => by
  cases hx : its[i]? with
  | some x => rw [hx] at h; exact wpAny_nextOf_list_item hit hl hx h
  | none => rw [hx] at h; exact wpAny_nextOf_list_end h.1 hit hl hx h.2
theorem qo {P : Program} {w : World} {K : PySem.W.Frag} {elts : List Expr} {x1} {pt : Pos} {it e l : Addr} {Sq : Hp → List V → Prop} {T : Nat → Heap → Prop} (hne : e ≠ it) (k : CL P w K Sq l it T) :
 jg P w K (.Tuple elts x1 pt) (Ht Sq) [e, it] e (fun i h => T i h ∧ ∃ old, IsEnum h e it i old) where
 mem := by simp
 obj := fun i h st b hb => by
  obtain ⟨t1, old, e2⟩ := st
  rcases List.mem_cons.mp hb with z | z
  · grind
  · have z' : b = it := List.mem_singleton.mp z
    rw [z']; exact k.obj _ _ t1
 keep := fun i h h' st q => by
  obtain ⟨t1, old, e2⟩ := st
  exact ⟨k.own _ _ _ t1 fun o => q it (List.mem_cons_of_mem _ (List.mem_singleton.mpr rfl)) o, old, q e List.mem_cons_self _ e2⟩
 item := by
  intro X hP hw hK hc i pins s σ H E I hf st hg
  obtain ⟨xs, x, hq, hx⟩ := hg
  obtain ⟨t1, old, e2⟩ := st
  obtain ⟨u, ru, hn⟩ := k.nx X hK pins σ H s xs x i I hq hx
  have hTy : s.TypeIs (.ref e) "enumerate" := ⟨_, e2, rfl⟩
  unfold pyNext
  refine wpAny_bind (wpAny_attempt (wpAny_callSpecial?_slot (name := Str.ofString "__next__") hTy F.slot_enumerate_next
   (wpAny_call_entry F.slot_enumerate_next hTy F.entry_enumerate_next
    (qI (T := T (i + 1)) e2 hne (k.own _) (fun Q' h => hn _ (fun _ e => e) t1 _ _ Q' h) fun h' a b c d kp => wpAny_pure ?_) (F.args_enumerate_next_1 _))))
  refine ⟨_, rfl, wpAny_letOwnedTupleGo_enum a fun h2 a2 hs2 => ?_⟩
  have pe : s.heap.objs.size ≠ e := Nat.ne_of_gt (Heap.lt_size e2)
  have k2 : ∀ b o, b ∉ [e, it] → s.heap.get? b = some o → h2.get? b = some o := fun b o hb q => by
   have hbe : b ≠ e := fun z => hb (by simp_all)
   have hbi : b ≠ it := fun z => hb (by grind)
   exact (hs2.2 b hbe).trans (kp b o hbe hbi q)
  have I2 : Inv X pins σ H { s with heap := h2, toks := s.toks + 1 } := I.turnedL k2 hf
  have f := I.fpOk (Nat.le_refl _) (I.hok.fresh (Nat.le_refl _))
  have hpt : h2.get? s.heap.objs.size = some { cls := .type "tuple", data := .seq #[.int i s.toks, u] } := (hs2.2 _ pe).trans c
  have I3 := I2.track (o := .tup [.int i, x]) f ⟨(by show 2 ≤ sizeLine; decide), [.int i s.toks, u], .cons ⟨s.toks, rfl⟩ (.cons ru .nil), ⟨_, hpt, rfl, 0, rfl⟩⟩
  refine ⟨.ref s.heap.objs.size, _, I3, rfl, ⟨s.heap.objs.size, x, f.1, rfl, fun ys hy => by rw [k.inj X pins σ H s ys xs hK I hy hq]; exact hx, rfl⟩, ⟨k.own _ _ _ b fun o q => (hs2.2 _ (Ne.symm hne)).trans q, u, ?_⟩, fun b hb => ?_⟩
  · have a2' : IsEnum h2 e it ((i : Int) + 1) u := a2
    have ei : (((i + 1 : Nat)) : Int) = (i : Int) + 1 := by omega
    show IsEnum h2 e it (((i + 1 : Nat)) : Int) u
    rw [ei]; exact a2'
  · have hlt : b < s.heap.objs.size := by
     rcases List.mem_cons.mp hb with z | z
     · rw [z]; exact Heap.lt_size e2
     · have z' : b = it := List.mem_singleton.mp z
       rw [z']
       obtain ⟨o, q, _⟩ := k.obj _ _ t1
       exact Heap.lt_size q
    rw [az (Nat.ne_of_lt hlt)]
    exact (hf b hb).1
 done := by
  intro X hP hw hK hc i pins s σ H E I hf st hg
  obtain ⟨xs, hq, hx⟩ := hg
  obtain ⟨t1, old, e2⟩ := st
  have hTy : s.TypeIs (.ref e) "enumerate" := ⟨_, e2, rfl⟩
  refine wpAny_bind (wpAny_attempt (wpAny_callSpecial?_slot (name := Str.ofString "__next__") hTy F.slot_enumerate_next
   (wpAny_call_entry F.slot_enumerate_next hTy F.entry_enumerate_next ?_ (F.args_enumerate_next_1 _))))
  show wpAny _ _ (field (.ref e) 2 >>= _) _ _ _
  refine wpAny_bind (wpAny_field e2 rfl (x := .ref it) rfl ?_)
  refine wpAny_bind (k.en X hK pins σ H s xs i I hq hx _ (fun _ e => e) t1 _ _ _ (I.ok.hd hc) fun h' x he' hx' => ?_)
  obtain ⟨o, ho, hc⟩ := hx'
  refine wpAny_bind (wpAny_isInstance (T := "StopIteration") (b := true) ⟨o, ho, hc⟩ isSubtype_stop ?_)
  refine wpAny_pure ⟨rfl, ?_⟩
  exact I.turnedL (t' := s.toks) (ch := [e, it]) (fun b o hb q => he' b o (fun z => hb (by grind)) q) hf
 self := fun A i s Q E st h => by
  obtain ⟨t1, old, e2⟩ := st
  exact wpAny_pyIter_enum e2 h
def sx (K : PySem.W.Frag) (b : Bool) (H : Hp) (a : Addr) (xs : List V) : Prop := if b then et K H a xs else cO K H a xs
def Gu (b : Bool) (K : PySem.W.Frag) (ta : TA) : TI := fun σ H R => ta σ H fun vs H1 => ∃ a, vs = [.ref a] ∧ (∃ xs, sx K b H1 a xs) ∧ R (Ht fun H xs => sx K b H a xs) H1
def GR (b : Bool) (l it : Addr) (i : Nat) (h : Heap) : Prop := if b then h.IsTupleIter it l i else h.IsListIter it l i
theorem t6 {P : Program} {w : World} {K : PySem.W.Frag} (b : Bool) (l it : Addr) : CL P w K (fun H xs => sx K b H l xs) l it (GR b l it) := by
 cases b
 · exact wJ l it
 · exact wR l it
end
section
variable {X : Cx}
theorem xo {σ : St} {H} {s} (I : Inv X pins σ H s) : ∀ b ∈ [s.heap.objs.size + 1, s.heap.objs.size], bA X pins H b := fun b hb => by
 rcases List.mem_cons.mp hb with z | z
 · rw [z]; exact I.fpOk (Nat.le_succ _) (I.hok.fresh (Nat.le_succ _))
 · have z' := List.mem_singleton.mp z
   rw [z']; exact I.fpOk (Nat.le_refl _) (I.hok.fresh (Nat.le_refl _))
theorem yx (b : Bool) {elts : List Expr} {x1} {pt : Pos} {a : Expr} {ta : TA} {p pos : Pos} (hg : Gl X "enumerate") (hm : X.mg "enumerate" = none) (ha : PA X [a] ta) (hs : starEach [a] X.env = [(false, eval a X.env)]) :
 PI X (.Tuple elts x1 pt) (.Call (.Name "enumerate" p) [a] [] pos) (Gu b X.K ta) := by
 intro pins s σ H R I h
 refine Call_ (bX I hg hm boot_enumerate (PyProof.Rows.callWith_type1 (aU (ha pos pins s σ H _ I h) fun us s1 ⟨vs, H1, I1, r1, q1⟩ => ?_) hs rfl))
 obtain ⟨t, e, ⟨xs, hq⟩, q⟩ := q1
 subst e
 obtain ⟨u, rfl, ru⟩ := r1.one
 cases ru
 have go : ∀ h', IsEnum h' (s1.heap.objs.size + 1) s1.heap.objs.size 0 .none → GR b t s1.heap.objs.size 0 h' → (∀ b o, s1.heap.get? b = some o → h'.get? b = some o) → wpAny (model X.prog X.w) X.A (pyIter (.ref (s1.heap.objs.size + 1))) (GV X pins σ (.Tuple elts x1 pt) R) X.xe { s1 with heap := h' } := fun h' hen hit hk =>
  wpAny_pyIter_enum hen ⟨_, _, _, _, H1, rfl, I1.kept (t' := s1.toks) hk, qo (Nat.succ_ne_self _) (t6 b t _), ⟨hit, _, hen⟩, xo I1, q⟩
 cases b
 · obtain ⟨its, rv, ht, hz⟩ := I1.list hq
   exact call_enumerate_list ht.isList fun h' a b _ c => go h' a b c
 · obtain ⟨its, rv, ht, hz⟩ := I1.tuple hq
   exact gF ht fun h' a b _ c => go h' a b c
end
end L2
end
section
namespace L2
open PySem PySem.Spec PyProof.Rows SeqAt
inductive T where
 | non | bl (b : Bool) | int (i : Int) | str (x : Str) | tup (xs : List T) | lst (xs : List T) | ins (q : Str)
mutual
def eqT : T → T → Bool
 | .non, .non => true
 | .bl a, .bl b => a == b
 | .bl a, .int i => (if a then 1 else 0) == i
 | .int i, .bl b => i == (if b then 1 else 0)
 | .int i, .int j => i == j
 | .str a, .str b => a == b
 | .tup xs, .tup ys => gC xs ys
 | .lst xs, .lst ys => gC xs ys
 | .ins a, .ins b => a == b
 | _, _ => false
def gC : List T → List T → Bool
 | [], [] => true
 | x :: xs, y :: ys => eqT x y && gC xs ys
 | _, _ => false
end
mutual
theorem fB : ∀ t, eqT t t = true
 | .non => rfl
 | .bl b => beq_self_eq_true b
 | .int i => beq_self_eq_true i
 | .str x => beq_self_eq_true x
 | .tup xs => fT xs
 | .lst xs => fT xs
 | .ins q => beq_self_eq_true q
theorem fT : ∀ ts, gC ts ts = true
 | [] => rfl
 | t :: ts => Bool.and_eq_true_iff.mpr ⟨fB t, fT ts⟩
end
mutual
def b9 : T → Nat
 | .tup xs => bw xs + 1
 | .lst xs => bw xs + 1
 | .ins _ => 61
 | _ => 0
def bw : List T → Nat
 | [] => 0
 | x :: xs => max (b9 x) (bw xs)
end
theorem dO : ∀ (xs ys : List T), gC xs ys = ((List.range (min xs.length ys.length)).all (fun j => match xs[j]?, ys[j]? with | some x, some y => eqT x y | _, _ => true) && xs.length == ys.length)
 | [], [] => rfl
 | [], y :: ys => rfl
 | x :: xs, [] => rfl
 | x :: xs, y :: ys => by
  rw [gC, dO xs ys, List.length_cons, List.length_cons, Nat.add_min_add_right, List.range_succ_eq_map, List.all_cons]
  simp only [List.all_map]
  rw [Bool.and_assoc]
  congr 2
  simp
theorem o4 : ∀ {xs} {j} (h : j < xs.length), b9 xs[j] ≤ bw xs
 | [], j, h => by simp at h
 | x :: xs, 0, h => by simp only [List.getElem_cons_zero, bw]; omega
 | x :: xs, j + 1, h => by
  have := o4 (by simpa using h)
  simp only [List.getElem_cons_succ, bw]
  omega
end L2
end
section
namespace L2
structure GJ (P : Program) (w : World) (K : PySem.W.Frag) (mg : Str → Option Value) (base : Heap) (k : Nat) (x : Str) (ps : List Str) (sp : Sp) : Prop where
 ex : ∃ f fd, fG P w K mg base mn k f fd ps sp ∧ mg x = some (.ref f) ∧ PySem.W.keepIn K (.ref f) = true ∧ Binds K fd ps []
structure Df (K : PySem.W.Frag) (mg : Str → Option Value) (x : Str) (st : Stmt) : Prop where
 ex : ∃ f fd, vI K x x st f fd ∧ mg x = some (.ref f)
section
variable {P : Program} {w : World} {K : PySem.W.Frag} {mg : Str → Option Value} {base : Heap}
theorem Df.has {st} {N ps} {k} {sp} (F : Df K mg x st) (S : cf N ps (ah st))
 (hb : ∀ (kV doc pm : Value) (an : Option _) (cdv ct : Value) (us : List _), us.length = ps.length → bindArgs (PySem.W.fnOf x x (aL st) (aB st) (ah st) .none kV doc pm an cdv ct) ⟨us, []⟩ = pure (ps.zip us))
 (len : ∀ vs H Q E, sp vs H Q E → vs.length = ps.length)
 (hbody : ∀ (f : Addr) (cdv : Value) (A : Around) (outer : List _) (s : Shared) (H : Hp) (vs : List V) (Q : VK) (E : XK), bh k (A.deeper (envOfC x (ah st) s.heap.objs.size f cdv)) → sp vs H Q E →
  ∃ t, fK (iW mn P w K mg base N x (ah st) f cdv A outer s H E).nox (aB st) t ∧ t { nx := fun _ H' => Q .non H', rt := Q } (start N vs) H) : GJ P w K mg base (k + 1) x ps sp := by
 obtain ⟨f, fd, F, m⟩ := F.ex
 exact ⟨f, fd, F.ok S len (hbody f), m, F.kp, F.binds hb⟩
end
section
variable {X : Cx} {e : Expr} {es : List Expr} {t : TA} {p pos : Pos}
theorem B2 {sp} (h : GJ X.prog X.w X.K X.mg X.base k x ps sp) (hr : bh k X.A) (hg : Gl X x) (ha : PA X (e :: es) t) (hdb : (x == "__debug__") = false := by decide)
 (he : starEach (e :: es) X.env = (false, eval e X.env) :: starEach es X.env := by rfl) (hpl : (backTo pos (starEach es X.env)).any (·.1) = false := by rfl) : PE X (.Call (.Name x p) (e :: es) [] pos) (pq sp [] E0 t) := by
 obtain ⟨f, fd, F, hm, hk, hb⟩ := h.ex
 exact wF F hr hg hm hk hb .nil o1 ha hdb he hpl
end
section
variable {X : Cx} {K : PySem.W.Frag}
def zh (K : PySem.W.Frag) : List V → Hp → VK → Prop := fun xs H Q => ∃ p ys, xs = [.ref p] ∧ (cO K H p ys ∨ et K H p ys) ∧ Q (.int ys.length) H
theorem tV (h : X.K = K) : bC X (.builtin "len") (zh K) := by subst h; exact k9
def l3 (K : PySem.W.Frag) : List V → Hp → VK → Prop := fun xs H Q => ∃ p ys, xs = [.ref p] ∧ ((cO K H p ys ∧ ∀ l, H l = none → Q (.ref l) (bq H l (.tup ys))) ∨ (et K H p ys ∧ Q (.ref p) H))
theorem qf (h : X.K = K) : bC X (.type "tuple") (l3 K) := by subst h; exact jj
theorem yr (h : X.K = K) : cA X (compareOp .In) (D9 K false) := by subst h; exact rm
theorem oq (h : X.K = K) : cA X (compareOp .NotIn) (D9 K true) := by subst h; exact jZ
variable {o e : Expr} {es : List Expr} {to : TE} {t : TA} {name : Str} {apos cpos : Pos} {Ty id : String} {r : V → List V → Hp → VK → Prop}
theorem ww (h : X.K = K) (pa : PlainAttrs Ty) (slot : Slot Ty name id) (hty : typeOf (.builtin id) = pure (.type "method_descriptor")) (hm : sf X id r) (ho : PE X o to)
 (hbase : attributeBase o name X.env (eval o X.env) = eval o X.env := by rfl) (hline : (apos.endLine == cpos.line) = true := by rfl) : PE X (.Call (.Attribute o name apos) [] [] cpos) (Cj K Ty r to) := by
 subst h; exact AJ pa slot hty hm ho hbase hline
theorem uD (h : X.K = K) (pa : PlainAttrs Ty) (slot : Slot Ty name id) (hty : typeOf (.builtin id) = pure (.type "method_descriptor")) (hm : sf X id r) (ho : PE X o to) (ha : PA X (e :: es) t)
 (hbase : attributeBase o name X.env (eval o X.env) = eval o X.env := by rfl)
 (hfew : ((backTo cpos (starEach (e :: es) X.env)).all (fun x => !x.1) && (backToKw cpos (keywordEach [] X.env)).all (fun x => x.1.isSome)
  && decide ((e :: es).length + ([] : List Keyword).length + (if ([] : List Keyword).isEmpty then 0 else 1) < 30)) = true := by rfl)
 (hline : (apos.endLine == cpos.line) = true := by rfl) (hs : starEach (e :: es) X.env = (false, eval e X.env) :: starEach es X.env := by rfl) (hplain : (backTo cpos (starEach es X.env)).any (·.1) = false := by rfl) :
 PE X (.Call (.Attribute o name apos) (e :: es) [] cpos) (GK K Ty r to t) := by
 subst h; exact DY pa slot hty hm ho ha hbase hfew hline hs hplain
end
end L2
end
section
namespace L2
def cX (P : Addr) : HO := .ext fun h => ∃ ps : Array Value, h.get? P = some (PySem.W.tabObj ps) ∧ TriplesOk ps.toList
theorem px {h} {P} {ps} (e : h.get? P = some (PySem.W.tabObj ps)) (t : TriplesOk ps.toList) : bv Pg w H h P (cX P) :=
 ⟨⟨ps, e, t⟩, ⟨_, e⟩, fun h1 h2 ⟨ps, a, b⟩ k => ⟨ps, k _ a, b⟩⟩
theorem tz {o} (h : H a = some o) : bq H a o = H := by
 funext b
 unfold bq
 grind
structure Bm (mg : Str → Option Value) (base : Heap) : Prop where
 ex : ∃ bm ob, mg "__builtins__" = some (.ref bm) ∧ bm ≠ builtinsNs ∧ base.get? bm = some ob ∧ ob.cls = .type "module" ∧ ob.dict = some builtinsNs ∧ ob.data = .plain
section
variable {X : Cx} {pins : List (Addr × Obj)} {σ : St} {H : Hp} {s : Shared}
theorem Inv.grown (I : Inv X pins σ H s) {P} {ps} {h'} {tk} (hP : H P = some (cX P)) (k : ∀ b o, b ≠ P → s.heap.get? b = some o → h'.get? b = some o) (e : h'.get? P = some (PySem.W.tabObj ps)) (t : TriplesOk ps.toList) :
 Inv X pins σ H { s with heap := h', toks := tk } := by
 have z := I.write (t' := tk) (by rw [hP]; trivial) (.inl rfl) k ⟨_, e⟩ (px e t)
 rw [tz hP] at z
 exact z
theorem Inv.gens (I : Inv X pins σ H s) {s'} (hh : s'.heap = s.heap) (ho : s'.os = s.os) (hb : AllBare s'.gens) (hz : s.gens.size ≤ s'.gens.size) : Inv X pins σ H s' :=
 I.call' (ch := []) ⟨ho, hz⟩ (by rw [hh]; exact Un.refl) (by rw [hh]; exact I.hok) hb fun b hb => absurd hb (by simp)
theorem ia (hb : AllBare s.gens) (hx : x.bare = true) : AllBare (s.setGen g x).gens := by
 intro y hy
 obtain ⟨i, hi, rfl⟩ := Array.mem_iff_getElem.mp hy
 by_cases e : i = g
 · subst e
   simp [Shared.setGen, hx]
 · have hs := by simpa [Shared.setGen] using hi
   have q : (s.setGen g x).gens[i]? = s.gens[i]? := by simp [Shared.setGen, Ne.symm e]
   rw [Array.getElem?_eq_getElem hi, Array.getElem?_eq_getElem hs] at q
   rw [Option.some.inj q]
   exact hb _ (Array.getElem_mem hs)
theorem iO : (s.setGen g x).gens.size = s.gens.size := by simp [Shared.setGen]
theorem vn {Q} {c P} {pos} {q} {sc} (I : Inv X pins σ H s) (hc : X.env.code = .ref c) (hd : PySem.W.CodeHd X.base c P) (ht : H P = some (cX P))
 (hQ : ∀ code h' tk, Inv X pins σ H { s with heap := h', toks := tk } → (∀ b o, b ≠ P → s.heap.get? b = some o → h'.get? b = some o) → Q code { s with heap := h', toks := tk }) : wpAny M A (genexprCode X.env pos q sc) Q E s := by
 obtain ⟨⟨ps, e, t⟩, _, _⟩ := I.hok P _ ht
 have hd' := hd.keeps I.bk
 cases hf : codeAmong _ _ with
 | some cv => exact wpAny_genexprCode_hit hc (hd'.code e t) hf (hQ cv _ _ I fun _ _ _ e => e)
 | none =>
  refine wpAny_genexprCodeX hc (hd'.code e t) (hd'.tab e) hf fun c' h' tk hx _ _ hcode _ htab _ => ?_
  obtain ⟨_, _, _, _, _, _, _, _, _, op, _, _, _, _, _, _, _, hop, hpd, htr, _⟩ := hcode
  exact hQ _ h' tk (I.grown ht (fun b o hb e => hx b o hb e) htab.2 htr) fun b o hb e => hx b o hb e
theorem yp {Q} (I : Inv X pins σ H s) (B : Bm X.mg X.base) (h : Q builtinsNs s) : wpAny M A (builtinsFor X.env.globals X.env.builtins) Q E s := by
 obtain ⟨bm, ob, e1, e2, e3, e4, e5, e6⟩ := B.ex
 rw [I.ok.glob]
 exact wpAny_builtinsFor (I.mod.glob.keeps I.bk) e1 e2 (I.bk _ _ e3) e4 e5 e6 h
end
def vg (X : Cx) (N' : List Str) (elt : Expr) (gs : List Comprehension) (scope : Scope) (pos : Pos) (cl : List (Str × Addr)) (C : Addr) (code : Value) (it : Addr) (ex : List Addr) (s : Shared) (H : Hp) : Cx where
 prog := X.prog
 w := X.w
 K := X.K
 mg := X.mg
 base := X.base
 A := X.A.in1.in1.over (.compLoop (.GeneratorExp elt gs scope pos) 0 (.ref it) .none (genEnv scope cl C code builtinsNs X.env)) []
 N := N'
 s₀ := s
 H₀ := H
 env := genEnv scope cl C code builtinsNs X.env
 outer := X.stack
 stack := genEnv scope cl C code builtinsNs X.env :: X.stack
 ex := ex
 fn := fun _ => false
 calm := X.calm
 pn := []
 xe := fun _ _ => False
section
variable {X : Cx} {pins : List (Addr × Obj)} {σ : St} {H H' : Hp} {s : Shared}
theorem wP (I : Inv X pins σ H s) {elt : Expr} {gs : List Comprehension} {scope : Scope} {pos : Pos} {N' : List Str} {ix : List (Option Nat)} {cl : List (Str × Addr)} {ex : List Addr} {code : Value} {it : Addr} {h' : Heap} {tk : Nat} {g' : Array GenState} (hok : aZ X.env.scope X.N scope N' ix = true)
 (hc1 : ∀ x c, cl.lookup x = some c → X.env.cells.lookup x = some c) (hc2 : ∀ x, (x, NameKind.free) ∈ scope.names → (cl.lookup x).isSome = true) (hex : ∀ b ∈ ex, bA X pins H b ∧ b < s.heap.objs.size)
 {mC : Str → Option Value} (hns : h'.Ns s.heap.objs.size mC) (old : ∀ b o, s.heap.get? b = some o → h'.get? b = some o) (hg : AllBare g') :
 Inv (vg X N' elt gs scope pos cl s.heap.objs.size code it ex { s with gens := g' } H) [] (bV ix σ) H { s with heap := h', gens := g', toks := tk } := by
 obtain ⟨hk, _, nocell⟩ := ci hok
 refine ⟨⟨I.ok.mod, hk, I.ok.glob, rfl, Nat.le_refl _, fun x y c e1 e2 => I.ok.inj x y c (hc1 x c e1) (hc1 y c e2), fun x hx => ?_, fun x c z => (nomatch z), I.ok.hd, ?_, .inr ⟨rfl, rfl⟩, fun b hb => ?_, I.bs, Nat.le_trans I.ok.bsz I.sz, fun b o e hb => ?_, fun b hb => I.off (hex b hb).1, I.stack, I.stkFree⟩,
  ⟨rfl, Nat.le_refl _⟩, hg, Un.kept old, ⟨_, hns, fun i x v e1 e2 e3 => ?_⟩, fun x c e => ?_, I.hok.fresh (Nat.le_refl _), fun x c e => I.freeC x c (hc1 x c e), fun p hp => (nomatch hp), I.hok.kept old, ?_⟩
 · refine Option.isSome_iff_exists.mp (hc2 x ?_)
   rcases hx with z | z
   · exact absurd rfl (nocell _ (PySem.mem_of_lookup (show scope.names.lookup x = some .cell from z)))
   · exact PySem.mem_of_lookup (show scope.names.lookup x = some .free from z)
 · show pushEnvs [_] X.A.frames = _
   rw [I.ok.frames]
   rfl
 · exact ⟨Nat.ne_of_lt (hex b hb).2, fun x c e => (hex b hb).1.2.2.2.2.1 x c (hc1 x c e)⟩
 · rcases (hex b hb).1.2.2.2.1 with z | z
   · exact I.ok.noex b o e z
   · exact absurd (Nat.lt_of_lt_of_le (Nat.lt_of_lt_of_le (Heap.lt_size e) I.ok.bsz) z) (Nat.lt_irrefl _)
 · obtain ⟨u, r, hf, c, hc, z⟩ := lH I hok hc1 hc2 old e1 e2
   exact ⟨u, r, .inr ⟨.inr hf, c, hc, z⟩⟩
 · obtain ⟨v, o, ho', hd⟩ := I.cell x c (hc1 x c e)
   exact ⟨v, o, old _ o ho', hd⟩
 · unfold aZ at hok
   rw [lX]
   exact dh (Bool.and_eq_true_iff.mp hok).2
end
section
variable {Xc : Cx} {pg : List (Addr × Obj)} {σc : St} {d : Bool} {Q : VK} {J : It} {fp : List Addr} {it : Addr} {tn : Nat → Heap → Prop} {elt target iter : Expr} {ifs : List Expr} {scope : Scope} {pos : Pos} {g : TG} {tt : TT} {te : TE} {A1 : Around}
 {W : Nat → Nat → Hp → Prop}
theorem qS (T : jg Xc.prog Xc.w Xc.K target J fp it tn) {n} {s s₀} {R} {Y} (st : tn 0 s.heap)
 (loop : Seg (model Xc.prog Xc.w) A1 R Y n s₀ (.compLoop (.GeneratorExp elt [⟨target, iter, ifs, 0⟩] scope pos) 0 (.ref it) .none Xc.env)
  ((model Xc.prog Xc.w).den (.compLoop (.GeneratorExp elt [⟨target, iter, ifs, 0⟩] scope pos) 0 (.ref it) .none Xc.env)) [] s) :
 Seg (model Xc.prog Xc.w) A1 R Y n s₀ (.compStart (.GeneratorExp elt [⟨target, iter, ifs, 0⟩] scope pos) 0 (.ref it) .none Xc.env)
  ((model Xc.prog Xc.w).den (.compStart (.GeneratorExp elt [⟨target, iter, ifs, 0⟩] scope pos) 0 (.ref it) .none Xc.env)) [] s := by
 show Seg _ A1 _ _ _ _ _ ((compStart _ 0 _ _ _).onRaise _) [] s
 rw [Sem.onRaise_eq_wrap]
 refine seg_bind_wrap (wpAny_askSetting ?_)
 split
 · exact seg_again rfl loop
 · first
    | exact seg_bind_wrap (wpAny_rule (seg_bind_wrap (wpAny_standAt (seg_bind_wrap (T.self _ 0 s _ _ st (seg_again rfl loop))))))
end
structure Tb (K : PySem.W.Frag) (mg : Str → Option Value) (base : Heap) (x : Str) (P : Addr) : Prop where
 ex : ∃ c, PySem.W.tabIn K x = some (c, P) ∧ PySem.W.CodeHd base c P
 kb : K.In base
 nb : base.Ns mainGlobals mg
 bm : Bm mg base
section
variable {Pg : Program} {w : World} {K : PySem.W.Frag} {mg : Str → Option Value} {base : Heap}
theorem Df.hasT {st} {N ps} {k} {sp} {P} (F : Df K mg x st) (T : Tb K mg base x P) (S : cf N ps (ah st))
 (hb : ∀ (kV doc pm : Value) (an : Option _) (cdv ct : Value) (us : List _), us.length = ps.length → bindArgs (PySem.W.fnOf x x (aL st) (aB st) (ah st) .none kV doc pm an cdv ct) ⟨us, []⟩ = pure (ps.zip us))
 (len : ∀ vs H Q E, sp vs H Q E → vs.length = ps.length)
 (hbody : ∀ (f c : Addr) (A : Around) (outer : List _) (s : Shared) (H : Hp) (vs : List V) (Q : VK) (E : XK), PySem.W.CodeHd base c P → Bm mg base → bh k (A.deeper (envOfC x (ah st) s.heap.objs.size f (.ref c))) → sp vs H Q E →
  ∃ t, fK (iW mn Pg w K mg base N x (ah st) f (.ref c) A outer s H E).nox (aB st) t ∧ t { nx := fun _ H' => Q .non H', rt := Q } (start N vs) H) : GJ Pg w K mg base (k + 1) x ps sp := by
 obtain ⟨f, fd, F, m⟩ := F.ex
 obtain ⟨c, ht, hcd⟩ := T.ex
 obtain ⟨oc, od, kV, doc, pm, an, cdv, ct, osl, e, lk, hcd'⟩ := id F.ex
 have hcode := PySem.W.law_code T.kb T.nb ht m (T.kb _ _ lk) rfl
 have hcv : cdv = .ref c := by simp_all
 subst hcv
 refine ⟨f, fd, ?_, m, F.kp, F.binds hb⟩
 rw [e] at lk ⊢
 refine zb lk hcd' S len fun A outer s H vs Q E hr hsp => ?_
 obtain ⟨t, h, q⟩ := hbody f c A _ s H vs Q E hcd T.bm hr hsp
 exact ⟨t, h.nox, q⟩
end
theorem qc {P : Program} {w : World} {K : PySem.W.Frag} {mg mb : Str → Option Value} {k : Nat} {fa a : Addr} {fd : FuncData} {x : Str} {sp : Sp} {s₁ : Shared} {vs : List Value} {ns : List Int} {tabs : List (Addr × Addr)}
 (KX : K.In s₁.heap) (hns : s₁.heap.Ns mainGlobals mg) (hb : s₁.heap.Ns builtinsNs mb) (hbb : ∀ x : Str, x ≠ "__name__" → mb x = bootBuiltins x) (hlim : s₁.heap.NoLimit) (hbm : Bm mg s₁.heap) (hg : s₁.gens = #[])
 (ha : s₁.heap.get? a = some { cls := .type "list", data := .seq vs.toArray }) (hi : IntsAre vs ns) (hl : ns.length ≤ sizeLine) (hr : bh k callerA) (hT : PySem.W.TabsAt tabs s₁.heap) (hnt : PySem.W.noTabs K = true)
 (F : ∀ base : Heap, K.In base → base.Ns mainGlobals mg → Bm mg base → (∀ q ∈ tabs, PySem.W.CodeHd base q.1 q.2) → fG P w K mg base mn k fa fd [x] sp) (hbind : ∀ (s : Shared) (u : Value), BindsTo s fd ⟨[u], []⟩ [(x, u)])
 (hsp : ∀ H : Hp, cO K H a (ns.map V.int) → (∀ q ∈ tabs, H q.2 = some (cX q.2)) → sp [.ref a] H (fun v H' => v = .bl true ∧ ∀ q ∈ tabs, H' q.2 = some (cX q.2)) fun _ _ _ => False) :
 codeAny (model P w) callerA (.call (.ref fa) ⟨[.ref a], []⟩) (fun r s' => r = .ok (.ret (.bool true)) ∧ OldK s₁.heap s'.heap ∧ s'.os = s₁.os ∧ AllBare s'.gens) s₁ := by
 have rv := gd hi
 have lenV := hi.length
 have tabObj_at : ∀ b ∈ tabs.map (·.2), s₁.heap.get? b = some (PySem.W.tabObj #[]) := fun b hb => by
  obtain ⟨q, hq, rfl⟩ := List.mem_map.mp hb
  exact (hT q hq).2
 have aNot : a ∉ tabs.map (·.2) := fun hb => by
  have e := tabObj_at a hb
  rw [ha] at e
  cases e
 have vM : ∀ b o, K.lookup b = some o → b ∉ tabs.map (·.2) := fun b o e hb => by
  have e1 := tabObj_at b hb
  rw [KX b o e] at e1
  cases e1
  have h2 := List.all_eq_true.mp hnt (b, _) (PySem.W.mem_of_lookupK e)
  exact absurd (show false = true from h2) Bool.false_ne_true
 have core : ∀ H : Hp, (∀ b, b ∉ tabs.map (·.2) → H b = none ∨ (b = a ∧ K.lookup a = none ∧ ∃ o xs, H b = some (.frz o (.lst xs)))) → (∀ b ∈ tabs.map (·.2), H b = some (cX b)) → cO K H a (ns.map V.int) → fI P w H s₁.heap →
  codeAny (model P w) callerA (.call (.ref fa) ⟨[.ref a], []⟩) (fun r s' => r = .ok (.ret (.bool true)) ∧ OldK s₁.heap s'.heap ∧ s'.os = s₁.os ∧ AllBare s'.gens) s₁ := by
  intro H hO hB hS hok
  have base_of : ∀ {b : Addr} {o : Obj}, s₁.heap.get? b = some o → H b = none → (iF s₁.heap H).get? b = some o := fun e n => va e n
  have free_of : ∀ {b : Addr} {o : Obj}, s₁.heap.get? b = some o → o ≠ PySem.W.tabObj #[] → o ≠ { cls := .type "list", data := .seq vs.toArray } → H b = none := fun {b o} e n1 n2 => by
   by_cases hb : b ∈ tabs.map (·.2)
   · have := tabObj_at b hb
     rw [e] at this
     exact absurd (Option.some.inj this) n1
   · rcases hO b hb with z | ⟨z, _, _⟩
     · exact z
     · rw [z, ha] at e
       exact absurd (Option.some.inj e).symm n2
  have nsK : ∀ {b : Addr} {m : Str → Option Value}, s₁.heap.Ns b m → (iF s₁.heap H).Ns b m := fun {b m} ⟨o, es, ep, e, d, r⟩ => ⟨o, es, ep, base_of e (free_of e (fun z => by rw [z] at d; cases d) (fun z => by rw [z] at d; cases d)), d, r⟩
  have hKb : K.In (iF s₁.heap H) := fun b o e => base_of (KX b o e) (by
   rcases hO b (vM b o e) with z | ⟨z, z2, _⟩
   · exact z
   · rw [z, z2] at e; cases e)
  have hM : Mod K mg (iF s₁.heap H) := ⟨hKb, nsK hns, ⟨mb, nsK hb, hbb⟩, let ⟨mc, h1, h2⟩ := hlim; ⟨mc, nsK h1, h2⟩⟩
  have hbmB : Bm mg (iF s₁.heap H) := by
   obtain ⟨bm, ob, e1, e2, e3, e4, e5, e6⟩ := hbm.ex
   exact ⟨bm, ob, e1, e2, base_of e3 (free_of e3 (fun z => by rw [z] at e4; cases e4) (fun z => by rw [z] at e4; injection e4 with e; exact absurd e (by decide))), e4, e5, e6⟩
  have hcdB : ∀ q ∈ tabs, PySem.W.CodeHd (iF s₁.heap H) q.1 q.2 := fun q hq => by
   obtain ⟨o, vs', file, tf, flags, tg, inF, text, tt, e1, r1, r⟩ := (hT q hq).1
   exact ⟨o, vs', file, tf, flags, tg, inF, text, tt, base_of e1 (free_of e1 (fun z => by rw [z] at r1; cases r1) (fun z => by rw [z] at r1; injection r1 with e; exact absurd e (by decide))), r1, r⟩
  have e0 : wL P w K mg (iF s₁.heap H) callerA [] s₁ H := ⟨rfl, hM, fun b o e => xR e, Nat.le_of_eq (qZ _ _), trivial, fun b hb => absurd (show b ∈ ([] : List Addr) from hb) (by simp), hok, .of_eq hg⟩
  refine codeAny_mono ((F _ hKb (nsK hns) hbmB hcdB).run callerA [] s₁ H ⟨[.ref a], []⟩ [.ref a] [.ref a] _ _ hr e0 (hbind s₁ (.ref a)) (.cons rfl .nil) (hsp H hS fun q hq => hB _ (List.mem_map_of_mem hq))) fun r s' h => ?_
  cases r with
  | error e => exact False.elim h
  | ok fl =>
   cases fl with
   | next => exact False.elim h
   | brk => exact False.elim h
   | cont => exact False.elim h
   | ret u =>
    obtain ⟨v, H', os, bare, un, hok', r', q', qt⟩ := h
    subst q'
    obtain rfl : u = Value.bool true := r'
    have kept : ∀ b o, b ∉ tabs.map (·.2) → s₁.heap.get? b = some o → s'.heap.get? b = some o := fun b o hb e => by
     rcases hO b hb with z | ⟨_, _, ob, xs, z⟩
     · exact un.keep b o e z (by intro z; exact absurd (show b ∈ ([] : List Addr) from z) (by simp)) (by simp)
     · have z2 := un.frzs b ob _ z
       obtain ⟨e1, _⟩ := hok b _ z
       obtain ⟨e2, _⟩ := hok' b _ z2
       rw [e] at e1; cases e1
       exact e2
    have grown : ∀ b ∈ tabs.map (·.2), ∃ ps, s'.heap.get? b = some (PySem.W.tabObj ps) := fun b hb => by
     obtain ⟨q, hq, rfl⟩ := List.mem_map.mp hb
     obtain ⟨⟨ps, e, _⟩, _⟩ := hok' _ _ (qt q hq)
     exact ⟨ps, e⟩
    refine ⟨rfl, ⟨fun b o e => ?_, fun b o e => ?_⟩, os.1, bare⟩
    · by_cases hb : b ∈ tabs.map (·.2)
      · have e1 := tabObj_at b hb
        rw [e] at e1
        cases e1
        obtain ⟨ps, e2⟩ := grown b hb
        obtain ⟨q, hq, rfl⟩ := List.mem_map.mp hb
        exact .inr (.inl ⟨((hT q hq).1.tab (hT q hq).2).isCodeTable, rfl, #[], ps, rfl, by rw [Array.empty_append]; exact e2⟩)
      · exact .inl (kept b o hb e)
    · by_cases hb : b ∈ tabs.map (·.2)
      · obtain ⟨ps, e2⟩ := grown b hb
        exact ⟨_, e2⟩
      · exact ⟨o, kept b o hb e⟩
 have tabOk : ∀ {H : Hp} {b : Addr}, b ∈ tabs.map (·.2) → bv P w H s₁.heap b (cX b) := fun {H b} hb => px (tabObj_at b hb) trivial
 cases hk : K.lookup a with
 | some o =>
  have e := KX a o hk
  rw [ha] at e
  cases e
  refine core (fun b => if b ∈ tabs.map (·.2) then some (cX b) else none) (fun b hb => .inl (if_neg hb)) (fun b hb => if_pos hb) (.inr ⟨_, vs.toArray, _, hk, rfl, rfl, rfl, by rw [List.size_toArray, lenV]; exact hl, by simpa using rv⟩) (fun b u z => ?_)
  by_cases hb : b ∈ tabs.map (·.2)
  · have z' := (if_pos hb).symm.trans z
    cases z'
    exact tabOk hb
  · have z' := (if_neg hb).symm.trans z
    cases z'
 | none =>
  refine core (fun b => if b ∈ tabs.map (·.2) then some (cX b) else if b = a then some (.frz { cls := .type "list", data := .seq vs.toArray } (.lst (ns.map V.int))) else none) (fun b hb => ?_) (fun b hb => if_pos hb) (.inl (.inr ⟨{ cls := .type "list", data := .seq vs.toArray }, (if_neg aNot).trans (if_pos rfl)⟩)) (fun b u z => ?_)
  · by_cases e : b = a
    · exact .inr ⟨e, hk, _, _, (if_neg hb).trans (if_pos e)⟩
    · exact .inl ((if_neg hb).trans (if_neg e))
  · by_cases hb : b ∈ tabs.map (·.2)
    · have z' := (if_pos hb).symm.trans z
      cases z'
      exact tabOk hb
    · have z1 := (if_neg hb).symm.trans z
      by_cases e : b = a
      · have z' := (if_pos e).symm.trans z1
        cases z'
        subst e
        exact ⟨ha, by rw [List.length_map]; exact hl, vs, _, rv, ha⟩
      · have z' := (if_neg e).symm.trans z1
        cases z'
theorem u5 {l : PySem.W.OpenLaw} {n k} {q} {loose} {XP} {YP} {d} {K : Params → PySem.W.Frag} {x}
 (hn : l.most = some n) (hn2 : n ≤ sizeLine) (hdf : d.params.defaults = []) (hr : bh k callerA)
 (hY : ∀ (w : World) (h : Heap), YP w h → (K w.params).In h) (hnt : ∀ w : World, PySem.W.noTabs (K w.params) = true)
 (F : ∀ (w : World) (mg mb : Str → Option _) (fa : Addr) (h : Heap) (s₀ : Shared), PySem.W.Ground q loose [] XP w s₀ mg mb h → (K w.params).In h → h.Ns mainGlobals mg → mg d.name = some (.ref fa) →
  ∃ (fd : FuncData) (tabs : List _) (sp : Sp), (∀ (s : Shared) (u : Value), BindsTo s fd ⟨[u], []⟩ [(x, u)]) ∧ PySem.W.TabsAt tabs h ∧
   (∀ base, (K w.params).In base → base.Ns mainGlobals mg → Bm mg base → (∀ q ∈ tabs, PySem.W.CodeHd base q.1 q.2) → fG l.prog w (K w.params) mg base mn k fa fd [x] sp) ∧
   ∀ (H : Hp) (a : Addr) (ns : List _), ns.length ≤ n → cO (K w.params) H a (ns.map V.int) → (∀ q ∈ tabs, H q.2 = some (cX q.2)) → sp [.ref a] H (fun v H' => v = .bl true ∧ ∀ q ∈ tabs, H' q.2 = some (cX q.2)) fun _ _ _ => False) :
 PySem.W.WalkO q loose XP YP l.row.toRowW d [] fun f vs => PySem.call f vs := by
 refine Att.lI hn hdf fun w s₀ s₁ mg mb fa o pm cd doc a vs ns G Y ho hd hcd hmg hobj hints hlen hg => ?_
 have KX := hY w _ Y
 obtain ⟨fd, tabs, sp, hb, hT, hF, hsp⟩ := F w mg mb fa _ _ G KX G.T.g hmg
 have hbm : Bm mg _ := let ⟨bm, ob, e1, e2, e3, e4, e5, e6⟩ := G.T.bmain; ⟨bm, ob, e1, e2, e3, e4, e5, e6⟩
 exact qc KX G.T.g G.T.b G.T.builtins G.T.nolimit hbm hg hobj hints (Nat.le_trans hlen hn2) hr hT (hnt w) hF hb fun H hS hTb => hsp H a ns hlen hS hTb
def Kt (h : Heap) (x C : Addr) : Option Addr → Prop
 | none => ∃ oe vs, h.get? x = some oe ∧ oe.cls = .ref C ∧ oe.data = .fields vs ∧ vs[1]? = some .none
 | some T => ∃ oe vs oT ts, h.get? x = some oe ∧ oe.cls = .ref C ∧ oe.data = .fields vs ∧ vs[1]? = some (.ref T) ∧ T ≠ x ∧ h.get? T = some oT ∧ oT.data = .fields ts ∧ ts[3]? = some .none
structure Fl (h0 : Heap) (H : Hp) (h : Heap) (x C : Addr) : Prop where
 ex : ∃ T, Kt h x C T ∧ H x = none ∧ h0.get? x = none ∧ ∀ t, T = some t → H t = none ∧ h0.get? t = none
end L2
end
section
namespace L2
open PySem PySem.Spec PyProof.Rows SeqAt
section
variable {X : Cx} {K : PySem.W.Frag}
theorem fZ : fillsNumberSlot (.type "tuple") "mul" = pure false := rfl
theorem kJ : seqRepeat? (.type "tuple") = pure (some (.builtin "tuple.__mul__")) := rfl
theorem gX (a : Int) (t : Tok) (l : Addr) (ag : Array _) (n : Nat) (dd : Option _) (sl : Array _) :
 Meets (Builtin.«int.__rmul__» ⟨[.int a t, .ref l], []⟩) fun _ R s => s.heap.get? l = some { cls := .type "tuple", dict := dd, data := .seq ag n, slots := sl } ∧ R (.ok (.ret Value.notImplemented)) s :=
 .of_wp fun prog w A R s h => by obtain ⟨hl, h⟩ := h; wp_walk; exact ⟨_, rfl, h⟩
theorem nY (l : Addr) (ag : Array _) (n : Nat) (dd : Option _) (sl : Array _) (u : Tok) :
 Meets (Builtin.«tuple.__mul__» ⟨[.ref l, .int 1 u], []⟩) fun _ R s => s.heap.get? l = some { cls := .type "tuple", dict := dd, data := .seq ag n, slots := sl } ∧ R (.ok (.ret (.ref l))) s :=
 .of_wp fun prog w A R s h => by
  obtain ⟨hl, h⟩ := h; wp_walk using AutoSeq1.wpAny_loadPart' hl; exact ⟨_, rfl, h⟩
theorem nk (l : Addr) (v : Value) (n : Nat) (dd : Option _) (sl : Array _) (u : Tok) :
 Meets (Builtin.«tuple.__mul__» ⟨[.ref l, .int 0 u], []⟩) fun _ R s => s.heap.get? l = some { cls := .type "tuple", dict := dd, data := .seq #[v] n, slots := sl } ∧ R (.ok (.ret (.ref s.heap.objs.size))) { s with heap := s.heap.push { cls := .type "tuple", data := .seq #[] } } :=
 .of_wp fun prog w A R s h => by
  obtain ⟨hl, h⟩ := h; wp_walk using AutoSeq1.wpAny_loadPart' hl; exact ⟨_, rfl, h⟩
theorem nr (l : Addr) (ag : Array _) (n : Nat) (dd : Option _) (sl : Array _) (x : Int) (u : Tok) (c0 : ¬(decide (x < -2 ^ 63) || decide (x ≥ 2 ^ 63)) = true) (c1 : ¬(ag.isEmpty || x == 1) = true) (c2 : ¬(decide (x ≤ 0) || ag.isEmpty) = true)
 (c3 : ¬ag.size * x > (2 ^ 63 - 1) / 8) (c4 : ¬Builtin.Tuple.tupleTooMany (ag.size * x) = true) (hsz : ¬ ((List.replicate x.toNat ag).foldl (· ++ ·) #[]).size > sizeLine) :
 Meets (Builtin.«tuple.__mul__» ⟨[.ref l, .int x u], []⟩) fun _ R s => s.heap.get? l = some { cls := .type "tuple", dict := dd, data := .seq ag n, slots := sl } ∧ R (.ok (.ret (.ref s.heap.objs.size))) { s with heap := s.heap.push { cls := .type "tuple", data := .seq ((List.replicate x.toNat ag).foldl (· ++ ·) #[]) } } :=
 .of_wp fun prog w A R s h => by
  obtain ⟨hl, h⟩ := h; refine wpAny_ite_false (decide_eq_false c0) ?_; wp_walk using AutoSeq1.wpAny_loadPart' hl; refine wpAny_ite_false (decide_eq_false c3) ?_; wp_walk; exact ⟨_, rfl, h⟩
end
end L2
end
section
namespace L2
structure Ap (z TI TO i1 i2 : Addr) : Prop where
 TIz : TI ≠ z
 TOz : TO ≠ z
 i1z : i1 ≠ z
 i2z : i2 ≠ z
 TITO : TI ≠ TO
 TIi1 : TI ≠ i1
 TIi2 : TI ≠ i2
 TOi1 : TO ≠ i1
 TOi2 : TO ≠ i2
 i12 : i1 ≠ i2
section
variable {prog : Program} {w : World} {A : Around} {E : Value → Shared → Prop} {s : Shared}
def Be (z TO i1 i2 : Addr) (h h' : Heap) : Prop := ∀ c o, c ≠ z → c ≠ TO → c ≠ i1 → c ≠ i2 → h.get? c = some o → h'.get? c = some o
theorem ma {z TI TO i1 i2 : Addr} {a b : Value} {T1 T2 : Heap → Prop} {P1 P2 : Value → Heap → Prop} {EN : Prop} {Q : Fin → Shared → Prop} (D : Ap z TI TO i1 i2)
 (hz : IsZip s.heap z TI TO .none) (hTI : IsPair s.heap TI (.ref i1) (.ref i2)) (hTO : IsPair s.heap TO a b) (t1 : T1 s.heap) (t2 : T2 s.heap) (f1 : rg i1 T1) (f1' : ∀ x, rg i1 (P1 x)) (f2 : rg i2 T2) (f2' : ∀ y, rg i2 (P2 y))
 (n1 : ∀ h, Be z TO i1 i2 s.heap h → T1 h → ∀ (E' Q' : Value → Shared → Prop), (EN → ∀ h' e, Heap.ExtBut i1 h h' → (∃ o, h'.get? e = some o ∧ o.cls = .type "StopIteration") → E' (.ref e) { s with heap := h' }) → (∀ x h', P1 x h' → Heap.SameBut i1 h h' → Q' x { s with heap := h' }) → wpAny (model prog w) A (Builtin.SmallTypes.nextOf (.ref i1)) Q' E' { s with heap := h })
 (n2 : ∀ x h1, P1 x h1 → ∀ h, Be z TO i1 i2 s.heap h → T2 h → ∀ (E' Q' : Value → Shared → Prop), (EN → ∀ h' e, Heap.ExtBut i2 h h' → (∃ o, h'.get? e = some o ∧ o.cls = .type "StopIteration") → E' (.ref e) { s with heap := h' }) → (∀ y h', P2 y h' → Heap.SameBut i2 h h' → Q' y { s with heap := h' }) → wpAny (model prog w) A (Builtin.SmallTypes.nextOf (.ref i2)) Q' E' { s with heap := h })
 (hQ : ∀ x y h', IsZip h' z TI TO (rawInt s.heap.objs.size) → IsPair h' TI (.ref i1) (.ref i2) → IsPair h' TO x y → P1 x h' → P2 y h' → IsPair h' s.heap.objs.size x y → h'.objs.size = s.heap.objs.size + 1 → Be z TO i1 i2 s.heap h' → Q (.done (.ret (.ref s.heap.objs.size))) { s with heap := h' })
 (hE : EN → ∀ h' e, Be z TO i1 i2 s.heap h' → (∃ o, h'.get? e = some o ∧ o.cls = .type "StopIteration") → E (.ref e) { s with heap := h' }) :
 wpAny (model prog w) A (Builtin.«zip.__next__» ⟨[.ref z], []⟩) Q E s := by
 show wpAny _ _ (field (.ref z) 2 >>= _) _ _ _
 refine wpAny_bind (wpAny_field hz rfl (x := .bool false) rfl ?_)
 show wpAny _ _ (field (.ref z) 3 >>= _) _ _ _
 refine wpAny_bind (wpAny_field hz rfl (x := .ref TI) rfl ?_)
 refine wpAny_bind (wpAny_seqItems hTI rfl ?_)
 show wpAny _ _ (Builtin.SmallTypes.ownedTupleIsFree (.ref z) >>= _) _ _ _
 refine wpAny_bind ?_
 unfold Builtin.SmallTypes.ownedTupleIsFree
 refine wpAny_bind (wpAny_field hz rfl (x := .none) rfl (wpAny_pure ?_))
 simp only [if_true]
 refine wpAny_bind (wpAny_rule ?_)
 refine wpAny_bind (wpAny_field hz rfl (x := .ref TO) rfl ?_)
 refine wpAny_bind (wpAny_setField_rec hz (by simp) fun h₁ hz₁ hs₁ => ?_)
 replace hz₁ : IsZip h₁ z TI TO .ellipsis := hz₁
 refine wpAny_bind ?_
 simp only [List.zipIdx_cons, List.zipIdx_nil, List.forIn_cons, List.forIn_nil]
 have g1 : Be z TO i1 i2 s.heap h₁ := fun c o c1 _ _ _ e => hs₁.extBut _ _ c1 e
 refine wpAny_bind (wpAny_bind (wpAny_onRaise ?_))
 show wpAny _ _ (Builtin.SmallTypes.nextOf (.ref i1) >>= _) _ _ _
 refine wpAny_bind (n1 h₁ g1 (f1 _ _ t1 fun o e => hs₁.extBut _ _ D.i1z e) _ _ (fun en h₂ e hs₂ he => ?_) fun x h₂ h1₂ hs₂ => wpAny_pure ?_)
 · obtain ⟨oe, hoe, hce⟩ := he
   have hz₂ : IsZip h₂ z TI TO .ellipsis := hs₂ _ _ D.i1z.symm hz₁
   have hez : e ≠ z := fun x => by subst x; rw [hz₂] at hoe; cases hoe; simp at hce
   exact wpAny_setField_rec hz₂ (by simp) fun h₃ _ hs₃ => hE en h₃ e (fun c o c1 c2 c3 c4 x => hs₃.extBut _ _ c1 (hs₂ _ _ c3 (g1 c o c1 c2 c3 c4 x))) ⟨oe, hs₃.extBut _ _ hez hoe, hce⟩
 have hTO₂ : IsPair h₂ TO a b := hs₂.extBut _ _ D.TOi1 (hs₁.extBut _ _ D.TOz hTO)
 refine wpAny_bind (wpAny_seqItems hTO₂ rfl ?_)
 refine wpAny_bind (wpAny_updateSeq_pair hTO₂ fun h₃ hTO₃ hs₃ => ?_)
 replace hTO₃ : IsPair h₃ TO x b := hTO₃
 refine wpAny_bind (wpAny_letGo (wpAny_pure ?_))
 have g3 : Be z TO i1 i2 s.heap h₃ := fun c o c1 c2 c3 c4 e => hs₃.extBut _ _ c2 (hs₂.extBut _ _ c3 (g1 c o c1 c2 c3 c4 e))
 refine wpAny_bind (wpAny_bind (wpAny_onRaise ?_))
 show wpAny _ _ (Builtin.SmallTypes.nextOf (.ref i2) >>= _) _ _ _
 refine wpAny_bind (n2 _ _ h1₂ h₃ g3 (f2 _ _ t2 fun o e => hs₃.extBut _ _ D.TOi2.symm (hs₂.extBut _ _ D.i12.symm (hs₁.extBut _ _ D.i2z e))) _ _ (fun en h₄ e hs₄ he => ?_) fun y h₄ h2₄ hs₄ => wpAny_pure ?_)
 · obtain ⟨oe, hoe, hce⟩ := he
   have hz₄ : IsZip h₄ z TI TO .ellipsis := hs₄ _ _ D.i2z.symm (hs₃.extBut _ _ D.TOz.symm (hs₂.extBut _ _ D.i1z.symm hz₁))
   have hez : e ≠ z := fun x => by subst x; rw [hz₄] at hoe; cases hoe; simp at hce
   exact wpAny_setField_rec hz₄ (by simp) fun h₅ _ hs₅ => hE en h₅ e (fun c o c1 c2 c3 c4 x => hs₅.extBut _ _ c1 (hs₄ _ _ c4 (g3 c o c1 c2 c3 c4 x))) ⟨oe, hs₅.extBut _ _ hez hoe, hce⟩
 have hTO₄ : IsPair h₄ TO x b := hs₄.extBut _ _ D.TOi2 hTO₃
 refine wpAny_bind (wpAny_seqItems hTO₄ rfl ?_)
 refine wpAny_bind (wpAny_updateSeq_pair hTO₄ fun h₅ hTO₅ hs₅ => ?_)
 replace hTO₅ : IsPair h₅ TO x y := hTO₅
 refine wpAny_bind (wpAny_letGo (wpAny_pure (wpAny_pure ?_)))
 refine wpAny_bind (wpAny_seqItems hTO₅ rfl ?_)
 refine wpAny_bind (wpAny_newTuple ?_)
 have hsz : h₅.objs.size = s.heap.objs.size := by rw [hs₅.1, hs₄.1, hs₃.1, hs₂.1, hs₁.1]
 have hz₅ : IsZip h₅ z TI TO .ellipsis := hs₅.extBut _ _ D.TOz.symm (hs₄.extBut _ _ D.i2z.symm (hs₃.extBut _ _ D.TOz.symm (hs₂.extBut _ _ D.i1z.symm hz₁)))
 have g5 : Be z TO i1 i2 s.heap h₅ := fun c o c1 c2 c3 c4 e => hs₅.extBut _ _ c2 (hs₄.extBut _ _ c4 (g3 c o c1 c2 c3 c4 e))
 have h1₅ : P1 x h₅ := f1' _ _ _ h1₂ fun o e => hs₅.extBut _ _ D.TOi1.symm (hs₄.extBut _ _ D.i12 (hs₃.extBut _ _ D.TOi1.symm e))
 have h2₅ : P2 y h₅ := f2' _ _ _ h2₄ fun o e => hs₅.extBut _ _ D.TOi2.symm e
 have hzlt : z < h₅.objs.size := Heap.lt_size hz₅
 show wpAny _ _ (Builtin.SmallTypes.ownedTupleHandOut (.ref z) (.ref h₅.objs.size) >>= _) _ _ _
 refine wpAny_bind ?_
 unfold Builtin.SmallTypes.ownedTupleHandOut
 have hz₆ : IsZip (h₅.push { cls := .type "tuple", data := .seq #[x, y] }) z TI TO .ellipsis := Heap.get?_push_of_some _ hz₅
 refine wpAny_bind (wpAny_setField_rec hz₆ (by simp) fun h₇ hz₇ hs₇ => ?_)
 replace hz₇ : IsZip h₇ z TI TO (rawInt h₅.objs.size) := hz₇
 refine wpAny_setField_rec hz₇ (by simp) fun h₈ hz₈ hs₈ => ?_
 replace hz₈ : IsZip h₈ z TI TO (rawInt h₅.objs.size) := hz₈
 have up : ∀ c o, c ≠ z → h₅.get? c = some o → h₈.get? c = some o := fun c o c1 e => hs₈.extBut _ _ c1 (hs₇.extBut _ _ c1 (Heap.get?_push_of_some _ e))
 have hT₈ : IsPair h₈ h₅.objs.size x y := hs₈.extBut _ _ (Nat.ne_of_gt hzlt) (hs₇.extBut _ _ (Nat.ne_of_gt hzlt) (Heap.get?_push_size _ rfl))
 have hz8 : h₈.objs.size = h₅.objs.size + 1 := by rw [hs₈.1, hs₇.1, Heap.size_push]
 rw [hsz] at hz₈ hT₈ hz8
 refine wpAny_pure ?_
 show Q (.done (.ret (.ref h₅.objs.size))) _
 rw [hsz]
 exact hQ _ _ h₈ hz₈ (up _ _ D.TIz (g5 _ _ D.TIz D.TITO D.TIi1 D.TIi2 hTI)) (up _ _ D.TOz hTO₅) (f1' _ _ _ h1₅ fun o e => up _ o D.i1z e) (f2' _ _ _ h2₅ fun o e => up _ o D.i2z e) hT₈ hz8 fun c o c1 c2 c3 c4 e => up c o c1 (g5 c o c1 c2 c3 c4 e)
end
def Hz (S1 S2 : Hp → List V → Prop) : It := ⟨fun i H => ∃ xs x ys y, S1 H xs ∧ xs[i]? = some x ∧ S2 H ys ∧ ys[i]? = some y,
 fun i H v H' => ∃ p x y, H p = none ∧ v = .ref p ∧ (∀ xs, S1 H xs → xs[i]? = some x) ∧ (∀ ys, S2 H ys → ys[i]? = some y) ∧ H' = bq H p (.tup [x, y]),
 fun i H => ∃ xs ys, S1 H xs ∧ S2 H ys ∧ (xs.length ≤ i ∨ ys.length ≤ i)⟩
theorem tK {P : Program} {w : World} {K : PySem.W.Frag} {elts : List Expr} {x1} {pt : Pos} {z TI TO i1 i2 l1 l2 : Addr} {S1 S2 : Hp → List V → Prop} {T1 T2 : Nat → Heap → Prop} (D : Ap z TI TO i1 i2)
 (k1 : CL P w K S1 l1 i1 T1) (k2 : CL P w K S2 l2 i2 T2) (a1 : l1 ≠ z ∧ l1 ≠ TO ∧ l1 ≠ i1 ∧ l1 ≠ i2) (a2 : l2 ≠ z ∧ l2 ≠ TO ∧ l2 ≠ i1 ∧ l2 ≠ i2) :
 jg P w K (.Tuple elts x1 pt) (Hz S1 S2) [z, TI, TO, i1, i2] z (fun i h => T1 i h ∧ T2 i h ∧ IsZip h z TI TO .none ∧ IsPair h TI (.ref i1) (.ref i2) ∧ ∃ a b, IsPair h TO a b) where
 mem := by simp
 obj := fun i h st b hb => by
  obtain ⟨t1, t2, hz, hTI, u, v, hTO⟩ := st
  simp only [List.mem_cons, List.not_mem_nil, or_false] at hb
  rcases hb with e | e | e | e | e
  · simp_all
  · simp_all
  · simp_all
  · rw [e]; exact k1.obj _ _ t1
  · rw [e]; exact k2.obj _ _ t2
 keep := fun i h h' st k => by
  obtain ⟨t1, t2, hz, hTI, u, v, hTO⟩ := st
  exact ⟨k1.own i _ _ t1 fun o q => k i1 (by simp) o q, k2.own i _ _ t2 fun o q => k i2 (by simp) o q, k z (by simp) _ hz, k TI (by simp) _ hTI, u, v, k TO (by simp) _ hTO⟩
 item := by
  intro X hP hw hK hc i pins s σ H E I hf st hg
  obtain ⟨xs, x, ys, y, q1, hx, q2, hy⟩ := hg
  obtain ⟨t1, t2, hz, hTI, u, v, hTO⟩ := st
  obtain ⟨u1, r1, n1⟩ := k1.nx X hK pins σ H s xs x i I q1 hx
  obtain ⟨u2, r2, n2⟩ := k2.nx X hK pins σ H s ys y i I q2 hy
  have hT : s.TypeIs (.ref z) "zip" := ⟨_, hz, rfl⟩
  unfold pyNext
  refine wpAny_bind (wpAny_attempt (wpAny_callSpecial?_slot (name := Str.ofString "__next__") hT F.slot_zip_next
   (wpAny_call_entry F.slot_zip_next hT F.entry_zip_next
    (ma (T1 := T1 i) (T2 := T2 i) (P1 := fun x h => u1 = x ∧ T1 (i + 1) h) (P2 := fun x h => u2 = x ∧ T2 (i + 1) h) (EN := False) D hz hTI hTO t1 t2 (k1.own i) (fun x h h' t q => ⟨t.1, k1.own _ _ _ t.2 q⟩) (k2.own i) (fun x h h' t q => ⟨t.1, k2.own _ _ _ t.2 q⟩)
     (fun h g t E' Q' _ hQ => n1 h (fun o e => g _ o a1.1 a1.2.1 a1.2.2.1 a1.2.2.2 e) t _ _ _ fun h' t => hQ _ h' ⟨rfl, t⟩) (fun _ _ _ h g t E' Q' _ hQ => n2 h (fun o e => g _ o a2.1 a2.2.1 a2.2.2.1 a2.2.2.2 e) t _ _ _ fun h' t => hQ _ h' ⟨rfl, t⟩)
     (fun w1 w2 h' b1 b2 b3 ⟨e4, b4⟩ ⟨e5, b5⟩ b6 b7 b8 => ⟨_, rfl, wpAny_pure ?_⟩) nofun) (F.args_zip_next_1 _))))
  subst e4 e5
  refine ⟨_, rfl, wpAny_letOwnedTupleGo_zip b1 fun h2 c2 hs2 => ?_⟩
  have pz : s.heap.objs.size ≠ z := Nat.ne_of_gt (Heap.lt_size hz)
  have k2' : ∀ b o, b ∉ [z, TI, TO, i1, i2] → s.heap.get? b = some o → h2.get? b = some o := fun b o hb q => by
   simp only [List.mem_cons, List.not_mem_nil, or_false, not_or] at hb
   exact (hs2.2 b hb.1).trans (b8 b o hb.1 hb.2.2.1 hb.2.2.2.1 hb.2.2.2.2 q)
  have I2 : Inv X pins σ H { s with heap := h2, toks := s.toks } := I.turnedL k2' hf
  have f := I.fpOk (Nat.le_refl _) (I.hok.fresh (Nat.le_refl _))
  have hpt : h2.get? s.heap.objs.size = some { cls := .type "tuple", data := .seq #[u1, u2] } := (hs2.2 _ pz).trans b6
  have I3 := I2.track (o := .tup [x, y]) f ⟨(by show 2 ≤ sizeLine; decide), [u1, u2], .cons r1 (.cons r2 .nil), ⟨_, hpt, rfl, 0, rfl⟩⟩
  have up : ∀ c, c ≠ z → ∀ o, h'.get? c = some o → h2.get? c = some o := fun c hc o e => (hs2.2 c hc).trans e
  refine ⟨.ref s.heap.objs.size, _, I3, rfl, ⟨s.heap.objs.size, x, y, f.1, rfl, fun zs hy' => by rw [k1.inj X pins σ H s zs xs hK I hy' q1]; exact hx, fun zs hy' => by rw [k2.inj X pins σ H s zs ys hK I hy' q2]; exact hy, rfl⟩,
   ⟨k1.own _ _ _ b4 (up _ D.i1z), k2.own _ _ _ b5 (up _ D.i2z), c2, up _ D.TIz _ b2, _, _, up _ D.TOz _ b3⟩, fun b hb => ?_⟩
  have hlt : b < s.heap.objs.size := by
   simp only [List.mem_cons, List.not_mem_nil, or_false] at hb
   rcases hb with e | e | e | e | e
   · rw [e]; exact Heap.lt_size hz
   · rw [e]; exact Heap.lt_size hTI
   · rw [e]; exact Heap.lt_size hTO
   · rw [e]; obtain ⟨o, q, _⟩ := k1.obj _ _ t1; exact Heap.lt_size q
   · rw [e]; obtain ⟨o, q, _⟩ := k2.obj _ _ t2; exact Heap.lt_size q
  rw [az (Nat.ne_of_lt hlt)]
  exact (hf b hb).1
 done := by
  intro X hP hw hK hc i pins s σ H E I hf st hg
  obtain ⟨xs, ys, q1, q2, hend⟩ := hg
  obtain ⟨t1, t2, hz, hTI, u, v, hTO⟩ := st
  have hT : s.TypeIs (.ref z) "zip" := ⟨_, hz, rfl⟩
  unfold pyNext
  refine wpAny_bind (wpAny_attempt (wpAny_callSpecial?_slot (name := Str.ofString "__next__") hT F.slot_zip_next
   (wpAny_call_entry F.slot_zip_next hT F.entry_zip_next (ma (T1 := T1 i) (T2 := T2 i) (P1 := fun _ _ => ys.length ≤ i) (P2 := fun _ _ => False) (EN := True) D hz hTI hTO t1 t2 (k1.own i) (fun _ _ _ h _ => h) (k2.own i) (fun _ _ _ h _ => h) (fun h g t E' Q' hE hI => ?_)
    (fun _ _ h2 h3 g3 t3 E' Q' hE3 _ => k2.en X hK pins σ H s ys i I q2 h2 h3 (fun o e => g3 _ o a2.1 a2.2.1 a2.2.2.1 a2.2.2.2 e) t3 _ _ _ (I.ok.hd hc) (hE3 trivial)) (fun _ _ _ _ _ _ _ h => h.elim) fun _ h' e g he => ?_) (F.args_zip_next_1 _))))
  · by_cases h1 : xs.length ≤ i
    · exact k1.en X hK pins σ H s xs i I q1 h1 h (fun o e => g _ o a1.1 a1.2.1 a1.2.2.1 a1.2.2.2 e) t _ _ _ (I.ok.hd hc) (hE trivial)
    · have h2 : ys.length ≤ i := by simp_all
      obtain ⟨u1, r1, n1⟩ := k1.nx X hK pins σ H s xs (xs[i]'(by omega)) i I q1 (List.getElem?_eq_getElem (by omega))
      exact n1 h (fun o e => g _ o a1.1 a1.2.1 a1.2.2.1 a1.2.2.2 e) t _ _ _ fun h' _ sb => hI _ h' h2 sb
  · obtain ⟨o, ho, hc'⟩ := he
    refine wpAny_bind (wpAny_isInstance (T := "StopIteration") (b := true) ⟨o, ho, hc'⟩ isSubtype_stop ?_)
    refine wpAny_pure ⟨rfl, ?_⟩
    exact I.turnedL (t' := s.toks) (ch := [z, TI, TO, i1, i2]) (fun b o hb q => by
     simp only [List.mem_cons, List.not_mem_nil, or_false, not_or] at hb
     exact g b o hb.1 hb.2.2.1 hb.2.2.2.1 hb.2.2.2.2 q) hf
 self := fun A i s Q E st h => by
  obtain ⟨t1, t2, hz, _⟩ := st
  exact wpAny_pyIter_zip hz h
abbrev Ij (h : Heap) (l1 : Addr) : Heap := h.push { cls := .type "tuple_iterator", data := .fields #[.ref l1, .int 0 0] }
abbrev Iq (h : Heap) (l1 l2 : Addr) : Heap := (Ij h l1).push { cls := .type "tuple_iterator", data := .fields #[.ref l2, .int 0 0] }
abbrev Hv (h : Heap) (l1 l2 : Addr) : Heap := (Iq h l1 l2).push { cls := .type "tuple", data := .seq #[.ref h.objs.size, .ref (Ij h l1).objs.size] }
abbrev Je (h : Heap) (l1 l2 : Addr) : Heap := (Hv h l1 l2).push { cls := .type "tuple", data := .seq #[.none, .none] }
abbrev A8 (h : Heap) (l1 l2 : Addr) : Heap := (Je h l1 l2).push { cls := .type "zip", data := .fields #[.none, .bool false, .bool false, .ref (Iq h l1 l2).objs.size, .ref (Hv h l1 l2).objs.size] }
theorem kT {h : Heap} {a} {ag} (x : h.IsTuple a ag) (o : Obj) : (h.push o).IsTuple a ag := by
 obtain ⟨o', e, r⟩ := x
 exact ⟨o', Heap.get?_push_of_some _ e, r⟩
theorem hU (l1 l2 : Addr) (xs ys : Array Value) :
 Meets (Builtin.«zip.__new__» ⟨[.type "zip", .ref l1, .ref l2], []⟩) (fun _ R s => s.heap.IsTuple l1 xs ∧ s.heap.IsTuple l2 ys ∧
  R (.ok (.ret (.ref (Je s.heap l1 l2).objs.size))) { s with heap := A8 s.heap l1 l2 }) :=
 .of_wp fun prog w A R s h => by
  obtain ⟨hp, g, d, tk, os⟩ := s; obtain ⟨hl1, hl2, h⟩ := h
  have hsub := sub_zip
  have hL1 := hl1
  have hL2 : Heap.IsTuple (Shared.heap ⟨hp.push { cls := .type "tuple_iterator", data := .fields #[.ref l1, .int 0 0] }, g, d, tk, os⟩) l2 ys := kT hl2 _
  wp_walk using wpAny_pyIter_tuple hL1, wpAny_pyIter_tuple hL2
  exact ⟨_, rfl, h⟩
section
variable {prog : Program} {w : World} {A : Around} {E : Value → Shared → Prop} {s : Shared}
theorem qp {l1 l2 : Addr} {xs ys : Array Value} {Q : Value → Shared → Prop} (hl1 : s.heap.IsTuple l1 xs) (hl2 : s.heap.IsTuple l2 ys)
 (h : ∀ h', IsZip h' (s.heap.objs.size + 4) (s.heap.objs.size + 2) (s.heap.objs.size + 3) .none → IsPair h' (s.heap.objs.size + 2) (.ref s.heap.objs.size) (.ref (s.heap.objs.size + 1)) →
  IsPair h' (s.heap.objs.size + 3) .none .none → h'.IsTupleIter s.heap.objs.size l1 0 → h'.IsTupleIter (s.heap.objs.size + 1) l2 0 → h'.objs.size = s.heap.objs.size + 5 →
  (∀ c o, s.heap.get? c = some o → h'.get? c = some o) → Q (.ref (s.heap.objs.size + 4)) { s with heap := h' }) :
 wpAny (model prog w) A (call (.type "zip") [.ref l1, .ref l2]) Q E s := by
 refine callType_new F.called_zip (by decide) (F.typeCall_zip_2 _ _) (F.newCall_zip_2 _ _) (fun obj => F.args_object_init_3 obj _ _) F.entry_zip_new
  (hU l1 l2 xs ys) ⟨hl1, hl2, ?_⟩
 have z1 : (Ij s.heap l1).objs.size = s.heap.objs.size + 1 := Heap.size_push ..
 have z2 : (Iq s.heap l1 l2).objs.size = s.heap.objs.size + 2 := by rw [Heap.size_push, z1]
 have z3 : (Hv s.heap l1 l2).objs.size = s.heap.objs.size + 3 := by rw [Heap.size_push, z2]
 have z4 : (Je s.heap l1 l2).objs.size = s.heap.objs.size + 4 := by rw [Heap.size_push, z3]
 have z5 : (A8 s.heap l1 l2).objs.size = s.heap.objs.size + 5 := by rw [Heap.size_push, z4]
 have g5 : (A8 s.heap l1 l2).get? _ = some _ := Heap.get?_push_size _ rfl
 have g4 : (A8 s.heap l1 l2).get? _ = some _ := Heap.get?_push_of_some _ (Heap.get?_push_size _ rfl)
 have g3 : (A8 s.heap l1 l2).get? _ = some _ := Heap.get?_push_of_some _ (Heap.get?_push_of_some _ (Heap.get?_push_size _ rfl))
 have g2 : (A8 s.heap l1 l2).get? _ = some _ := Heap.get?_push_of_some _ (Heap.get?_push_of_some _ (Heap.get?_push_of_some _ (Heap.get?_push_size _ rfl)))
 have g1 : (A8 s.heap l1 l2).get? _ = some _ := Heap.get?_push_of_some _ (Heap.get?_push_of_some _ (Heap.get?_push_of_some _ (Heap.get?_push_of_some _ (Heap.get?_push_size _ rfl))))
 rw [z2, z3, z4] at g5
 rw [z1, z2] at g3
 rw [z3] at g4
 rw [z1] at g2
 rw [z4]
 exact ⟨⟨_, g5, rfl⟩, h _ g5 g3 g4 ⟨_, g1, rfl, rfl⟩ ⟨_, g2, rfl, rfl⟩ z5 fun c o x =>
  Heap.get?_push_of_some _ (Heap.get?_push_of_some _ (Heap.get?_push_of_some _ (Heap.get?_push_of_some _ (Heap.get?_push_of_some _ x))))⟩
end
theorem BE (n : Addr) : Ap (n + 4) (n + 2) (n + 3) n (n + 1) where
 TIz := Nat.ne_of_lt (Nat.add_lt_add_left (by decide) n)
 TOz := Nat.ne_of_lt (Nat.add_lt_add_left (by decide) n)
 i1z := Nat.ne_of_lt (Nat.lt_add_of_pos_right (by decide))
 i2z := Nat.ne_of_lt (Nat.add_lt_add_left (by decide) n)
 TITO := Nat.ne_of_lt (Nat.add_lt_add_left (by decide) n)
 TIi1 := Nat.ne_of_gt (Nat.lt_add_of_pos_right (by decide))
 TIi2 := Nat.ne_of_gt (Nat.add_lt_add_left (by decide) n)
 TOi1 := Nat.ne_of_gt (Nat.lt_add_of_pos_right (by decide))
 TOi2 := Nat.ne_of_gt (Nat.add_lt_add_left (by decide) n)
 i12 := Nat.ne_of_lt (Nat.lt_add_of_pos_right (by decide))
theorem jt {n l : Addr} (h : l < n) : l ≠ n + 4 ∧ l ≠ n + 3 ∧ l ≠ n ∧ l ≠ n + 1 :=
 ⟨Nat.ne_of_lt (Nat.lt_of_lt_of_le h (Nat.le_add_right n 4)), Nat.ne_of_lt (Nat.lt_of_lt_of_le h (Nat.le_add_right n 3)), Nat.ne_of_lt h, Nat.ne_of_lt (Nat.lt_of_lt_of_le h (Nat.le_add_right n 1))⟩
def Jr (b : Bool) (K : PySem.W.Frag) (ta : TA) : TI := fun σ H R => ta σ H fun vs H1 => ∃ a c, vs = [.ref a, .ref c] ∧ (∃ xs, sx K b H1 a xs) ∧ (∃ ys, sx K b H1 c ys) ∧ R (Hz (fun H xs => sx K b H a xs) (fun H ys => sx K b H c ys)) H1
section
variable {X : Cx}
theorem boot_zip : bootBuiltins "zip" = some (.type "zip") := rfl
theorem AI {σ : St} {H} {s} (I : Inv X pins σ H s) : ∀ b ∈ [s.heap.objs.size + 4, s.heap.objs.size + 2, s.heap.objs.size + 3, s.heap.objs.size, s.heap.objs.size + 1], bA X pins H b := fun b hb => by
 have hle : s.heap.objs.size ≤ b := by
  simp only [List.mem_cons] at hb
  rcases hb with e | e | e | e | e
  · simp_all
  · simp_all
  · simp_all
  · simp_all
  simp_all
 exact I.fpOk hle (I.hok.fresh hle)
theorem Aj (k : Bool) {elts : List Expr} {x1} {pt : Pos} {a b : Expr} {ta : TA} {p pos : Pos} (hg : Gl X "zip") (hm : X.mg "zip" = none) (ha : PA X [a, b] ta) (hs : starEach [a, b] X.env = (false, eval a X.env) :: starEach [b] X.env) (hpl : (backTo pos (starEach [b] X.env)).any (·.1) = false) :
 PI X (.Tuple elts x1 pt) (.Call (.Name "zip" p) [a, b] [] pos) (Jr k X.K ta) := by
 intro pins s σ H R I h
 refine Call_ (bX I hg hm boot_zip (PyProof.Rows.callWith_type1 (aU (ha pos pins s σ H _ I h) fun us s1 ⟨vs, H1, I1, r1, q1⟩ => ?_) hs hpl))
 obtain ⟨t1, t2, e, ⟨xs, hq1⟩, ⟨ys, hq2⟩, q⟩ := q1
 subst e
 obtain ⟨u1, u2, rfl, ru1, ru2⟩ := vals2 r1
 cases ru1
 cases ru2
 have go : t1 < s1.heap.objs.size → t2 < s1.heap.objs.size → ∀ h', IsZip h' (s1.heap.objs.size + 4) (s1.heap.objs.size + 2) (s1.heap.objs.size + 3) .none → IsPair h' (s1.heap.objs.size + 2) (.ref s1.heap.objs.size) (.ref (s1.heap.objs.size + 1)) → IsPair h' (s1.heap.objs.size + 3) .none .none →
  GR k t1 s1.heap.objs.size 0 h' → GR k t2 (s1.heap.objs.size + 1) 0 h' → (∀ c o, s1.heap.get? c = some o → h'.get? c = some o) → wpAny (model X.prog X.w) X.A (pyIter (.ref (s1.heap.objs.size + 4))) (GV X pins σ (.Tuple elts x1 pt) R) X.xe { s1 with heap := h' } := fun lt1 lt2 h' hz hTI hTO hi1 hi2 hk =>
  wpAny_pyIter_zip hz ⟨_, _, _, _, H1, rfl, I1.kept (t' := s1.toks) hk, tK (BE _) (t6 k t1 _) (t6 k t2 _) (jt lt1) (jt lt2), ⟨hi1, hi2, hz, hTI, _, _, hTO⟩, AI I1, q⟩
 cases k
 · obtain ⟨its1, rv1, ht1, hz1⟩ := I1.list hq1
   obtain ⟨its2, rv2, ht2, hz2⟩ := I1.list hq2
   exact call_zip_2 ht1.isList ht2.isList fun h' a b c d e _ g => go (by obtain ⟨o, e, _⟩ := ht1.isList; exact Heap.lt_size e) (by obtain ⟨o, e, _⟩ := ht2.isList; exact Heap.lt_size e) h' a b c d e g
 · obtain ⟨its1, rv1, ht1, hz1⟩ := I1.tuple hq1
   obtain ⟨its2, rv2, ht2, hz2⟩ := I1.tuple hq2
   exact qp ht1 ht2 fun h' a b c d e _ g => go ht1.lt ht2.lt h' a b c d e g
end
theorem pN {K} {pos} {es} {k} {t} {n} (hK : X.K = K) (hc : X.calm = true) (h : C4 X es t)
 (hn : (assignEach es X.env).length = n := by rfl) (hst : (assignEach es X.env).findIdx? (·.1) = none := by rfl) : PG X (.Tuple es k pos) (Es K n t) := by
 subst hK
 exact z6 hc h hn hst
structure zu (K : PySem.W.Frag) (C : Addr) : Prop where
 makes : PySem.W.makesIn K C = true
 init : PySem.W.findIn K (.ref C) "__init__" = some (some (.builtin "object.__init__"))
 kp : PySem.W.keepIn K (.ref C) = true
def As (C : Addr) : TE := fun σ H Q => ∀ x dx, H x = none → H dx = none → dx ≠ x → Q (.ref x) (bq (bq H dx (.own x)) x (.ins C dx []))
section
variable {X : Cx} {C : Addr} {pins : List (Addr × Obj)} {σ : St} {H : Hp} {s : Shared} {Q : VK} {x m : Str} {p pos apos : Pos} {e o : Expr} {es : List Expr} {ta : TE} {t : TA}
theorem yk (M : zu X.K C) (I : Inv X pins σ H s) (h : As C σ H Q) : wpAny (model X.prog X.w) X.A (call (.ref C) []) (EP X pins σ Q) X.xe s := by
 have hq := h _ _ (I.hok.fresh (Nat.le_succ _)) (I.hok.fresh (Nat.le_refl _)) (Nat.ne_of_lt (Nat.lt_succ_self _))
 have I2 := Inv.made (C := C) I
 have Y := PySem.W.makes_of (M := model X.prog X.w) I.kIn M.makes
 refine wpAny_call (rF I.kIn M.makes M.init (fun self => PySem.W.Looks.of_pure (PySem.W.oi_bind _)) ?_)
 have e2 : ((s.heap.push PySem.W.emptyDict).push (PySem.W.instObj C s.heap.objs.size)).get? (s.heap.objs.size + 1) = some (PySem.W.instObj C s.heap.objs.size) := by
  have := Heap.get?_push_size (s.heap.push PySem.W.emptyDict) (o := PySem.W.instObj C s.heap.objs.size) rfl
  simp_all
 have t1 : PySem.W.Looks (model X.prog X.w) _ (typeOf (.ref _)) _ := (PySem.W.Looks.ld e2).andThen .now
 have t2 : PySem.W.Looks _ _ (isInstance _ _) _ := t1.andThen (Y.top.keeps fun b o e => Heap.get?_push_of_some _ (Heap.get?_push_of_some _ e))
 refine codeAny_call_builtin PySem.W.oi_plain PySem.W.entry_oi (@PySem.W.check_slot _ _ _ _ _ _ _ _ [] [] _ PySem.W.oi_kind PySem.W.oi_split t2 (PySem.W.oi_args _) ?_)
 exact wpAny_pure (And.intro rfl ⟨V.ref _, _, I2, rfl, hq⟩)
theorem AK (M : zu X.K C) (hg : Gl X x) (hm : X.mg x = some (.ref C)) (hdb : (x == "__debug__") = false := by decide) : PE X (.Call (.Name x p) [] [] pos) (As C) := by
 intro pins s σ H Q I h
 refine wpAny_Call_Name_kw (gJ I hg hm ?_ hdb)
 exact PySem.W.callWith_K0 I.kIn M.kp (yk M I h)
structure A9 (P : Program) (w : World) (K : PySem.W.Frag) (mg : Str → Option Value) (base : Heap) (k : Nat) (C : Addr) (m : Str) (ps : List Str) (sp : Sp) : Prop where
 ex : ∃ f fd, fG P w K mg base mn k f fd ps sp ∧ xT K C m f ∧ Binds K fd ps []
structure xO (K : PySem.W.Frag) (D C : Addr) (b : Bool) : Prop where
 ha : PySem.W.findIn K (.ref D) "__class__" = some (some (.builtin "object.__class__"))
 hn : PySem.W.specialIn K (.builtin "object.__class__") "__get__" = some (some (.builtin "getset_descriptor.__get__"))
 ht : PySem.W.takesIn K (.builtin "object.__class__") = some true
 hm : PySem.W.mroIn K D (.type "object") = some true
 e : PySem.W.kitOne K (.ref D) (.ref C) = some b
def uF (K : PySem.W.Frag) : List V → Hp → VK → Prop := fun xs H Q => ∃ (a C D dx : Addr) (fs : List (Str × V)) (b : Bool), xs = [.ref a, .ref C] ∧ H a = some (.ins D dx fs) ∧ j4 K D ∧ xO K D C b ∧ Q (.bl b) H
theorem rD : bC X (.builtin "isinstance") (uF X.K) := by
 intro pins s σ H xs us Q I rv h
 obtain ⟨a, C, D, dx, fs, b, rfl, ha, cl, o, q⟩ := h
 obtain ⟨u, v, rfl, ru, rv'⟩ := rv.two
 cases rv'
 exact cT I ru (.ins ha cl o.ha o.hn o.ht o.hm) o.e fun tk => ⟨.bl b, H, I.tok tk, rfl, q⟩
theorem Fe {K} (h : X.K = K) : bC X (.builtin "isinstance") (uF K) := by subst h; exact rD
end
structure C1 (K : PySem.W.Frag) (C : Addr) (m qual : Str) (st : Stmt) : Prop where
 ex : ∃ f fd, vI K m qual st f fd ∧ xT K C m f
section
variable {P : Program} {w : World} {K : PySem.W.Frag} {mg : Str → Option Value} {base : Heap}
theorem C1.has {st} {N ps} {k} {sp} (F : C1 K C m qual st) (S : cf N ps (ah st))
 (hb : ∀ (kV doc pm : Value) (an : Option _) (cdv ct : Value) (us : List _), us.length = ps.length → bindArgs (PySem.W.fnOf m qual (aL st) (aB st) (ah st) .none kV doc pm an cdv ct) ⟨us, []⟩ = pure (ps.zip us))
 (len : ∀ vs H Q E, sp vs H Q E → vs.length = ps.length)
 (hbody : ∀ (f : Addr) (cdv : Value) (A : Around) (outer : List _) (s : Shared) (H : Hp) (vs : List V) (Q : VK) (E : XK), bh k (A.deeper (envOfC qual (ah st) s.heap.objs.size f cdv)) → sp vs H Q E →
  ∃ t, fK (iW mn P w K mg base N qual (ah st) f cdv A outer s H E).nox (aB st) t ∧ t { nx := fun _ H' => Q .non H', rt := Q } (start N vs) H) : A9 P w K mg base (k + 1) C m ps sp := by
 obtain ⟨f, fd, F, m⟩ := F.ex
 exact ⟨f, fd, F.ok S len (hbody f), m, F.binds hb⟩
end
def sH (K : PySem.W.Frag) : R2 := fun x y H Q => ∃ l b xs zs, x = .ref l ∧ y = .ref b ∧ cO K H l xs ∧ cO K H b zs ∧ xs.length + zs.length ≤ sizeLine ∧ ∀ p, H p = none → Q (.ref p) (bq H p (.lst (xs ++ zs)))
section
variable {X : Cx}
theorem wT : cA X (binaryOp .Add) (sH X.K) := by
 intro pins s σ H x y v u Q I rx ry h
 obtain ⟨l, b, xs, zs, rfl, rfl, hH, hB, hz, q⟩ := h
 cases rx
 cases ry
 obtain ⟨its, r, ⟨⟨c1, d1, t1, s1⟩, n1, e1, k1, k2, k3⟩, _⟩ := I.list hH
 obtain ⟨its2, r2, ⟨⟨c2, d2, t2, s2⟩, n2, e2, j1, j2, j3⟩, _⟩ := I.list hB
 subst k1 k2 k3 j1 j2 j3
 have l1 := r.length
 have l2 := r2.length
 have e : its.toArray ++ its2.toArray = (its ++ its2).toArray := by simp
 refine concat_meets ⟨_, e1, rfl⟩ ⟨_, e2, rfl⟩ noFill_list_add seq_list_add PySem.F.slot_list_add PySem.F.entry_list_add (PySem.F.args_list_add_2 _ _) (list_addW l b _ _ n1 n2 _ _ s1 s2 (by simp; omega)) ⟨e1, e2, ?_⟩
 rw [e]
 exact ⟨.ref _, _, I.lnew (r.append r2) (by simp_all), rfl, q _ I.fresh⟩
theorem EB {K} (h : X.K = K) : cA X (binaryOp .Add) (sH K) := by subst h; exact wT
end
end L2
end
section
namespace L2
open PySem PySem.Spec PyProof.Rows SeqAt
def TupAt (K : PySem.W.Frag) (L : Addr → Prop) (H : Hp) (a : Addr) (xs : List V) : Prop :=
 (Rd H a (.tup xs) ∧ ¬ L a) ∨
  ∃ (o : Obj) (its : Array Value) (n : Nat), K.lookup a = some o ∧ o.cls = .type "tuple" ∧ o.data = .seq its n ∧ its.size ≤ sizeLine ∧ al xs its.toList
def LstAt (K : PySem.W.Frag) (L : Addr → Prop) (H : Hp) (a : Addr) (xs : List V) : Prop :=
 (Rd H a (.lst xs) ∧ ¬ L a) ∨
  ∃ (o : Obj) (its : Array Value) (n : Nat), K.lookup a = some o ∧ o.cls = .type "list" ∧ o.dict = none ∧ o.data = .seq its n ∧ its.size ≤ sizeLine ∧ al xs its.toList
theorem TupAt.sq {K} {L} {H} {a} {xs} (h : TupAt K L H a xs) : et K H a xs := h.elim (fun x => .inl x.1) .inr
theorem LstAt.sq {K} {L} {H} {a} {xs} (h : LstAt K L H a xs) : cO K H a xs := h.elim (fun x => .inl x.1) .inr
structure gB (L : Addr → Prop) (H : Hp) (L' : Addr → Prop) (H' : Hp) : Prop where
 keep : ∀ a o, ¬ L a → H a = some o → H' a = some o
 new : ∀ a, L' a → L a ∨ H a = none
theorem gB.refl (L : Addr → Prop) (H : Hp) : gB L H L H := ⟨fun _ _ _ h => h, fun _ h => .inl h⟩
theorem gB.trans {H H1 H2} (a : gB L H L1 H1) (b : gB L1 H1 L2 H2) : gB L H L2 H2 :=
 ⟨fun x o n h => b.keep x o (fun z => (a.new x z).elim n fun q => by rw [h] at q; cases q) (a.keep x o n h), fun x z => (b.new x z).elim (a.new x) fun q => by
  by_cases hx : L x
  · exact .inl hx
  · right
    cases e : H x with
    | none => rfl
    | some o => rw [a.keep x o hx e] at q; cases q⟩
theorem gB.fresh {H} {p} {o} (h : H p = none) : gB L H L (bq H p o) :=
 ⟨fun a u _ e => by rw [az (aQ e h)]; exact e, fun _ z => .inl z⟩
theorem Rd.step {H H'} {a} {u} (s : gB L H L' H') (r : Rd H a u) (n : ¬ L a) : Rd H' a u ∧ ¬ L' a := by
 rcases r with r | ⟨o, r⟩
 · exact ⟨.inl (s.keep a _ n r), fun z => (s.new a z).elim n fun q => by rw [r] at q; cases q⟩
 · exact ⟨.inr ⟨o, s.keep a _ n r⟩, fun z => (s.new a z).elim n fun q => by rw [r] at q; cases q⟩
def be (K : PySem.W.Frag) (C : Addr) (q : Str) : Prop := (∃ (o : Obj) (c : ClassData), K.lookup C = some o ∧ o.data = .cls c ∧ c.name = q) ∧ PySem.W.nsIn K mainGlobals q = some (some (.ref C))
theorem be.one {K} {C C'} {q} (h : be K C q) (h' : be K C' q) : C = C' := by
 have := h.2.symm.trans h'.2
 cases this
 rfl
def gZ (K : PySem.W.Frag) (L : Addr → Prop) (H : Hp) (a : Addr) (q : Str) : Prop := ∃ C dx, H a = some (.ins C dx []) ∧ ¬ L a ∧ be K C q
mutual
def Rp (K : PySem.W.Frag) (L : Addr → Prop) (H : Hp) : T → V → Prop
 | .non, v => v = .non
 | .bl b, v => v = .bl b
 | .int i, v => v = .int i
 | .str x, v => v = .str x
 | .tup xs, v => ∃ a vs, v = .ref a ∧ TupAt K L H a vs ∧ aF K L H xs vs
 | .lst xs, v => ∃ a vs, v = .ref a ∧ LstAt K L H a vs ∧ aF K L H xs vs
 | .ins q, v => ∃ a, v = .ref a ∧ gZ K L H a q
def aF (K : PySem.W.Frag) (L : Addr → Prop) (H : Hp) : List T → List V → Prop
 | [], vs => vs = []
 | x :: xs, vs => ∃ v r, vs = v :: r ∧ Rp K L H x v ∧ aF K L H xs r
end
section
variable {K : PySem.W.Frag} {L L' : Addr → Prop} {H H' : Hp}
theorem TupAt.step (s : gB L H L' H') {a} {xs} (h : TupAt K L H a xs) : TupAt K L' H' a xs := h.elim (fun x => .inl (x.1.step s x.2)) .inr
theorem LstAt.step (s : gB L H L' H') {a} {xs} (h : LstAt K L H a xs) : LstAt K L' H' a xs := h.elim (fun x => .inl (x.1.step s x.2)) .inr
theorem gZ.step (s : gB L H L' H') {a} {q} (h : gZ K L H a q) : gZ K L' H' a q := by
 obtain ⟨C, dx, e, n, c⟩ := h
 exact ⟨C, dx, s.keep a _ n e, fun z => (s.new a z).elim n (fun y => by rw [e] at y; cases y), c⟩
mutual
theorem Rp.step (s : gB L H L' H') : ∀ {t} {v}, Rp K L H t v → Rp K L' H' t v
 | .non, _, r => r
 | .bl _, _, r => r
 | .int _, _, r => r
 | .str _, _, r => r
 | .tup xs, _, r => by
  obtain ⟨a, vs, e, q, rs⟩ := r
  exact ⟨a, vs, e, q.step s, aF.step s rs⟩
 | .lst xs, _, r => by
  obtain ⟨a, vs, e, q, rs⟩ := r
  exact ⟨a, vs, e, q.step s, aF.step s rs⟩
 | .ins _, _, r => by
  obtain ⟨a, e, q⟩ := r
  exact ⟨a, e, q.step s⟩
theorem aF.step (s : gB L H L' H') : ∀ {ts} {vs}, aF K L H ts vs → aF K L' H' ts vs
 | [], _, r => r
 | t :: ts, _, r => by
  obtain ⟨v, rs, e, r1, r2⟩ := r
  exact ⟨v, rs, e, Rp.step s r1, aF.step s r2⟩
end
theorem aF.length : ∀ {ts} {vs}, aF K L H ts vs → vs.length = ts.length
 | [], _, r => by rw [r]; rfl
 | t :: ts, _, r => by obtain ⟨v, rs, rfl, r1, r2⟩ := r; rw [List.length_cons, List.length_cons, aF.length r2]
theorem aF.get : ∀ {ts} {vs} {i : Nat} {t}, aF K L H ts vs → ts[i]? = some t → ∃ v, vs[i]? = some v ∧ Rp K L H t v
 | [], _, _, _, r, e => by simp at e
 | x :: xs, _, 0, t, r, e => by
  obtain ⟨v, rs, rfl, r1, r2⟩ := r
  grind
 | x :: xs, _, i + 1, t, r, e => by
  obtain ⟨v, rs, rfl, r1, r2⟩ := r
  obtain ⟨u, h1, h2⟩ := aF.get r2 (by simpa using e)
  grind
theorem aF.getV {i : Nat} {v} (r : aF K L H ts vs) (e : vs[i]? = some v) : ∃ t, ts[i]? = some t ∧ Rp K L H t v := by
 have hi := (List.getElem?_eq_some_iff.mp e).1
 rw [r.length] at hi
 obtain ⟨u, h1, h2⟩ := r.get (List.getElem?_eq_getElem hi)
 simp_all
theorem aF.append : ∀ {ts us} {vs ws}, aF K L H ts vs → aF K L H us ws → aF K L H (ts ++ us) (vs ++ ws)
 | [], _, _, _, r, q => by rw [r]; exact q
 | t :: ts, us, _, ws, r, q => by obtain ⟨v, rs, rfl, r1, r2⟩ := r; exact ⟨v, _, rfl, r1, aF.append r2 q⟩
theorem aF.one (r : Rp K L H t v) : aF K L H [t] [v] := ⟨v, [], rfl, r, rfl⟩
theorem aF.nil : aF K L H [] [] := rfl
theorem aF.take : ∀ (n : Nat) {ts} {vs}, aF K L H ts vs → aF K L H (ts.take n) (vs.take n)
 | 0, _, _, _ => rfl
 | n + 1, [], _, r => by rw [r]; exact rfl
 | n + 1, t :: ts, _, r => by obtain ⟨v, rs, rfl, r1, r2⟩ := r; exact ⟨v, _, rfl, r1, aF.take n r2⟩
theorem aF.drop : ∀ (n : Nat) {ts} {vs}, aF K L H ts vs → aF K L H (ts.drop n) (vs.drop n)
 | 0, _, _, r => by simpa using r
 | n + 1, [], _, r => by rw [r]; exact rfl
 | n + 1, t :: ts, _, r => by obtain ⟨v, rs, rfl, r1, r2⟩ := r; simpa using aF.drop n r2
theorem aF.set (q : Rp K L H t v) : ∀ {ts} {vs} (i : Nat), aF K L H ts vs → aF K L H (ts.set i t) (vs.set i v)
 | [], _, _, r => by rw [r]; exact rfl
 | x :: xs, _, 0, r => by obtain ⟨u, rs, rfl, r1, r2⟩ := r; exact ⟨v, rs, rfl, q, r2⟩
 | x :: xs, _, i + 1, r => by obtain ⟨u, rs, rfl, r1, r2⟩ := r; exact ⟨u, _, rfl, r1, aF.set q i r2⟩
theorem aF.reverse (r : aF K L H ts vs) : aF K L H ts.reverse vs.reverse := by
 induction ts generalizing vs with
 | nil => rw [r]; exact rfl
 | cons t ts ih => obtain ⟨v, rs, rfl, r1, r2⟩ := r; rw [List.reverse_cons, List.reverse_cons]; exact (ih r2).append (.one r1)
theorem aF.strs : ∀ {ys : List _} {vs}, aF K L H (ys.map T.str) vs → vs = ys.map V.str
 | [], _, r => r
 | y :: ys, _, r => by obtain ⟨v, rs, rfl, r1, r2⟩ := r; rw [r1, aF.strs r2]; rfl
theorem aF.ofInts : ∀ (ys : List _), aF K L H (ys.map T.int) (ys.map V.int)
 | [] => rfl
 | y :: ys => ⟨_, _, rfl, rfl, aF.ofInts ys⟩
end
theorem Inv.notTL {σ : St} {H} {s} {a} {xs ys} (I : Inv X pins σ H s) (h : et X.K H a xs) (h' : cO X.K H a ys) : False := by
 obtain ⟨its, _, ⟨o, e, c, _⟩, _⟩ := I.tuple h
 obtain ⟨jts, _, p, _⟩ := I.list h'
 obtain ⟨o', e', c', _⟩ := p.isList
 grind
theorem Inv.insAt {σ : St} {L} {H} {s} {a} {q} (I : Inv X pins σ H s) (h : gZ X.K L H a q) : ∃ C dx, s.heap.get? a = some (PySem.W.instObj C dx) := by
 obtain ⟨C, dx, e, _⟩ := h
 obtain ⟨_, _, _, oe, _⟩ := I.hok a _ e
 exact ⟨C, dx, oe⟩
theorem Inv.notIT {σ : St} {L} {H} {s} {a} {q} {xs} (I : Inv X pins σ H s) (h : gZ X.K L H a q) (h' : et X.K H a xs) : False := by
 obtain ⟨C, dx, e⟩ := I.insAt h
 obtain ⟨its, _, ⟨o, e', c, _⟩, _⟩ := I.tuple h'
 grind
theorem Inv.notIL {σ : St} {L} {H} {s} {a} {q} {xs} (I : Inv X pins σ H s) (h : gZ X.K L H a q) (h' : cO X.K H a xs) : False := by
 obtain ⟨C, dx, e⟩ := I.insAt h
 obtain ⟨its, _, p, _⟩ := I.list h'
 obtain ⟨o, e', c, _⟩ := p.isList
 grind
mutual
theorem Rp.inj {X : Cx} {pins : List (Addr × Obj)} {σ : St} {K : PySem.W.Frag} {L : Addr → Prop} {H : Hp} {s : Shared} (hK : X.K = K) (I : Inv X pins σ H s) : ∀ {t u : T} {v : V}, Rp K L H t v → Rp K L H u v → t = u
 | .non, u, v, r, q => by subst r; cases u <;> first | rfl | (exfalso; revert q; simp [Rp])
 | .bl _, u, v, r, q => by subst r; cases u <;> first | (cases q; rfl) | (exfalso; revert q; simp [Rp])
 | .int _, u, v, r, q => by subst r; cases u <;> first | (cases q; rfl) | (exfalso; revert q; simp [Rp])
 | .str _, u, v, r, q => by subst r; cases u <;> first | (cases q; rfl) | (exfalso; revert q; simp [Rp])
 | .tup xs, u, v, r, q => by
  obtain ⟨a, vs, rfl, e, rs⟩ := r
  cases u with
  | tup ys =>
   obtain ⟨b, ws, e1, e2, qs⟩ := q
   cases e1
   have := I.tuple_inj (hK ▸ e.sq) (hK ▸ e2.sq)
   subst this
   rw [aF.inj hK I rs qs]
  | lst ys =>
   obtain ⟨b, ws, e1, e2, qs⟩ := q
   cases e1
   exact (I.notTL (hK ▸ e.sq) (hK ▸ e2.sq)).elim
  | ins y =>
   obtain ⟨b, e1, e2⟩ := q
   cases e1
   exact (I.notIT (hK ▸ e2) (hK ▸ e.sq)).elim
  | _ => cases q
 | .lst xs, u, v, r, q => by
  obtain ⟨a, vs, rfl, e, rs⟩ := r
  cases u with
  | tup ys =>
   obtain ⟨b, ws, e1, e2, qs⟩ := q
   cases e1
   exact (I.notTL (hK ▸ e2.sq) (hK ▸ e.sq)).elim
  | lst ys =>
   obtain ⟨b, ws, e1, e2, qs⟩ := q
   cases e1
   have := I.list_inj (hK ▸ e.sq) (hK ▸ e2.sq)
   subst this
   rw [aF.inj hK I rs qs]
  | ins y =>
   obtain ⟨b, e1, e2⟩ := q
   cases e1
   exact (I.notIL (hK ▸ e2) (hK ▸ e.sq)).elim
  | _ => cases q
 | .ins z, u, v, r, q => by
  obtain ⟨a, rfl, e⟩ := r
  cases u with
  | tup ys =>
   obtain ⟨b, ws, e1, e2, qs⟩ := q
   cases e1
   exact (I.notIT (hK ▸ e) (hK ▸ e2.sq)).elim
  | lst ys =>
   obtain ⟨b, ws, e1, e2, qs⟩ := q
   cases e1
   exact (I.notIL (hK ▸ e) (hK ▸ e2.sq)).elim
  | ins y =>
   obtain ⟨b, e1, C, dx, e2, _, ⟨o, c, h1, h2, rfl⟩, _⟩ := q
   obtain ⟨C', dx', e3, _, ⟨o', c', k1, k2, rfl⟩, _⟩ := e
   grind
  | _ => cases q
theorem aF.inj {X : Cx} {pins} {σ : St} {K} {L} {H} {s} (hK : X.K = K) (I : Inv X pins σ H s) : ∀ {ts us} {vs}, aF K L H ts vs → aF K L H us vs → ts = us
 | [], [], _, _, _ => rfl
 | [], u :: us, _, r, q => by
  obtain ⟨v, rs, e, _⟩ := q
  have r' : _ = [] := r
  grind
 | t :: ts, [], _, r, q => by
  obtain ⟨v, rs, e, _⟩ := r
  have q' : _ = [] := q
  grind
 | t :: ts, u :: us, _, r, q => by
  obtain ⟨v, rs, e, r1, r2⟩ := r
  obtain ⟨v', rs', e', q1, q2⟩ := q
  rw [e] at e'; cases e'
  rw [Rp.inj hK I r1 q1, aF.inj hK I r2 q2]
end
theorem jq {σ : St} {K} {L} {H} {s} (hK : X.K = K) (I : Inv X pins σ H s) {t u} {A} {v w} {a b} (rt : Rp K L H t v) (ru : Rp K L H u w) (ra : RelV v a) (rb : RelV w b) (key : RcAt A s a b (eqT t u)) : EqAt A s a b (eqT t u) := by
 by_cases hab : a = b
 · subst hab
   have := RelV.inj ra rb
   subst this
   rw [Rp.inj hK I rt ru, fB]
   exact EqAt.same _
 · intro prog w' E Q hq
   refine wpAny_holding ?_
   refine wpAny_ite_split (fun hx => absurd (eq_of_beq hx) hab) fun _ => ?_
   have hk := wpAny_bind (f := fun x => truthOfDropped x) (key prog w' E _ (wpAny_truthy_bool hq))
   cases t with
   | non => cases rt; cases ra; exact hk
   | bl x => cases rt; cases ra; exact hk
   | int x => cases rt; obtain ⟨t1, rfl⟩ := ra; exact hk
   | str x => cases rt; obtain ⟨t1, rfl⟩ := ra; exact hk
   | tup xs => obtain ⟨l, vs, rfl, e, rs⟩ := rt; cases ra; exact hk
   | lst xs => obtain ⟨l, vs, rfl, e, rs⟩ := rt; cases ra; exact hk
   | ins q => obtain ⟨l, rfl, e⟩ := rt; cases ra; exact hk
inductive Sh (s : Shared) (K : PySem.W.Frag) (L : Addr → Prop) (H : Hp) : T → Value → Prop
 | non : Sh s K L H .non .none
 | bl (x : Bool) : Sh s K L H (.bl x) (.bool x)
 | int (x : Int) (t : Tok) : Sh s K L H (.int x) (.int x t)
 | str (x : Str) (t : Tok) : Sh s K L H (.str x) (.str x t)
 | tup {xs : List T} {vs : List V} {its : List Value} {l : Addr} (hd : bw xs ≤ 59) (rs : aF K L H xs vs) (rv : al vs its) (p : s.heap.IsTuple l its.toArray) : Sh s K L H (.tup xs) (.ref l)
 | lst {xs : List T} {vs : List V} {its : List Value} {l : Addr} (hd : bw xs ≤ 59) (rs : aF K L H xs vs) (rv : al vs its) (p : s.heap.IsList l its.toArray) : Sh s K L H (.lst xs) (.ref l)
theorem gv {σ : St} {K} {L} {H} {s} (hK : X.K = K) (I : Inv X pins σ H s) {t} {v} {a} (hd : b9 t ≤ 60) (rt : Rp K L H t v) (ra : RelV v a) : Sh s K L H t a := by
 cases t with
 | non => cases rt; cases ra; exact .non
 | bl x => cases rt; cases ra; exact .bl x
 | int x => cases rt; obtain ⟨t, rfl⟩ := ra; exact .int x t
 | str x => cases rt; obtain ⟨t, rfl⟩ := ra; exact .str x t
 | tup xs =>
  obtain ⟨l, vs, rfl, e, rs⟩ := rt
  cases ra
  obtain ⟨its, r, p, _⟩ := I.tuple (hK ▸ e.sq)
  exact .tup (Nat.le_of_succ_le_succ hd) rs r p
 | lst xs =>
  obtain ⟨l, vs, rfl, e, rs⟩ := rt
  cases ra
  obtain ⟨its, r, p, _⟩ := I.list (hK ▸ e.sq)
  exact .lst (Nat.le_of_succ_le_succ hd) rs r p.isList
 | ins _ => exact absurd hd (by simp [b9])
theorem eZ (h : t ∈ xs) : b9 t ≤ bw xs := by
 obtain ⟨j, hj, rfl⟩ := List.mem_iff_getElem.mp h
 exact o4 hj
theorem GI {σ : St} {K} {L} {H} {s} (hK : X.K = K) (I : Inv X pins σ H s) {A : Around} {xs ys} {vs ws} {its its2} (d1 : bw xs ≤ 59) (d2 : bw ys ≤ 59) (rs : aF K L H xs vs) (rv : al vs its) (rs2 : aF K L H ys ws) (rv2 : al ws its2) {j} (h1 : j < its.toArray.size) (h2 : j < its2.toArray.size)
 (ih : ∀ (t u : T) (a b : Value), t ∈ xs → Sh s K L H t a → Sh s K L H u b → RcAt A.in1 s a b (eqT t u)) : EqAt A.in1 s its.toArray[j] its2.toArray[j] (match xs[j]?, ys[j]? with | some x, some y => eqT x y | _, _ => true) := by
 have z1 := by rw [List.size_toArray, ← rv.length, rs.length] at h1; exact h1
 have z2 := by rw [List.size_toArray, ← rv2.length, rs2.length] at h2; exact h2
 obtain ⟨v1, q1, r1⟩ := rs.get (List.getElem?_eq_getElem z1)
 obtain ⟨v2, q2, r2⟩ := rs2.get (List.getElem?_eq_getElem z2)
 obtain ⟨u1, g1, k1⟩ := rv.get q1
 obtain ⟨u2, g2, k2⟩ := rv2.get q2
 have g1' : its.toArray[j] = u1 := by
  have := (List.getElem?_eq_some_iff.mp g1).2
  simpa using this
 have g2' : its2.toArray[j] = u2 := by
  have := (List.getElem?_eq_some_iff.mp g2).2
  simpa using this
 rw [g1', g2', List.getElem?_eq_getElem z1, List.getElem?_eq_getElem z2]
 exact jq hK I r1 r2 k1 k2 (ih _ _ _ _ (List.getElem_mem z1) (gv hK I (Nat.le_trans (eZ (List.getElem_mem z1)) (Nat.le_succ_of_le d1)) r1 k1) (gv hK I (Nat.le_trans (eZ (List.getElem_mem z2)) (Nat.le_succ_of_le d2)) r2 k2))
theorem uc {X : Cx} {pins : List (Addr × Obj)} {σ : St} {K : PySem.W.Frag} {L : Addr → Prop} {H : Hp} {s : Shared} (hK : X.K = K) (I : Inv X pins σ H s) : ∀ (n : Nat) (t u : T) (A : Around) (a b : Value), b9 t ≤ n → A.units + n < cLine → Sh s K L H t a → Sh s K L H u b → RcAt A s a b (eqT t u) := by
 intro n
 induction n using Nat.strongRecOn with
 | ind n ih =>
 intro t u A a b hn hu h1 h2
 have hu' : A.units < cLine := by omega
 have sub : ∀ {xs : List T}, 1 + bw xs ≤ n → ∀ (t u : T) (a b : Value), t ∈ xs → Sh s K L H t a → Sh s K L H u b → RcAt A.in1 s a b (eqT t u) := fun {xs} h t u a b ht s1 s2 => by
  have := eZ ht
  exact ih (n - 1) (by omega) t u A.in1 a b (by omega) (by show A.units + 1 + (n - 1) < cLine; omega) s1 s2
 cases h1 with
 | non => cases h2 with
  | non => exact RcAt.none_none
  | bl y => exact RcAt.none_bool _
  | int y z => exact RcAt.none_int _ _
  | str y z => exact RcAt.none_str _ _
  | tup _ _ _ p => exact RcAt.none_tuple p hu'
  | lst _ _ _ p => exact RcAt.none_list p hu'
 | bl x => cases h2 with
  | non => exact RcAt.bool_none _
  | bl y => exact RcAt.bool_bool _ _
  | int y z => exact RcAt.bool_int _ _ _
  | str y z => exact RcAt.bool_str _ _ _
  | tup _ _ _ p => exact RcAt.bool_tuple _ p hu'
  | lst _ _ _ p => exact RcAt.bool_list _ p hu'
 | int x t => cases h2 with
  | non => exact RcAt.int_none _ _
  | bl y => exact RcAt.int_bool _ _ _
  | int y z => exact RcAt.int_int _ _ _ _
  | str y z => exact RcAt.int_str _ _ _ _
  | tup _ _ _ p => exact RcAt.int_tuple _ _ p hu'
  | lst _ _ _ p => exact RcAt.int_list _ _ p hu'
 | str x t => cases h2 with
  | non => exact RcAt.str_none _ _
  | bl y => exact RcAt.str_bool _ _ _
  | int y z => exact RcAt.str_int _ _ _ _
  | str y z => exact RcAt.str_str _ _ _ _
  | tup _ _ _ p => exact RcAt.str_tuple _ _ p hu'
  | lst _ _ _ p => exact RcAt.str_list _ _ p hu'
 | @tup xs vs its l d1 rs rv p => cases h2 with
  | non => exact RcAt.tuple_none p hu'
  | bl y => exact RcAt.tuple_bool _ p hu'
  | int y z => exact RcAt.tuple_int _ _ p hu'
  | str y z => exact RcAt.tuple_str _ _ p hu'
  | @tup ys ws its2 l2 d2 rs2 rv2 p2 =>
   have z1 : its.toArray.size = xs.length := by rw [List.size_toArray, ← rv.length, rs.length]
   have z2 : its2.toArray.size = ys.length := by rw [List.size_toArray, ← rv2.length, rs2.length]
   show RcAt A s _ _ (gC xs ys)
   rw [dO]
   have h := RcAt.tuples (e := fun j => match xs[j]?, ys[j]? with | some x, some y => eqT x y | _, _ => true) p p2 hu' (fun j h1 h2 => GI hK I d1 d2 rs rv rs2 rv2 h1 h2 (sub (xs := xs) (by simp only [b9] at hn; omega)))
   rw [z1, z2] at h
   exact h
  | lst _ _ _ p2 => exact RcAt.tuple_list p p2 hu'
 | @lst xs vs its l d1 rs rv p => cases h2 with
  | non => exact RcAt.list_none p hu'
  | bl y => exact RcAt.list_bool _ p hu'
  | int y z => exact RcAt.list_int _ _ p hu'
  | str y z => exact RcAt.list_str _ _ p hu'
  | tup _ _ _ p2 => exact RcAt.list_tuple p p2 hu'
  | @lst ys ws its2 l2 d2 rs2 rv2 p2 =>
   have z1 : its.toArray.size = xs.length := by rw [List.size_toArray, ← rv.length, rs.length]
   have z2 : its2.toArray.size = ys.length := by rw [List.size_toArray, ← rv2.length, rs2.length]
   show RcAt A s _ _ (gC xs ys)
   rw [dO]
   by_cases hz : xs.length = ys.length
   · have h := RcAt.lists (e := fun j => match xs[j]?, ys[j]? with | some x, some y => eqT x y | _, _ => true) p p2 (by rw [z1, z2]; exact hz) hu' (fun j h1 h2 => GI hK I d1 d2 rs rv rs2 rv2 h1 h2 (sub (xs := xs) (by simp only [b9] at hn; omega)))
     rw [z1] at h
     rw [hz, Nat.min_self, beq_self_eq_true, Bool.and_true, ← hz]
     exact h
   · have h := RcAt.lists_lengths p p2 (by rw [z1, z2]; simpa using hz) hu'
     have e0 : (xs.length == ys.length) = false := by simpa using hz
     rw [e0, Bool.and_false]
     exact h
theorem EF {X : Cx} {pins : List (Addr × Obj)} {σ : St} {K : PySem.W.Frag} {L : Addr → Prop} {H : Hp} {s : Shared} (hK : X.K = K) (I : Inv X pins σ H s) (n : Nat) (t u : T) (A : Around) (a b : Value) (hn : b9 t ≤ n) (hu : A.units + n < cLine) (h1 : Sh s K L H t a) (h2 : Sh s K L H u b) : RcNeAt A s a b (!eqT t u) := by
 have hu' : A.units < cLine := by omega
 have sub : ∀ {xs : List T}, 1 + bw xs ≤ n → ∀ (t u : T) (a b : Value), t ∈ xs → Sh s K L H t a → Sh s K L H u b → RcAt A.in1 s a b (eqT t u) := fun {xs} h t u a b ht s1 s2 => by
  have := eZ ht
  exact uc hK I (n - 1) t u A.in1 a b (by omega) (by show A.units + 1 + (n - 1) < cLine; omega) s1 s2
 cases h1 with
 | non => cases h2 with
  | non => exact RcNeAt.none_none
  | bl y => exact RcNeAt.none_bool _
  | int y z => exact RcNeAt.none_int _ _
  | str y z => exact RcNeAt.none_str _ _
  | tup _ _ _ p => exact RcNeAt.none_tuple p hu'
  | lst _ _ _ p => exact RcNeAt.none_list p hu'
 | bl x => cases h2 with
  | non => exact RcNeAt.bool_none _
  | bl y => exact RcNeAt.bool_bool _ _
  | int y z => exact RcNeAt.bool_int _ _ _
  | str y z => exact RcNeAt.bool_str _ _ _
  | tup _ _ _ p => exact RcNeAt.bool_tuple _ p hu'
  | lst _ _ _ p => exact RcNeAt.bool_list _ p hu'
 | int x t => cases h2 with
  | non => exact RcNeAt.int_none _ _
  | bl y => exact RcNeAt.int_bool _ _ _
  | int y z => exact RcNeAt.int_int _ _ _ _
  | str y z => exact RcNeAt.int_str _ _ _ _
  | tup _ _ _ p => exact RcNeAt.int_tuple _ _ p hu'
  | lst _ _ _ p => exact RcNeAt.int_list _ _ p hu'
 | str x t => cases h2 with
  | non => exact RcNeAt.str_none _ _
  | bl y => exact RcNeAt.str_bool _ _ _
  | int y z => exact RcNeAt.str_int _ _ _ _
  | str y z => exact RcNeAt.str_str _ _ _ _
  | tup _ _ _ p => exact RcNeAt.str_tuple _ _ p hu'
  | lst _ _ _ p => exact RcNeAt.str_list _ _ p hu'
 | @tup xs vs its l d1 rs rv p => cases h2 with
  | non => exact RcNeAt.tuple_none p hu'
  | bl y => exact RcNeAt.tuple_bool _ p hu'
  | int y z => exact RcNeAt.tuple_int _ _ p hu'
  | str y z => exact RcNeAt.tuple_str _ _ p hu'
  | @tup ys ws its2 l2 d2 rs2 rv2 p2 =>
   have z1 : its.toArray.size = xs.length := by rw [List.size_toArray, ← rv.length, rs.length]
   have z2 : its2.toArray.size = ys.length := by rw [List.size_toArray, ← rv2.length, rs2.length]
   show RcNeAt A s _ _ (!gC xs ys)
   rw [dO]
   have h := RcNeAt.tuples (e := fun j => match xs[j]?, ys[j]? with | some x, some y => eqT x y | _, _ => true) p p2 hu' (fun j h1 h2 => GI hK I d1 d2 rs rv rs2 rv2 h1 h2 (sub (xs := xs) (by simp only [b9] at hn; omega)))
   rw [z1, z2] at h
   exact h
  | lst _ _ _ p2 => exact RcNeAt.tuple_list p p2 hu'
 | @lst xs vs its l d1 rs rv p => cases h2 with
  | non => exact RcNeAt.list_none p hu'
  | bl y => exact RcNeAt.list_bool _ p hu'
  | int y z => exact RcNeAt.list_int _ _ p hu'
  | str y z => exact RcNeAt.list_str _ _ p hu'
  | tup _ _ _ p2 => exact RcNeAt.list_tuple p p2 hu'
  | @lst ys ws its2 l2 d2 rs2 rv2 p2 =>
   have z1 : its.toArray.size = xs.length := by rw [List.size_toArray, ← rv.length, rs.length]
   have z2 : its2.toArray.size = ys.length := by rw [List.size_toArray, ← rv2.length, rs2.length]
   show RcNeAt A s _ _ (!gC xs ys)
   rw [dO]
   by_cases hz : xs.length = ys.length
   · have h := RcNeAt.lists (e := fun j => match xs[j]?, ys[j]? with | some x, some y => eqT x y | _, _ => true) p p2 (by rw [z1, z2]; exact hz) hu' (fun j h1 h2 => GI hK I d1 d2 rs rv rs2 rv2 h1 h2 (sub (xs := xs) (by simp only [b9] at hn; omega)))
     rw [z1] at h
     rw [hz, Nat.min_self, beq_self_eq_true, Bool.and_true, ← hz]
     exact h
   · have h := RcNeAt.lists_lengths p p2 (by rw [z1, z2]; simpa using hz) hu'
     have e0 : (xs.length == ys.length) = false := by simpa using hz
     rw [e0, Bool.and_false]
     exact h
theorem AZ {K} (L : Addr → Prop) (hK : X.K = K) (hu : X.A.units + 64 < cLine) : cA X (compareOp .Eq) fun x y H Q => ∃ t u, Rp K L H t x ∧ Rp K L H u y ∧ b9 t ≤ 60 ∧ b9 u ≤ 60 ∧ Q (.bl (eqT t u)) H := by
 intro pins s σ H x y v u Q I rx ry h
 obtain ⟨t, t', r1, r2, hd, hd2, q⟩ := h
 exact uc hK I 60 t t' _ v u hd (by omega) (gv hK I hd r1 rx) (gv hK I hd2 r2 ry) _ _ _ _ ⟨.bl _, H, I, rfl, q⟩
theorem AL {K} (L : Addr → Prop) (hK : X.K = K) (hu : X.A.units + 64 < cLine) : cA X (compareOp .NotEq) fun x y H Q => ∃ t u, Rp K L H t x ∧ Rp K L H u y ∧ b9 t ≤ 60 ∧ b9 u ≤ 60 ∧ Q (.bl !eqT t u) H := by
 intro pins s σ H x y v u Q I rx ry h
 obtain ⟨t, t', r1, r2, hd, hd2, q⟩ := h
 exact EF hK I 60 t t' _ v u hd (by omega) (gv hK I hd r1 rx) (gv hK I hd2 r2 ry) _ _ _ _ ⟨.bl _, H, I, rfl, q⟩
end L2
end
section
namespace L2
def AccAt (RA : List V → Obj → Prop) (S : Addr) (ys : List V) (h : Heap) : Prop := ∃ o, h.get? S = some o ∧ RA ys o
def RT (ys : List V) (o : Obj) : Prop := ∃ (its : List Value) (k : Nat), o = { cls := .type "list", data := .seq its.toArray k } ∧ al ys its
def Jz (RA : List V → Obj → Prop) (Xc : Cx) (pg : List (Addr × Obj)) (σc : St) (S : Addr) (Q : List V → Hp → Prop) : Nat → Shared → Shared → Prop := fun _ s₀ s₁ => s₁.heap.get? S = s₀.heap.get? S ∧ ∃ ys H, Inv Xc pg σc H s₁ ∧ H S = none ∧ AccAt RA S ys s₁.heap ∧ ys.length ≤ sizeLine ∧ Q ys H
def JA (RA : List V → Obj → Prop) (Xc : Cx) (pg : List (Addr × Obj)) (σc : St) (S : Addr) (Q : List V → Hp → Prop) : GenEnd := fun n s₀ r s₁ => r = .ok .next ∧ Jz RA Xc pg σc S Q n s₀ s₁
def HA (RA : List V → Obj → Prop) (OkL : List V → Prop) (Xc : Cx) (pg : List (Addr × Obj)) (σc : St) (S : Addr) : Protocol := fun n s₀ v s kap => s.heap.get? S = s₀.heap.get? S ∧ ∃ ys y H, OkL (ys ++ [y]) ∧ RelV y v ∧ Inv Xc pg σc H s ∧ H S = none ∧ AccAt RA S ys s.heap ∧ ys.length < sizeLine ∧
 ∀ s'', Inv Xc pg σc H s'' → AccAt RA S (ys ++ [y]) s''.heap → (∀ b o, b ≠ S → s.heap.get? b = some o → s''.heap.get? b = some o) → kap (.send .none) s''
section
variable {RA : List V → Obj → Prop} {OkL : List V → Prop} {Xc : Cx} {pg : List (Addr × Obj)} {σc : St} {S : Addr} {Q : List V → Hp → Prop} {J : It} {fp : List Addr} {it : Addr} {tn : Nat → Heap → Prop} {elt target iter : Expr} {ifs : List Expr} {scope : Scope} {pos : Pos} {g : TG} {tt : TT} {te : TE} {A1 : Around}
 {W : Nat → Nat → List V → Hp → Prop}
theorem xQ (hRA : ∀ ys o v, RA ys o → o.data ≠ .cell v) (T : jg Xc.prog Xc.w Xc.K target J fp it tn) (xA : Xc.A = A1.over (.compLoop (.GeneratorExp elt [⟨target, iter, ifs, 0⟩] scope pos) 0 (.ref it) .none Xc.env) []) (xc : Xc.calm = true) (xx : Xc.xe = fun _ _ => False) (hco : Xc.env.scope.isCoroutine = false)
 (hg : PG Xc target g) (hf : PF Xc ifs tt) (he : PE Xc elt te) (hSf : S ∉ fp) (sL : S ≠ Xc.env.locals) (sF : S ∉ Xc.fs) (stat : ∀ {H' : Hp} {o : Obj}, (∀ b ∈ fp, H' b = none) → ∀ b ∈ fp, bA Xc ((S, o) :: pg) H' b)
 (turn : ∀ i m ys H, W i m ys H → (J.stop i H ∧ ys.length ≤ sizeLine ∧ Q ys H) ∨
  (J.go i H ∧ ys.length < sizeLine ∧ ∃ N : List V → Hp → Prop, (∀ ys' H', N ys' H' → ∃ m', m' < m ∧ W (i + 1) m' ys' H') ∧ ∀ x H2, J.yld i H x H2 → g x σc H2 fun σ2 H3 => Sub σc σ2 ∧ tt σ2 H3 fun ok H4 =>
   if ok = true then te σ2 H4 fun y H5 => N (ys ++ [y]) H5 else N ys H4))
 (hW : ∀ i m ys H, W i m ys H → OkL ys) :
 ∀ (m n : Nat), m < n → ∀ (i : Nat) (ys : List V) (H : Hp) (s s₀ : Shared), W i m ys H → Inv Xc pg σc H s → H S = none → AccAt RA S ys s.heap → tn i s.heap → (∀ b ∈ fp, H b = none) → s.heap.get? S = s₀.heap.get? S →
  Seg (model Xc.prog Xc.w) A1 (JA RA Xc pg σc S Q) (HA RA OkL Xc pg σc S) n s₀ (.compLoop (.GeneratorExp elt [⟨target, iter, ifs, 0⟩] scope pos) 0 (.ref it) .none Xc.env)
   ((model Xc.prog Xc.w).den (.compLoop (.GeneratorExp elt [⟨target, iter, ifs, 0⟩] scope pos) 0 (.ref it) .none Xc.env)) [] s := by
 intro m
 induction m using Nat.strongRecOn with
 | ind m ih =>
  intro n hmn i ys H s s₀ w I hS acc st fr hq
  show Seg _ A1 _ _ _ s₀ _ ((compTurn (.GeneratorExp elt [⟨target, iter, ifs, 0⟩] scope pos) 0 (.ref it) .none Xc.env).onRaise (leaving Xc.env)) [] s
  rw [compTurn_gen, Sem.onRaise_eq_wrap]
  refine seg_bind_wrap (wpAny_standAt ?_)
  obtain ⟨o, oS, vS⟩ := acc
  have oc : ∀ v, o.data ≠ .cell v := fun v => hRA _ _ v vS
  have Ip : Inv Xc ((S, o) :: pg) σc H s := I.pins_of fun p hp => by
   rcases List.mem_cons.mp hp with z | z
   · rw [z]; exact ⟨oS, hS, sL, sF, oc⟩
   · exact I.pin p (List.mem_append_right _ z)
  have unS : ∀ {H' : Hp} {s' : Shared} {σ' : St}, Inv Xc ((S, o) :: pg) σ' H' s' → Inv Xc pg σ' H' s' ∧ H' S = none ∧ s'.heap.get? S = some o := fun {H' s' σ'} K =>
   have p := K.pin (S, o) (List.mem_append_right _ List.mem_cons_self)
   ⟨K.pins_of fun p hp => K.pin p (List.mem_append_right _ (List.mem_cons_of_mem _ hp)), p.2.1, p.1⟩
  rcases turn i m ys H w with ⟨stop, hz, q⟩ | ⟨go, hz, N, hN, step⟩
  · have td := fun E => T.done Xc rfl rfl rfl xc i _ s σc H E Ip (stat fr) st stop
    rw [xA] at td
    refine seg_bind_wrap (aU (td _) fun r s6 h6 => ?_)
    obtain ⟨hr, I6⟩ := h6
    subst hr
    obtain ⟨j1, j2, j3⟩ := unS I6
    exact seg_end (.ok .next) ⟨rfl, j3.trans (oS.symm.trans hq), ys, H, j1, j2, ⟨o, j3, vS⟩, hz, q⟩
  · have ti := fun E => T.item Xc rfl rfl rfl xc i _ s σc H E Ip (stat fr) st go
    rw [xA] at ti
    refine seg_bind_wrap (aU (ti _) fun r s6 h6 => ?_)
    obtain ⟨u, hr, h6⟩ := h6
    subst hr
    refine seg_bind_wrap (aU h6 fun _ s7 h7 => ?_)
    obtain ⟨x, H7, I7, r7, y7, st7, fr7⟩ := h7
    have I7' := I7.pinned (stat fr7) (T.obj _ _ st7)
    have g7 := hg _ s7 σc H7 x u _ I7' r7 (step x H7 y7)
    rw [xA, xx] at g7
    refine seg_bind_wrap (wpAny_mono g7 (fun _ s8 h8 => ?_) fun _ _ h => h.elim)
    obtain ⟨σ8, H8, I8, sub8, q8⟩ := h8
    have t8 := hf _ s8 σ8 H8 _ I8 q8
    rw [xA, xx] at t8
    refine seg_bind_wrap (wpAny_mono t8 (fun ok s9 h9 => ?_) fun _ _ h => h.elim)
    obtain ⟨H9, I9, q9⟩ := h9
    have back : ∀ {H' : Hp} {s' : Shared}, Inv Xc (((S, o) :: pg) ++ ez fp s7.heap) σ8 H' s' → (Inv Xc pg σc H' s' ∧ H' S = none ∧ s'.heap.get? S = some o) ∧ tn (i + 1) s'.heap ∧ (∀ b ∈ fp, H' b = none) := fun {H' s'} K => by
     refine ⟨unS (K.weak sub8.1.symm sub8.2).unpinned, T.keep _ _ _ st7 fun b hb o e => (K.pin (b, o) (List.mem_append_right _ (List.mem_append_right _ (bL hb e)))).1, fun b hb => ?_⟩
     obtain ⟨o, e, d⟩ := T.obj _ _ st7 b hb
     exact (K.pin (b, o) (List.mem_append_right _ (List.mem_append_right _ (bL hb e)))).2.1
    cases ok with
    | false =>
     obtain ⟨m', hm, w9⟩ := hN _ _ q9
     obtain ⟨⟨b1, bS, bO⟩, b2, b3⟩ := back I9
     exact seg_again rfl (ih m' hm n (by omega) _ ys H9 s9 _ w9 b1 bS ⟨o, bO, vS⟩ b2 b3 (bO.trans (oS.symm.trans hq)))
    | true =>
     have e9 := he _ s9 _ H9 _ I9 q9
     rw [xA, xx] at e9
     simp only [if_true]
     have hy : ∀ v, yieldOut Xc.env v = yieldValue v := fun v => by simp only [yieldOut, hco, Bool.false_eq_true, if_false]
     simp only [hy]
     rw [Sem.bind_eq_wrap', Sem.bind_eq_wrap', Sem.wrap_wrap, Sem.wrap_wrap]
     refine seg_wrap (wpAny_mono e9 (fun y s10 h10 => ?_) fun _ _ h => h.elim)
     obtain ⟨z, H10, I10, r10, q10⟩ := h10
     obtain ⟨m', hm, w10⟩ := hN _ _ q10
     obtain ⟨⟨b1, bS, bO⟩, b2, b3⟩ := back I10
     obtain ⟨n', rfl⟩ : ∃ n', n = n' + 1 := ⟨n - 1, by omega⟩
     refine seg_at (seg_yield rfl rfl rfl ⟨bO.trans (oS.symm.trans hq), ys, z, H10, hW _ _ _ _ w10, r10, b1, bS, ⟨o, bO, vS⟩, hz, fun s'' I'' acc'' kp'' => ?_⟩)
     exact seg_again rfl (ih m' hm n' (by omega) _ _ _ _ _ w10 I'' bS acc'' (T.keep _ _ _ b2 fun b hb o e => kp'' b o (fun z => hSf (z ▸ hb)) e) b3 rfl)
def wo (RA : List V → Obj → Prop) (OkL : List V → Prop) (Xc : Cx) (pg : List (Addr × Obj)) (σc : St) (S : Addr) (Q : List V → Hp → Prop) (A1 : Around) (gn n : Nat) (s : Shared) : Prop :=
 ∃ ys H gs, Inv Xc pg σc H s ∧ H S = none ∧ AccAt RA S ys s.heap ∧ s.gens[gn]? = some gs ∧ ∀ s'', Inv Xc pg σc H s'' → s''.heap = s.heap → gs.Goes (model Xc.prog Xc.w) A1 (JA RA Xc pg σc S Q) (HA RA OkL Xc pg σc S) n (.send .none) s''
theorem sB {A : Around} {a : Addr} {gn : Nat} {RR : Result → Shared → Prop} {res : Value} (hh : A.handled = none) (hroom : A.depth < recursionLimit) (hgn : gn < Xc.s₀.gens.size) (hpin : ∀ {H s}, Inv Xc pg σc H s → s.heap.IsGen a gn)
 (sS : ∀ {H : Hp}, H S = none → bA Xc pg H S)
 (hR : ∀ ys H s', Inv Xc pg σc H s' → H S = none → AccAt RT S ys s'.heap → ys.length ≤ sizeLine → Q ys H → RR (.ok (.ret res)) s') :
 ∀ (n : Nat) (s : Shared), wo RT (fun _ => True) Xc pg σc S Q A.in1.in1 gn n s → codeAny (model Xc.prog Xc.w) A (.builtin "list.extend.loop" ⟨[.ref S, .ref a, res], []⟩) RR s := by
 have turn : ∀ (n : Nat), (∀ n' s, n = n' + 1 → wo RT (fun _ => True) Xc pg σc S Q A.in1.in1 gn n' s → codeAny (model Xc.prog Xc.w) A (.builtin "list.extend.loop" ⟨[.ref S, .ref a, res], []⟩) RR s) → ∀ s, wo RT (fun _ => True) Xc pg σc S Q A.in1.in1 gn n s → codeAny (model Xc.prog Xc.w) A (.builtin "list.extend.loop" ⟨[.ref S, .ref a, res], []⟩) RR s := by
  intro n ih s R
  obtain ⟨ys, H, gs, I, hS, acc, hgs, go⟩ := R
  have I1 : Inv Xc pg σc H (s.setGen gn .running) := I.gens rfl rfl (ia I.bare rfl) (Nat.le_of_eq iO.symm)
  refine codeAny_builtin F.entry_extend_loop ?_
  refine wpAny_bind (wpAny_pyNext_genexpQ (A := A.in1) (P := Jz RT Xc pg σc S Q) (Y := HA RT (fun _ => True) Xc pg σc S) hh I.nolimit hroom (hpin I) hgs (go _ I1 rfl) (fun v s1 gs' hb hv => ?_) (fun s1 hp h' hk => ?_))
  · obtain ⟨_, ys1, y, H1, _, r1, J1, hS1, ⟨_, oS, its, k, rfl, vS⟩, hz1, k1⟩ := hv
    have J2 : Inv Xc pg σc H1 (s1.setGen gn gs') := J1.gens rfl rfl (ia J1.bare hb) (Nat.le_of_eq iO.symm)
    have vl := vS.length
    obtain ⟨f0, f1, f2, f3, f4, f5⟩ := sS hS1
    refine wpAny_bind (wpAny_updateSeq (s := s1.setGen gn gs') oS rfl (wpAny_pure ⟨plainId_quiet F.plain_extend_loop _, ?_⟩) (by rw [List.size_toArray]; omega) (by rw [Array.size_push, List.size_toArray]; omega))
    have kp : ∀ b o, b ≠ S → s1.heap.get? b = some o → (s1.heap.update S (Obj.mapSeq (·.push v))).get? b = some o := fun b o hb e => (Heap.get?_update_other _ _ (Ne.symm hb)).trans e
    have J3 : Inv Xc pg σc H1 { s1.setGen gn gs' with heap := s1.heap.update S (Obj.mapSeq (·.push v)) } := J2.turned (t' := (s1.setGen gn _).toks) kp hS1 f1 f3 f4 f5
    have acc3 : AccAt RT S _ (s1.heap.update S (Obj.mapSeq (·.push v))) := ⟨_, Heap.get?_update_self _ oS rfl, _, _, by rw [← List.push_toArray]; rfl, vS.append (.cons r1 .nil)⟩
    cases n with
    | zero => exact (k1 _ J3 acc3 kp).elim
    | succ n' =>
     refine ih n' _ rfl ⟨_, H1, gs', J3, hS1, acc3, ?_, fun s'' I'' e'' => k1 _ I'' (by rw [e'']; exact acc3) fun b o hb e => by rw [e'']; exact kp b o hb e⟩
     have hlt := Nat.lt_of_lt_of_le hgn J1.os.2
     simp [Shared.setGen, hlt]
  · obtain ⟨_, ys1, H1, J1, hS1, ⟨_, oS, its, k, rfl, vS⟩, hz1, q1⟩ := hp
    have J2 : Inv Xc pg _ H1 (s1.setGen gn .finished) := J1.gens rfl rfl (ia J1.bare rfl) (Nat.le_of_eq iO.symm)
    exact wpAny_pure (hR _ H1 _ (J2.kept hk) hS1 ⟨_, hk _ _ oS, its, k, rfl, vS⟩ hz1 q1)
 intro n
 induction n with
 | zero => exact turn 0 fun n' s e => by omega
 | succ n ih => exact turn _ fun n' s e => by cases e; exact ih s
end
section
variable {prog : Program} {w : World} {A : Around} {E : Value → Shared → Prop} {s : Shared} {a : Addr} {gn : Nat}
theorem nQ {h h' : Heap} (g : h.IsGen a gn) (k : ∀ b o, h.get? b = some o → h'.get? b = some o) : h'.IsGen a gn := by
 obtain ⟨o, x, y, e, r⟩ := g
 exact ⟨o, x, y, k _ _ e, r⟩
theorem mw {Q : List Value → Shared → Prop} (hg : s.heap.IsGen a gn)
 (h : ∀ h3 k, h3.get? s.heap.objs.size = some { cls := .type "list", data := .seq ([] : List Value).toArray k } → (∀ b o, s.heap.get? b = some o → h3.get? b = some o) →
  codeAny (model prog w) A (.builtin "list.extend.loop" ⟨[.ref s.heap.objs.size, .ref a, .ref s.heap.objs.size], []⟩) (fun r s' => r = .ok (.ret (.ref s.heap.objs.size)) ∧ ∃ (its : List Value) (k : Nat), s'.heap.get? s.heap.objs.size = some { cls := .type "list", data := .seq its.toArray k } ∧ Q its s') { s with heap := h3 }) :
 wpAny (model prog w) A (collect (.ref a)) Q E s := by
 have hlt : a < s.heap.objs.size := by obtain ⟨o, x, y, e, r⟩ := hg; exact Heap.lt_size e
 have hSI : s.heap.objs.size ≠ a := Nat.ne_of_gt hlt
 have old1 : ∀ b o, s.heap.get? b = some o → (s.heap.push { cls := .type "list", data := .seq ([] : List Value).toArray }).get? b = some o := fun b o e => Heap.get?_push_of_some _ e
 have g1 : (s.heap.push { cls := .type "list", data := .seq ([] : List Value).toArray }).IsGen a gn := nQ hg old1
 refine wpAny_bind (wpAny_runValue (codeAny_builtin F.entry_proto_collect ?_))
 refine wpAny_bind (wpAny_newObj_type ?_)
 refine wpAny_pure ⟨plainId_quiet F.plain_list_iadd _, codeAny_builtin F.entry_list_iadd ?_⟩
 show wpAny _ A.in1 (Builtin.List.listExtendWith (.ref s.heap.objs.size) (.ref a) (.ref s.heap.objs.size)) _ _ _
 have hT : Shared.TypeIs { s with heap := s.heap.push { cls := .type "list", data := .seq ([] : List Value).toArray } } (.ref a) "generator" := g1.typeIs
 refine wpAny_bind (wpAny_typeOf hT ?_)
 have h1 : Builtin.List.listSameRef (.ref s.heap.objs.size) (.ref a) = false := by simp [Builtin.List.listSameRef, hSI]
 have h2 : (Value.type "generator" == Value.type "list") = false := by decide
 have h3 : (Value.type "generator" == Value.type "tuple") = false := by decide
 simp only [h1, h2, h3, Bool.or_false, Bool.false_eq_true, if_false]
 refine wpAny_bind (wpAny_pyIter_gen g1 ?_)
 refine wpAny_bind (wpAny_holding ?_)
 refine wpAny_bind (wpAny_specialOf hT F.gen_no_len ?_)
 refine wpAny_bind (wpAny_specialOf hT F.gen_no_hint ?_)
 refine wpAny_pure ?_
 refine wpAny_bind (wpAny_rule ?_)
 have hS₁ : (s.heap.push { cls := .type "list", data := .seq ([] : List Value).toArray }).get? s.heap.objs.size = some { cls := .type "list", data := .seq ([] : List Value).toArray } := Heap.get?_push_size _ rfl
 refine wpAny_bind ?_
 refine wpAny_bind (wpAny_updateSeq hS₁ rfl ?_)
 have hS₂ := Heap.get?_update_self (Obj.mapSeq (·.push Value.none)) hS₁ rfl
 refine wpAny_updateSeq hS₂ rfl ?_
 have hS₃ := Heap.get?_update_self (Obj.mapSeq (·.pop)) hS₂ rfl
 have oth : ∀ b o, b ≠ s.heap.objs.size → (s.heap.push { cls := .type "list", data := .seq ([] : List Value).toArray }).get? b = some o →
  (((s.heap.push { cls := .type "list", data := .seq ([] : List Value).toArray }).update s.heap.objs.size (Obj.mapSeq (·.push Value.none))).update _ (Obj.mapSeq (·.pop))).get? b = some o :=
  fun b o hb e => (Heap.get?_update_other _ _ (Ne.symm hb)).trans ((Heap.get?_update_other _ _ (Ne.symm hb)).trans e)
 refine wpAny_pure ⟨plainId_quiet F.plain_extend_loop _, codeAny_mono (h _ _ hS₃ fun b o e => oth b o (Nat.ne_of_lt (Heap.lt_size e)) (old1 b o e)) fun r s' hr => ?_⟩
 obtain ⟨rfl, its, k, oS, q⟩ := hr
 refine wpAny_bind (wpAny_load oS ?_)
 exact wpAny_pure q
theorem km {Q₁ : Value → Shared → Prop} (hg : s.heap.IsGen a gn)
 (h : ∀ h3 k, h3.get? s.heap.objs.size = some { cls := .type "list", data := .seq ([] : List Value).toArray k } → (∀ b o, s.heap.get? b = some o → h3.get? b = some o) →
  codeAny (model prog w) A.in1 (.builtin "list.extend.loop" ⟨[.ref s.heap.objs.size, .ref a, .ref s.heap.objs.size], []⟩) (fun r s' => r = .ok (.ret (.ref s.heap.objs.size)) ∧ ∃ (its : List Value) (k : Nat), s'.heap.get? s.heap.objs.size = some { cls := .type "list", data := .seq its.toArray k } ∧ its.length ≤ sizeLine ∧ Q₁ (.ref s'.heap.objs.size) { s' with heap := s'.heap.push { cls := .type "tuple", data := .seq its.toArray } }) { s with heap := h3 }) :
 codeAny (model prog w) A (.call (.builtin "tuple.__new__") ⟨[.type "tuple", .ref a], []⟩) (wants Q₁ E) s := by
 refine codeAny_of_tree ?_
 show wpAny _ A.in1 (do checkBuiltinCall "tuple.__new__" ⟨[.type "tuple", .ref a], []⟩; again (.builtin "tuple.__new__" ⟨[.type "tuple", .ref a], []⟩)) _ _ s
 refine wpAny_bind (wpAny_of_eq (F.newCall_tuple_1 _) (wpAny_pure ⟨plainId_quiet F.plain_tuple_new _, codeAny_builtin F.entry_tuple_new ?_⟩))
 rw [Around.under_plainId F.plain_tuple_new _]
 have hsub := sub_tuple_self
 have hinit := init_tuple_lookup
 have hmh := madeHere_tuple
 have hTI : s.TypeIs (.ref a) "generator" := hg.typeIs
 have hcl := fun (Q : List Value → Shared → Prop) (E' : Value → Shared → Prop) => mw (A := A.in1) (prog := prog) (w := w) (Q := Q) (E := E') hg
 wp_walk using wpAny_typeOf hTI, hcl
 intro h3 k e3 k3
 refine codeAny_mono (h h3 k e3 k3) fun r s' hr => ?_
 obtain ⟨rfl, its, k', oS, hz, q⟩ := hr
 refine ⟨rfl, its, k', oS, ?_⟩
 show wpAny _ _ (Builtin.Tuple.tupleExact its.toArray >>= fun v => ret v) _ _ _
 refine wpAny_bind (wpAny_newObj_type ?_ (by exact hz))
 exact wpAny_pure q
theorem k8 (hg : s.heap.IsGen a gn)
 (h : ∀ h3 k, h3.get? s.heap.objs.size = some { cls := .type "list", data := .seq [].toArray k } → (∀ b o, s.heap.get? b = some o → h3.get? b = some o) →
  codeAny (model prog w) A.in1.in1 (.builtin "list.extend.loop" ⟨[.ref s.heap.objs.size, .ref a, .ref s.heap.objs.size], []⟩) (fun r s' => r = .ok (.ret (.ref s.heap.objs.size)) ∧ ∃ (its : List _) (k : Nat), s'.heap.get? s.heap.objs.size = some { cls := .type "list", data := .seq its.toArray k } ∧ its.length ≤ sizeLine ∧ Q (.ref s'.heap.objs.size) { s' with heap := s'.heap.push { cls := .type "tuple", data := .seq its.toArray } }) { s with heap := h3 }) :
 wpAny (model prog w) A (call (.type "tuple") [.ref a]) Q E s := by
 refine callType_codes (Q₁ := fun obj s₁ => s₁.TypeIs obj "tuple" ∧ Q obj s₁) F.called_tuple (F.typeCall_tuple_1 _) F.entry_object_init
  (km hg fun h3 k e3 k3 => codeAny_mono (h h3 k e3 k3) fun r s' hr => ?_) fun obj s₁ h₁ => ?_
 · obtain ⟨e, its, k', oS, hz, q⟩ := hr
   exact ⟨e, its, k', oS, hz, ⟨_, Heap.get?_push_size _ rfl, rfl⟩, q⟩
 · exact ⟨h₁.1, F.args_object_init_2 _ _, object_init_meets F.called_tuple.init.lookup F.called_tuple.made rfl _ w _ _ _ ⟨h₁.1, rfl, h₁.2⟩⟩
end
def rS : Nat → Around → Around
 | 0, A => A
 | d + 1, A => (rS d A).in1
theorem rT (A : Around) : ∀ d, (rS d A).handled = A.handled
 | 0 => rfl
 | d + 1 => rT A d
theorem se (A : Around) : ∀ d, (rS d A).depth = A.depth
 | 0 => rfl
 | d + 1 => se A d
theorem ua (A : Around) : ∀ d, (rS d A).units = A.units + d
 | 0 => rfl
 | d + 1 => by show (rS d A).units + 1 = _; rw [ua A d]; rfl
def dq (d : Nat) (X : Cx) (N' : List Str) (elt : Expr) (gs : List Comprehension) (scope : Scope) (pos : Pos) (cl : List (Str × Addr)) (C : Addr) (code : Value) (it : Addr) (ex : List Addr) (s : Shared) (H : Hp) : Cx :=
 { vg X N' elt gs scope pos cl C code it ex s H with A := (rS d X.A).over (.compLoop (.GeneratorExp elt gs scope pos) 0 (.ref it) .none (genEnv scope cl C code builtinsNs X.env)) [] }
theorem bh.gen4 {k d} (hd : d ≤ 4) {A} (r : bh (k + 1) A) {elt} {gs} {scope} {pos} {it acc} {env} : bh k ((rS d A).over (.compLoop (.GeneratorExp elt gs scope pos) 0 it acc env) []) := by
 have h1 := r.dp
 have h2 := r.un
 refine ⟨(rT A d).trans r.hd, ?_, ?_⟩
 · show (rS d A).depth + 0 + 1 + 3 * k + 5 < _
   rw [se]
   omega
 · show (rS d A).units + 0 + 3 + 16 * k + 200 < _
   rw [ua]
   omega
theorem IA {d : Nat} (hd : d = 2 ∨ d = 4) {X : Cx} {pins : List (Addr × Obj)} {σ : St} {H : Hp} {s : Shared} {N' : List Str} {elt : Expr} {gs : List Comprehension} {scope : Scope} {pos : Pos} {cl : List (Str × Addr)} {C : Addr} {code : Value} {it : Addr} {ex : List Addr} {s0 : Shared} {H0 : Hp} (I : Inv (vg X N' elt gs scope pos cl C code it ex s0 H0) pins σ H s) : Inv (dq d X N' elt gs scope pos cl C code it ex s0 H0) pins σ H s := by
 rcases hd with rfl | rfl <;> exact ⟨{ I.ok with hd := I.ok.hd, frames := I.ok.frames }, I.os, I.bare, I.base, I.loc, I.cell, I.free, I.freeC, I.pin, I.hok, I.len⟩
def zc (P : Addr) (ix : List (Option Nat)) (wi : TI) (g : TG) (tt : TT) (te : TE) : TE := fun σ H Q => wi σ H fun J H1 => H1 P = some (cX P) ∧ uA J (bV ix σ) g tt te (fun ys H' => ∀ p, H' p = none → Q (.ref p) (bq H' p (.tup ys))) H1
def AC (OkL : List V → Prop) (J : It) (σc : St) (g : TG) (tt : TT) (te : TE) (Q : List V → Hp → Prop) (H1 : Hp) : Prop :=
 jw OkL (fun ys => ys.length ≤ sizeLine) (fun ys => ys.length < sizeLine) (GU te) [] J σc g tt Q H1
section
variable {X : Cx}
theorem xU {d : Nat} (hd4 : d = 2 ∨ d = 4) {RA : List V → Obj → Prop} {OkL : List V → Prop} (hRA : ∀ ys o v, RA ys o → o.data ≠ .cell v) {QF : List V → Hp → Prop} {KK : It → Hp → Prop} {pins : List (Addr × Obj)} {s : Shared} {σ : St} {H : Hp} {elt target iter : Expr} {ifs : List Expr} {scope : Scope} {pos : Pos} {N' : List Str} {ix : List (Option Nat)} {wi : TI} {g : TG} {tt : TT} {te : TE} {c P : Addr} {QQ : Value → Shared → Prop}
 (hcalm : X.calm = true) (hroom : X.A.depth < recursionLimit) (hi : PI X target iter wi)
 (hg : ∀ cl C code it ex s H, PG (dq d X N' elt [⟨target, iter, ifs, 0⟩] scope pos cl C code it ex s H) target g) (hf : ∀ cl C code it ex s H, PF (dq d X N' elt [⟨target, iter, ifs, 0⟩] scope pos cl C code it ex s H) ifs tt)
 (he : ∀ cl C code it ex s H, PE (dq d X N' elt [⟨target, iter, ifs, 0⟩] scope pos cl C code it ex s H) elt te)
 (hok : aZ X.env.scope X.N scope N' ix = true) (hco : scope.isCoroutine = false) (h0 : scope.names.lookup (".0" : Str) = some NameKind.local) (B : Bm X.mg X.base) (hc : X.env.code = .ref c) (hd : PySem.W.CodeHd X.base c P)
 (hs : ∀ x, genFold iter X.env x = pure x) (I : Inv X pins σ H s) (h : wi σ H KK) (hKK : ∀ J H1, KK J H1 → H1 P = some (cX P) ∧ AC OkL J (bV ix σ) g tt te QF H1)
 (hQQ : ∀ (Xc : Cx) (pg : List (Addr × Obj)) (σc : St) (a : Addr) (gn n : Nat) (s' : Shared), Xc.prog = X.prog → Xc.w = X.w → gn < Xc.s₀.gens.size → (∀ {H s}, Inv Xc pg σc H s → s.heap.IsGen a gn) → s'.heap.IsGen a gn →
  (∀ h3 tk o, h3.get? s'.heap.objs.size = some o → RA [] o → (∀ b o, s'.heap.get? b = some o → h3.get? b = some o) → wo RA OkL Xc pg σc s'.heap.objs.size QF (rS d X.A) gn n { s' with heap := h3, toks := tk }) →
  (∀ {H : Hp}, H s'.heap.objs.size = none → bA Xc pg H s'.heap.objs.size) →
  (∀ (H : Hp) (s'' : Shared), Inv Xc pg σc H s'' → Inv X pins σ H s'') → QQ (.ref a) s') :
 wpAny (model X.prog X.w) X.A (eval (.GeneratorExp elt [⟨target, iter, ifs, 0⟩] scope pos) X.env) QQ X.xe s := by
 obtain ⟨hk, _, hcell⟩ := ci hok
 obtain ⟨_, _, cl, hcl, hc1, hc2⟩ := iq I hok
 refine wpAny_GeneratorExp_make hco hcl hcell h0 hk hroom (aU (hi pins s σ H _ I h) fun v s1 h1 => aU h1 fun itv s2 h2 => ?_) hs
 obtain ⟨it, fp, tn, J, H2, e, I2, T, st2, f2, kk⟩ := h2
 obtain ⟨ht, W, ⟨m0, w0⟩, hWL, turn⟩ := hKK _ _ kk
 subst e
 refine ⟨I2.nolimit, vn I2 hc hd ht fun code h3 tk3 I3 k3 => yp I3 B ?_⟩
 intro h4 hns4 hsb4
 dsimp only at hns4 hsb4 ⊢
 have fpP : ∀ b ∈ fp, b ≠ P := fun b hb z => by
  have := (f2 b hb).1
  rw [z, ht] at this
  cases this
 have st3 : tn 0 h3 := T.keep _ _ _ st2 fun b hb o e => k3 b o (fpP b hb) e
 have fpLt : ∀ b ∈ fp, b < h3.objs.size := fun b hb => by
  obtain ⟨o, e, _⟩ := T.obj _ _ st3 b hb
  exact Heap.lt_size e
 have hz4 : h4.objs.size = h3.objs.size + 1 := by rw [hsb4.1, Heap.size_push]
 have old4 : ∀ b o, h3.get? b = some o → h4.get? b = some o := fun b o e => hsb4.extBut b o (Nat.ne_of_lt (Heap.lt_size e)) (Heap.get?_push_of_some _ e)
 generalize hog : ({ cls := .type "generator", data := .fields #[.int s2.gens.size 0, .str "<genexpr>" (tk3 + 1), .str (X.env.qual ++ "<genexpr>") (tk3 + 1 + 1)] } : Obj) = og
 have old5 : ∀ b o, h3.get? b = some o → (h4.push og).get? b = some o := fun b o e => Heap.get?_push_of_some _ (old4 b o e)
 have hex : ∀ b ∈ fp, bA X pins H2 b ∧ b < ({ s2 with heap := h3, toks := tk3 } : Shared).heap.objs.size := fun b hb => ⟨f2 b hb, fpLt b hb⟩
 have I5 := IA hd4 (wP I3 (elt := elt) (gs := [⟨target, iter, ifs, 0⟩]) (pos := pos) (code := code) (it := it) (tk := tk3 + 1 + 1 + 1) (g' := s2.gens.push (.fresh (.compStart (.GeneratorExp elt [⟨target, iter, ifs, 0⟩] scope pos) 0 (.ref it) .none (genEnv scope cl h3.objs.size code builtinsNs X.env)))) hok hc1 hc2 hex (hns4.push og) old5 (I3.bare.push rfl))
 generalize hXc : dq d X N' elt [⟨target, iter, ifs, 0⟩] scope pos cl ({ s2 with heap := h3, toks := tk3 } : Shared).heap.objs.size code it fp _ H2 = Xc at I5
 have hg' : PG Xc target g := by rw [← hXc]; exact hg _ _ _ _ _ _ _
 have hf' : PF Xc ifs tt := by rw [← hXc]; exact hf _ _ _ _ _ _ _
 have he' : PE Xc elt te := by rw [← hXc]; exact he _ _ _ _ _ _ _
 have xP : Xc.prog = X.prog := by rw [← hXc]; rfl
 have xw : Xc.w = X.w := by rw [← hXc]; rfl
 have xK : Xc.K = X.K := by rw [← hXc]; rfl
 have xE : Xc.env = genEnv scope cl h3.objs.size code builtinsNs X.env := by rw [← hXc]; rfl
 have xA : Xc.A = (rS d X.A).over (.compLoop (.GeneratorExp elt [⟨target, iter, ifs, 0⟩] scope pos) 0 (.ref it) .none Xc.env) [] := by rw [xE, ← hXc]; rfl
 have xc : Xc.calm = true := by rw [← hXc]; exact hcalm
 have xL : Xc.env.locals = h3.objs.size := by rw [xE]; rfl
 have xx : Xc.ex = fp := by rw [← hXc]; rfl
 have xp : Xc.pn = [] := by rw [← hXc]; rfl
 have xs : Xc.s₀.heap = h3 := by rw [← hXc]; rfl
 have xsg : Xc.s₀.gens.size = s2.gens.size + 1 := by rw [← hXc]; exact Array.size_push _
 have xso : Xc.s₀.os = s2.os := by rw [← hXc]; rfl
 have xH : Xc.H₀ = H2 := by rw [← hXc]; rfl
 have xf : Xc.fs = oC X.stack := by rw [← hXc]; rfl
 have xcl : Xc.env.cells = cl := by rw [xE]; rfl
 have xx' : Xc.xe = fun _ _ => False := by rw [← hXc]; rfl
 have xco : Xc.env.scope.isCoroutine = false := by rw [xE]; exact hco
 have aLt : (h3.objs.size : Nat) < h4.objs.size := by omega
 have aFp : h4.objs.size ∉ fp := fun hb => Nat.lt_irrefl _ (Nat.lt_trans aLt (fpLt _ hb))
 have stat : ∀ {S : Addr} {H' : Hp} {o : Obj}, S ∉ fp → (∀ b ∈ fp, H' b = none) → ∀ b ∈ fp, bA Xc ((S, o) :: [(h4.objs.size, og)]) H' b := fun {S H' o} hSf hn b hb => by
  refine ⟨hn b hb, by rw [xL]; exact Nat.ne_of_lt (fpLt b hb), by rw [xf]; exact I2.off (f2 b hb), .inl (by rw [xx]; exact hb), fun x c e => (f2 b hb).2.2.2.2.1 x c (hc1 x c (by rw [xcl] at e; exact e)), fun p hp z => ?_⟩
  rw [xp] at hp
  have hp' : p = (S, o) ∨ p = (h4.objs.size, og) := by simpa using hp
  rcases hp' with hp' | hp'
  · rw [hp'] at z
    exact hSf (by have z' : S = b := z; rw [z']; exact hb)
  · rw [hp'] at z
    exact aFp (by have z' : h4.objs.size = b := z; rw [z']; exact hb)
 have aX : h4.objs.size ∉ oC X.stack := fun hb => by
  rcases List.mem_cons.mp (I3.stkSub _ hb) with z | z
  · have h' : X.env.locals < h3.objs.size := I3.lt
    exact Nat.lt_irrefl _ (Nat.lt_trans aLt (by rw [z]; exact h'))
  · exact I3.nofs (a := h4.objs.size) (Nat.le_of_lt aLt) z
 have I6 : Inv Xc [(h4.objs.size, og)] (bV ix σ) H2 { s2 with heap := h4.push og, gens := s2.gens.push (.fresh (.compStart (.GeneratorExp elt [⟨target, iter, ifs, 0⟩] scope pos) 0 (.ref it) .none (genEnv scope cl h3.objs.size code builtinsNs X.env))), toks := tk3 + 1 + 1 + 1 } := I5.pins_of fun p hp => by
  have hp' : p = (h4.objs.size, og) := by simpa using hp
  subst hp'
  refine ⟨Heap.get?_push_size _ (by rw [← hog]; rfl), I3.hok.fresh (Nat.le_of_lt aLt), by rw [xL]; exact Nat.ne_of_gt aLt, by rw [xf]; exact aX, fun v z => ?_⟩
  rw [← hog] at z
  cases z
 rw [← xP, ← xw, ← xK] at T
 have hz5 : (h4.push og).objs.size = h4.objs.size + 1 := Heap.size_push _ _
 have sF : ∀ b ∈ fp, b < (h4.push og).objs.size := fun b hb => by rw [hz5]; exact Nat.lt_succ_of_lt (Nat.lt_trans (fpLt b hb) aLt)
 have hSf : (h4.push og).objs.size ∉ fp := fun hm => Nat.lt_irrefl _ (sF _ hm)
 have fS : ∀ {H : Hp}, H (h4.push og).objs.size = none → bA Xc [(h4.objs.size, og)] H (h4.push og).objs.size := fun {H} hn => I6.fpOk (Nat.le_refl _) hn
 have seg := xQ (OkL := OkL) (Q := QF) hRA (Xc := Xc) (pg := [(h4.objs.size, og)]) (σc := bV ix σ) (S := (h4.push og).objs.size) (A1 := rS d X.A) (W := W) T xA xc xx' xco hg' hf' he' hSf (fS (H := fun _ => none) rfl).2.1 (fS (H := fun _ => none) rfl).2.2.1 (stat hSf) turn hWL m0 (m0 + 1) (Nat.lt_succ_self _) 0 [] H2
 have genAt : ∀ {H s}, Inv Xc [(h4.objs.size, og)] (bV ix σ) H s → s.heap.IsGen h4.objs.size s2.gens.size := fun {H s} K => by
  have := (K.pin (h4.objs.size, og) (List.mem_append_right _ (List.mem_singleton.mpr rfl))).1
  exact ⟨og, _, _, this, by rw [← hog], by rw [← hog], by rw [← hog]⟩
 refine hQQ Xc [(h4.objs.size, og)] (bV ix σ) h4.objs.size s2.gens.size (m0 + 1) _ xP xw (by rw [xsg]; exact Nat.lt_succ_self _) genAt (genAt I6) (fun h6 tk6 o6 e6 a6 k6 => ?_) fS (fun H' s' K => ?_)
 · refine ⟨[], H2, _, I6.kept (t' := tk6) k6, I6.hok.fresh (Nat.le_refl _), ⟨o6, e6, a6⟩, Array.getElem?_push_size .., fun s'' I'' e'' => ⟨rfl, ?_⟩⟩
   have e'' : s''.heap = h6 := e''
   have st'' : tn 0 s''.heap := by rw [e'']; exact T.keep _ _ _ st3 fun b hb o e => k6 b o (old5 b o e)
   rw [← xE]
   exact qS T st'' (seg s'' s'' w0 I'' (I6.hok.fresh (Nat.le_refl _)) (by rw [e'']; exact ⟨o6, e6, a6⟩) st'' (fun b hb => (f2 b hb).1) rfl)
 · have u := K.base
   rw [xs, xH, xf, xx] at u
   have ko := K.hok
   rw [xP, xw] at ko
   exact I3.call' (s' := s') (ch := fp) ⟨by rw [K.os.1, xso], by have := K.os.2; rw [xsg] at this; exact Nat.le_trans (Nat.le_succ _) this⟩ u ko K.bare (fun b hb => by
    have f := f2 b hb
    exact ⟨f.2.2.2.1, f.2.1, f.2.2.2.2.1, f.2.2.2.2.2⟩)
theorem v3 {elt target iter : Expr} {ifs : List Expr} {scope : Scope} {pos cpos p : Pos} {N' : List Str} {ix : List (Option Nat)} {wi : TI} {g : TG} {tt : TT} {te : TE} {c P : Addr} {k : Nat} (hcalm : X.calm = true) (hr : bh k X.A) (hgl : Gl X "tuple") (hm : X.mg "tuple" = none) (B : Bm X.mg X.base) (hd : PySem.W.CodeHd X.base c P) (hc : X.env.code = .ref c) (hi : PI X target iter wi)
 (hg : ∀ cl C code it ex s H, PG (dq 4 X N' elt [⟨target, iter, ifs, 0⟩] scope pos cl C code it ex s H) target g) (hf : ∀ cl C code it ex s H, PF (dq 4 X N' elt [⟨target, iter, ifs, 0⟩] scope pos cl C code it ex s H) ifs tt)
 (he : ∀ cl C code it ex s H, PE (dq 4 X N' elt [⟨target, iter, ifs, 0⟩] scope pos cl C code it ex s H) elt te)
 (hok : aZ X.env.scope X.N scope N' ix = true) (hco : scope.isCoroutine = false) (h0 : scope.names.lookup (".0" : Str) = some NameKind.local)
 (hs : ∀ x, genFold iter X.env x = pure x) :
 PE X (.Call (.Name "tuple" p) [.GeneratorExp elt [⟨target, iter, ifs, 0⟩] scope pos] [] cpos) (zc P ix wi g tt te) := by
 intro pins s σ H Q I h
 refine wpAny_Call_Name_kw (bX I hgl hm (show bootBuiltins (Str.ofString "tuple") = some (.type "tuple") by decide +kernel) ?_)
 refine PyProof.Rows.callWith_type1 ?_ rfl rfl
 refine Calls.spliced_cons (xU (.inr rfl) (RA := RT) (OkL := fun _ => True) (fun ys o v ho z => by obtain ⟨_, _, rfl, _⟩ := ho; cases z) hcalm hr.depth hi hg hf he hok hco h0 B hc hd hs I h (fun _ _ h => h) fun Xc pg σc a gn n s' xP xw hgn hpin hgen hrdy hS hfin => Calls.spliced_nil ?_)
 refine k8 hgen fun h3 k e3 k3 => ?_
 have L := fun RR hR => sB (A := X.A.in1.in1) (RR := RR) (res := .ref s'.heap.objs.size) hr.hd hr.depth hgn hpin hS hR n _ (hrdy h3 s'.toks _ e3 ⟨[], k, rfl, .nil⟩ k3)
 rw [xP, xw] at L
 refine L _ fun ys H1 s'' J hS1 acc hz q => ?_
 obtain ⟨_, oS, its, k', rfl, vS⟩ := acc
 have J1 := hfin H1 _ J
 refine ⟨rfl, its, k', oS, by rw [← vS.length]; exact hz, .ref _, _, J1.laid (fun b o e => Heap.get?_push_of_some _ e) (Nat.le_refl _) ?_, rfl, q _ (J1.hok.fresh (Nat.le_refl _))⟩
 exact ⟨hz, its, vS, _, Heap.get?_push_size _ rfl, rfl, _, rfl⟩
end
end L2
end
section
namespace HT
open PySem PyProof.Rows
end HT
namespace L2
def Fx (x : Int) : List Int → List Int
 | [] => [x]
 | y :: r => if x ≤ y then x :: y :: r else y :: Fx x r
def tM : List Int → List Int
 | [] => []
 | x :: r => Fx x (tM r)
theorem iT : ∀ {a b : List Int}, a.Perm b → a.Pairwise (· ≤ ·) → b.Pairwise (· ≤ ·) → a = b
 | [], b, p, _, _ => (List.nil_perm.mp p).symm
 | x :: a, [], p, _, _ => absurd (List.perm_nil.mp p) (by simp)
 | x :: a, y :: b, p, ha, hb => by
  rw [List.pairwise_cons] at ha hb
  have e : x = y := by
   have h1 := p.mem_iff.mpr List.mem_cons_self
   have h2 := p.mem_iff.mp List.mem_cons_self
   rcases List.mem_cons.mp h1 with z | z
   · exact z.symm
   · rcases List.mem_cons.mp h2 with z' | z'
     · exact z'
     · exact Int.le_antisymm (ha.1 y z) (hb.1 x z')
  subst e
  rw [iT (List.Perm.cons_inv p) ha.2 hb.2]
end L2
end
section
namespace L2
def vG (xs : Array Nat) : Prop := ∀ i j : Nat, ∀ (hi : i < xs.size) (hj : j < xs.size), i < j → xs[i] < xs[j]
structure Hw (xs : Array Nat) (j r : Nat) : Prop where
 le : r ≤ xs.size
 lo : ∀ i (h : i < xs.size), i < r → xs[i] < j
 hi : ∀ i (h : i < xs.size), r ≤ i → j ≤ xs[i]
theorem ir {j} (hx : vG xs) : ∀ (fuel lo hi : Nat), lo ≤ hi → hi ≤ xs.size → hi - lo ≤ fuel → (∀ i (h : i < xs.size), i < lo → xs[i] < j) → (∀ i (h : i < xs.size), hi ≤ i → j ≤ xs[i]) → Hw xs j (SetTable.below.go xs j fuel lo hi)
 | 0, lo, hi, h1, h2, h3, h4, h5 => by
  have e : lo = hi := by omega
  subst e
  exact ⟨h2, h4, h5⟩
 | fuel + 1, lo, hi, h1, h2, h3, h4, h5 => by
  unfold SetTable.below.go
  by_cases hl : lo < hi
  · rw [if_pos hl]
    have hm : (lo + hi) / 2 < xs.size := by omega
    have eg : xs.getD ((lo + hi) / 2) j = xs[(lo + hi) / 2] := by simp_all
    show Hw xs j (if xs.getD _ j < j then _ else _)
    rw [eg]
    by_cases hc : xs[(lo + hi) / 2] < j
    · rw [if_pos hc]
      refine ir hx _ _ _ (by omega) h2 (by omega) (fun i h hi' => ?_) h5
      by_cases e : i = (lo + hi) / 2
      · subst e; exact hc
      · exact Nat.lt_trans (hx i _ h hm (by omega)) hc
    · rw [if_neg hc]
      refine ir hx _ _ _ (by omega) (by omega) (by omega) h4 fun i h hi' => ?_
      by_cases e : i = (lo + hi) / 2
      · subst e; omega
      · exact Nat.le_trans (by omega) (Nat.le_of_lt (hx _ i hm h (by omega)))
  · rw [if_neg hl]
    have e : lo = hi := by omega
    subst e
    exact ⟨h2, h4, h5⟩
theorem d9 (hx : vG xs) (j : Nat) : Hw xs j (SetTable.below xs j) :=
 ir hx _ 0 _ (Nat.zero_le _) (Nat.le_refl _) (by omega) fun i h z => by omega fun i h z => by omega
theorem t9 {p} {x} (h : p ≤ xs.size) : (SetTable.insertAt xs p x).size = xs.size + 1 := by
 unfold SetTable.insertAt
 simp
 omega
theorem sZ {p} {x} (h : p ≤ xs.size) {i} (hi : i < (SetTable.insertAt xs p x).size) : (SetTable.insertAt xs p x)[i]? = if i < p then xs[i]? else if i = p then some x else xs[i - 1]? := by
 unfold SetTable.insertAt
 grind
theorem xG {j} (hx : vG xs) (hn : ∀ i (h : i < xs.size), xs[i] ≠ j) : vG (SetTable.insertAt xs (SetTable.below xs j) j) := by
 have c := d9 hx j
 generalize SetTable.below xs j = p at c
 intro a b ha hb hab
 have ga := sZ c.le ha
 have gb := sZ c.le hb
 rw [Array.getElem?_eq_getElem ha] at ga
 rw [Array.getElem?_eq_getElem hb] at gb
 have hs := t9 (x := j) c.le
 rw [hs] at ha hb
 by_cases a1 : a < p
 · rw [if_pos a1, Array.getElem?_eq_getElem (by have := c.le; omega)] at ga
   rw [Option.some.inj ga]
   have la := c.lo a (by have := c.le; omega) a1
   by_cases b1 : b < p
   · rw [if_pos b1, Array.getElem?_eq_getElem (by have := c.le; omega)] at gb
     rw [Option.some.inj gb]
     exact hx a b _ _ hab
   · rw [if_neg b1] at gb
     by_cases b2 : b = p
     · simp_all
     · rw [if_neg b2, Array.getElem?_eq_getElem (by omega)] at gb
       rw [Option.some.inj gb]
       exact Nat.lt_of_lt_of_le la (c.hi _ _ (by omega))
 · rw [if_neg a1] at ga
   rw [if_neg (by omega), if_neg (by omega), Array.getElem?_eq_getElem (by omega)] at gb
   rw [Option.some.inj gb]
   by_cases a2 : a = p
   · rw [if_pos a2] at ga
     rw [Option.some.inj ga]
     have h1 := c.hi (b - 1) (by omega) (by omega)
     have h2 := hn (b - 1) (by omega)
     omega
   · rw [if_neg a2, Array.getElem?_eq_getElem (by omega)] at ga
     rw [Option.some.inj ga]
     exact hx _ _ _ _ (by omega)
theorem rj {t : SetTable} (hx : vG t.place) {j} (h : ∀ i, t.slot j ≠ .live i) : ∀ i (hi : i < t.place.size), t.place[i] ≠ j := by
 intro i hi e
 have c := d9 hx j
 have hb : SetTable.below t.place j = i := by
  rcases Nat.lt_trichotomy (SetTable.below t.place j) i with z | z | z
  · have h1 := c.hi _ (by omega) (Nat.le_refl _)
    have h2 := hx _ i (by omega) hi z
    omega
  · exact z
  · have := c.lo i hi z
    omega
 refine h i ?_
 unfold SetTable.slot
 simp_all
theorem eC : ∀ (fuel : Nat) (p : SetTable.Probe) {j} {d}, (∀ k, p.dummy = some k → t.slot k = .dummy) → SetTable.probe.go t f h fuel p = some (.empty j d) → t.slot j = .empty ∧ ∀ k, d = some k → t.slot k = .dummy
 | 0, p, j, d, _, e => by cases e
 | fuel + 1, p, j, d, hd, e => by
  unfold SetTable.probe.go at e
  have adv : ∀ q, (t.advance q).dummy = q.dummy := fun q => by
   unfold SetTable.advance
   split <;> rfl
  cases hs : t.slot p.j with
  | empty =>
   grind
  | dummy =>
   rw [hs] at e
   refine eC _ _ (fun k hk => ?_) e
   grind
  | live i =>
   rw [hs] at e
   dsimp only at e
   split at e
   · cases e
   · refine eC _ _ (fun k hk => hd k ?_) e
     grind
theorem je {t : SetTable} (hx : vG t.place) {h} {j} {b} (e : t.freeSlot h = some (j, b)) : ∀ i (hi : i < t.place.size), t.place[i] ≠ j := by
 unfold SetTable.freeSlot at e
 split at e
 · next j0 d hp =>
   obtain ⟨h1, h2⟩ := eC _ _ (fun k hk => by cases hk) hp
   refine rj hx fun i z => ?_
   cases d with
   | none => grind
   | some k => grind
 · cases e
theorem qz (n : Nat) : vG (Array.range n) := by
 intro i j hi hj hij
 simpa using hij
structure gz (b : Bool) (t : SetTable) : Prop where
 inc : vG t.place
 led : t.led = b
theorem gz.standIn (h : gz b t) (n : Nat) : gz b (t.standIn n) := ⟨qz n, h.led⟩
theorem gz.layNew (h : gz b t) (es : Array _) (k : Int) (x : Value) : gz b (layNew t es k x).2.1 := by
 unfold PySem.layNew
 split
 · next j d e =>
   have hp : gz b (t.put j).1 := ⟨xG h.inc (je h.inc e), h.led⟩
   show gz b ((t.put j).1.orStandIn _)
   unfold SetTable.orStandIn
   split
   · exact hp
   · exact hp.standIn _
 · exact h.standIn _
theorem wz {α : Type} (f : Nat → Option α) (n : Nat) : vG (((List.range n).filterMap fun j => (f j).map (j, ·)).map (·.1)).toArray := by
 have e : ((List.range n).filterMap fun j => (f j).map (j, ·)).map (·.1) = (List.range n).filter fun j => (f j).isSome := by
  induction List.range n with
  | nil => rfl
  | cons x l ih =>
   cases h : f x with
   | none => simpa [h] using ih
   | some y => simpa [h] using ih
 rw [e]
 have hp : ((List.range n).filter fun j => (f j).isSome).Pairwise _ := List.Pairwise.filter _ List.pairwise_lt_range
 intro i j hi hj hij
 have := List.pairwise_iff_getElem.mp hp i j (by simpa using hi) (by simpa using hj) hij
 simpa using this
theorem gz.relayAll (h : gz b t) (es : Array _) (n : Nat) : gz b (relayAll t es n).2.1 := by
 unfold PySem.relayAll
 split
 · next t' o e =>
   have ht : gz b t' := by
    unfold SetTable.relaid SetTable.laid at e
    cases hc : SetTable.layClean _ _ with
    | none => rw [hc] at e; cases e
    | some ow => rw [hc] at e; cases e; exact ⟨wz _ _, h.led⟩
   dsimp only
   split
   · exact ht
   · exact h.standIn _
 · exact h.standIn _
theorem gz.fresh (f m : Nat) : gz b (SetTable.fresh f m b) := ⟨fun i j hi _ _ => absurd hi (Nat.not_lt_zero _), rfl⟩
structure ng (b : Bool) (h : Heap) (a : Addr) (es : Array (Int × Value)) : Prop where
 ex : ∃ o ep t, h.get? a = some o ∧ o.ExactSet ∧ o.data = .set es ep t ∧ t.fits es.size = true ∧ gz b t
section
variable {prog : Program} {w : World} {K : Type} [DecidableEq K] {knd : KeyKind prog w K} {A : Around} {E : Value → Shared → Prop} {s : Shared} {b : Bool} {a : Addr}
theorem oN {t'} {Q} (N : ng b s.heap a es) (hf : t'.fits es'.size = true) (hl : gz b t') (hz : es'.size < scanBound)
 (q : ∀ h', Heap.SameBut a s.heap h' → ng b h' a es' → Q () { s with heap := h' }) : wpAny (model prog w) A (storeSet a es' t') Q E s := by
 obtain ⟨o, ep, t, g, x, d, f, l⟩ := N.ex
 refine wpAny_storeSet_of g d (q _ (Heap.SameBut.update _ a _) ⟨{ o with data := .set _ (ep + 1) t' }, _, t', ?_, x, rfl, hf, hl⟩) (fits_of_scanBound hz)
 have u := Heap.get?_update_self (Obj.putSet es' t') g (by rw [putSet_of _ t' d]; rfl)
 rwa [putSet_of _ t' d] at u
theorem A4 {way : Bool → Sem _} (hw : ∀ (c : Bool) (z : Shared) (R : Unit → Shared → Prop), R () z → wpAny (model prog w) A (way c) R E z) {es es1} {t1} {d} {R} (N : ng b s.heap a es) (hf : t1.fits es1.size = true) (hl : gz b t1) (hz : es1.size < scanBound)
 (q : ∀ h' es', Heap.SameBut a s.heap h' → es'.toList.Perm es1.toList → ng b h' a es' → R (some true) { s with heap := h' }) :
 wpAny (model prog w) A (do
  storeSet a es1 t1
  if (!d && t1.tooFull) = true then
   match relayAll t1 es1 (SetTable.grown es1.size) with
   | (es, t, gave) => do
    way gave
    storeSet a es t
    pure (some true)
  else pure (some true)) R E s := by
 refine wpAny_bind (oN N hf hl hz fun h1 sb N1 => ?_)
 split
 · have p := relayAll_perm t1 es1 (SetTable.grown es1.size)
   have f := relayAll_fits t1 es1 (SetTable.grown es1.size)
   have l := hl.relayAll es1 (SetTable.grown es1.size)
   cases e : relayAll t1 _ _ with
   | mk es2 r =>
    rw [e] at p f l
    have hs : es2.size = es1.size := p.length_eq
    exact wpAny_bind (hw _ _ _ (wpAny_bind (oN N1 f l (by rw [hs]; exact hz) fun h2 sb2 N2 => wpAny_pure (q h2 _ (sb.trans sb2) p N2))))
 · exact wpAny_pure (q h1 _ sb (.refl _) N1)
theorem gz.bare (h : gz b t) : gz b { t with plain := false } := ⟨h.inc, h.led⟩
theorem Ez {k} {x} {Q} (hk : knd.is k x = true) (hx : x.scannable = true) (N : ng b s.heap a es) (el : ElemsOf knd es.toList) (hb : es.size + 1 < scanBound)
 (q1 : (∃ e ∈ es.toList, knd.is k e.2 = true) → Q false s)
 (q2 : (∀ e ∈ es.toList, knd.is k e.2 = false) → ∀ h' es', Heap.SameBut a s.heap h' → es'.toList.Perm (es.toList ++ [(knd.hash k, x)]) → ng b h' a es' → Q true { s with heap := h' }) :
 wpAny (model prog w) A (setAddHashed a x (knd.hash k)) Q E s := by
 obtain ⟨o, ep, t, g, ox, d, f, l⟩ := N.ex
 refine wpAny_holding (wpAny_bind (wpAny_setState_of g d f ?_))
 show wpAny _ _ (if byScan x es = true then _ else _) _ _ _
 rw [if_pos (byScan_of hx (by omega) el)]
 refine wpAny_bind (wpAny_bind (wpAny_rule (wpAny_bind (wpAny_setScan_of hk g d f el ?_))))
 cases hr : es.toList.findIdx? _ with
 | some j =>
  obtain ⟨hj, hp, _⟩ := List.findIdx?_eq_some_iff_getElem.mp hr
  exact wpAny_pure (wpAny_pure (q1 ⟨_, List.getElem_mem hj, hp⟩))
 | none =>
  have no := fun e he => Bool.eq_false_iff.mpr (by simpa using List.findIdx?_eq_none_iff.mp hr e he)
  have p := layNew_perm t es (knd.hash k) x
  have f1 := layNew_fits t es (knd.hash k) x
  have l1 := l.layNew es (knd.hash k) x
  cases e : layNew t es _ x with
  | mk es1 r =>
   obtain ⟨t1, dm, gave⟩ := r
   rw [e] at p f1 l1
   rw [Array.toList_push] at p
   have hs : es1.size < scanBound := by
    have := p.length_eq
    grind
   have hw : ∀ (c : Bool) (z : Shared) (R : Unit → Shared → Prop), R () z → wpAny (model prog w) A (match c with | true => rule "set.scan.the-table-gave-way" | false => pure ()) R E z := fun c z R r => by
    cases c
    · exact wpAny_pure r
    · exact wpAny_rule r
   have da := fun (t2 : SetTable) (f2 : t2.fits _ = true) l2 => A4 hw (d := dm) (R := fun r s' => wpAny (model prog w) A (match r with | some added => pure added | none => setAddHashedIn a x (knd.hash k) 99999) Q E s') N f2 l2 hs fun h' es' sb p' N' => wpAny_pure (q2 no h' _ sb (p'.trans p) N')
   refine wpAny_bind (hw _ _ _ ?_)
   by_cases hp : t1.plain = true
   · rw [if_pos hp]
     refine wpAny_bind ?_
     rw [hashByValue_scannable 8 hx]
     refine wpAny_pure ?_
     cases plainKind x
     · exact da _ (f1) l1.bare
     · exact da _ f1 l1
   · rw [if_neg hp]
     exact wpAny_bind (wpAny_pure (da _ f1 l1))
end
section
variable (prog : Program) (w : World)
def xN (p : Int × Tok) : Int × Value := ((intKind prog w).hash p.1, .int p.1 p.2)
structure eG (b : Bool) (h : Heap) (a : Addr) (ks : List Int) : Prop where
 ex : ∃ (es : Array (Int × Value)) (l : List (Int × Tok)), ng b h a es ∧ es.toList.Perm (l.map (xN prog w)) ∧ l.map (·.1) = ks
end
section
variable {prog : Program} {w : World} {A : Around} {E : Value → Shared → Prop} {s : Shared} {b : Bool} {a : Addr}
theorem qr {l : List _} (p : es.Perm (l.map (xN prog w))) : ElemsOf (intKind prog w) es := by
 intro e he
 obtain ⟨y, hy, rfl⟩ := List.mem_map.mp (p.mem_iff.mp he)
 exact ⟨⟨y.1, intKind_is _ _ _ _, rfl⟩, rfl⟩
theorem pb {es : List _} {l : List _} (p : es.Perm (l.map (xN prog w))) {k} : (∃ e ∈ es, (intKind prog w).is k e.2 = true) ↔ k ∈ l.map (·.1) := by
 constructor
 · rintro ⟨e, he, h⟩
   obtain ⟨y, hy, rfl⟩ := List.mem_map.mp (p.mem_iff.mp he)
   have := (intKind _ w).inj _ _ _ h (intKind_is _ _ _ _)
   subst this
   exact List.mem_map.mpr ⟨y, hy, rfl⟩
 · intro h
   obtain ⟨y, hy, rfl⟩ := List.mem_map.mp h
   exact ⟨_, p.mem_iff.mpr (List.mem_map.mpr ⟨y, hy, rfl⟩), intKind_is _ _ _ _⟩
theorem eG.add {k} {t} {Q} (I : eG prog w b s.heap a ks) (hb : ks.length + 1 < scanBound)
 (q : ∀ h' r, Heap.SameBut a s.heap h' → eG prog w b h' a (step_dedup ks k) → Q r { s with heap := h' }) : wpAny (model prog w) A (setAddHashed a (.int k t) ((intKind prog w).hash k)) Q E s := by
 obtain ⟨es, l, N, p, e⟩ := I.ex
 have hz : es.size = ks.length := by rw [← e, List.length_map, ← Array.length_toList, p.length_eq, List.length_map]
 refine Ez (intKind_is _ _ _ _) rfl N (qr p) (by omega) (fun h => ?_) fun h h' es' sb p' N' => ?_
 · have hk : ks.any (· == k) = true := by
    have := (pb p).mp h
    simp_all
   refine q _ _ (Heap.SameBut.refl a _) ?_
   unfold step_dedup
   simp_all
 · have hk : ¬ ks.any (· == k) = true := fun z => by
    obtain ⟨y, hy, ey⟩ := List.any_eq_true.mp z
    have := eq_of_beq ey
    subst this
    rw [← e] at hy
    obtain ⟨u, hu, h1⟩ := (pb p).mpr hy
    rw [h u hu] at h1
    cases h1
   refine q h' _ sb ?_
   unfold step_dedup
   refine ⟨es', l ++ [(k, t)], N', p'.trans ?_, by simp_all⟩
   rw [List.map_append]
   exact List.Perm.append_right _ p
theorem eG.fresh {led} (g : h.get? a = some { cls := .type "set", dict := none, data := .set #[] 0 (.fresh 0 0 led) }) : eG prog w led h a [] :=
 ⟨#[], [], ⟨_, 0, _, g, ⟨rfl, rfl, rfl⟩, rfl, rfl, gz.fresh 0 0⟩, .refl _, rfl⟩
theorem eG.keeps {ks} (I : eG prog w b h a ks) (k : ∀ o, h.get? a = some o → h'.get? a = some o) : eG prog w b h' a ks := by
 obtain ⟨es, l, ⟨o, ep, t, g, r⟩, p⟩ := I.ex
 exact ⟨es, l, ⟨o, ep, t, k o g, r⟩, p⟩
end
section
variable {prog : Program} {w : World} {A : Around} {R : Result → Shared → Prop} {b : Bool} {I S : Addr} {fp wr : List Addr} {G : Array GenState → Array GenState → Prop} {n : Nat} {P : Nat → Value → Prop} {St : Nat → Shared → Prop}
theorem lV (W : WalksS prog w A.in1 I fp wr G n P St) (hS : S ∉ fp) (f : Nat → Int) (hf : ∀ i v, P i v → ∃ t, v = .int (f i) t) (hb : n + 1 < scanBound) :
 ∀ (m i : Nat) (s : Shared), i + m = n → St i s → eG prog w b s.heap S (firstMet f i) → (∀ s', Moved (S :: wr) G s s' → eG prog w b s'.heap S (firstMet f n) → R (.ok (.ret .none)) s') →
  codeAny (model prog w) A (.builtin "set.update.loop" ⟨[.ref S, .ref I], []⟩) R s
 | m, i, s, hm, st, J, q => by
  have hw := fun z => hS (W.sub _ z)
  have up : ∀ x ∈ wr, x ∈ S :: wr := fun x z => List.mem_cons_of_mem _ z
  refine codeAny_builtin PyProof.Rows.F.entry_set_update_loop ?_
  cases m with
  | zero =>
   have e := hm
   subst e
   exact wpAny_bind (W.done s _ _ st fun s1 m1 => wpAny_pure (q s1 (m1.mono up) (J.keeps fun o z => m1.heap S o hw z)))
  | succ m =>
   refine wpAny_bind (W.item i s _ _ (by omega) st fun v s1 pv st1 m1 => ?_)
   obtain ⟨t, rfl⟩ := hf i v pv
   refine wpAny_bind (wpAny_holding ?_)
   have hl := firstMet_length_le f i
   refine wpAny_holding (wpAny_bind ((intKind _ w).pyHash (intKind_is _ _ _ _) (eG.add (J.keeps fun o z => m1.heap S o hw z) (by omega) fun h2 r sb J2 => ?_)))
   rw [← firstMet_succ] at J2
   refine wpAny_pure ⟨plainId_quiet PyProof.Rows.F.plain_set_update_loop _, lV W hS f hf hb m _ _ (by omega) (W.frame _ s1 _ _ st1 (Nat.le_succ _) fun x hx o z => ?_) J2 fun s3 m3 J3 => q s3 (Moved.trans W.gtrans ((m1.mono up).then_heap (Nat.le_succ _) fun x o hx z => ?_) m3) J3⟩
   · rw [sb.2 x fun c => hS (c ▸ hx)]; exact z
   · rw [sb.2 x fun c => hx (c ▸ List.mem_cons_self)]; exact z
end
def bR (w : World) : Bool := !w.params.followText "set-order"
def mh (b : Bool) : Obj := { cls := .type "set", dict := none, data := .set #[] 0 (.fresh 0 0 b) }
section
variable {prog : Program} {w : World} {A : Around} {E : Value → Shared → Prop} {s : Shared}
theorem xZ (x : Value) {Q : Value → Shared → Prop} (q : Q (.ref s.heap.objs.size) { s with heap := s.heap.push (mh (bR w)) }) :
 codeAny (model prog w) A (.call (.builtin "set.__new__") ⟨[.type "set", x], []⟩) (wants Q E) s := by
 refine codeAny_of_tree ?_
 have made : codeAny (model prog w) A (.builtin "set.__new__" ⟨[.type "set", x], []⟩) (wants Q E) s := by
  refine codeAny_builtin PySem.F.entry_set_new ?_
  have self := sub_set_self
  wp_walk
  refine wpAny_askSetting (wpAny_pure ?_)
  exact wpAny_bind (wpAny_alloc (wpAny_pure (wpAny_pure q)))
 exact wpAny_bind (wpAny_of_eq (PySem.F.newCall_set_1 x) (wpAny_pure ⟨plainId_quiet PySem.F.plain_set_new _, made⟩))
theorem uz {a l : Addr} {xs : Array Value} {Q : Value → Shared → Prop} (ha : s.heap.get? a = some (mh (bR w))) (hl : s.heap.IsList l xs)
 (q : codeAny (model prog w) A.in1 (.builtin "set.update.loop" ⟨[.ref a, .ref s.heap.objs.size], []⟩) (wants (fun _ z => Q .none z) E) { s with heap := s.heap.push { cls := .type "list_iterator", data := .fields #[.ref l, .int 0 0] } }) :
 codeAny (model prog w) A (.call (.builtin "set.__init__") ⟨[.ref a, .ref l], []⟩) (wants Q E) s := by
 refine codeAny_call_builtin F.called_set.init.plain F.entry_set_init (check_set_init_1 ⟨_, ha, rfl⟩ ?_)
 obtain ⟨o, ho, hc, n, hd⟩ := id hl
 obtain ⟨c, od, dt, sl⟩ := o
 cases hc
 have s1 := F.sub_list_set
 have s2 := F.sub_list_frozenset
 unfold Builtin.«set.__init__» noKeywords Builtin.Frozenset.updateFrom
 generalize hI : pyIter = PI
 wp_walk
 subst hI
 refine wpAny_pyIter_list hl ?_
 refine wpAny_bind (wpAny_runValue ?_)
 refine codeAny_mono q fun r z hr => ?_
 cases r with
 | error e => exact hr
 | ok f =>
  cases f with
  | ret v => exact wpAny_pure (wpAny_pure hr)
  | _ => exact hr
theorem qG {l : Addr} {xs : Array Value} {ns : List Int} {Q : Value → Shared → Prop} (hh : A.handled = none) (hl : s.heap.IsList l xs) (hi : IntsAre xs.toList ns) (hb : xs.size + 1 < scanBound)
 (q : ∀ (h' : Heap) (tk : Nat), eG prog w (bR w) h' s.heap.objs.size (firstMet (fun i => ns.getD i 0) xs.size) → (∀ b o, b < s.heap.objs.size → s.heap.get? b = some o → h'.get? b = some o) → Q (.ref s.heap.objs.size) { s with heap := h', toks := tk }) :
 wpAny (model prog w) A (call (.type "set") [.ref l]) Q E s := by
 obtain ⟨c, tl, m1⟩ := F.called_set.mro
 have m2 := F.called_set.made
 have m3 := F.called_set.sub
 have m4 := F.called_set.notType
 have m5 := F.called_set.canCreate
 have m6 := F.typeCall_set_1 (.ref l)
 refine wpAny_call (codeAny_of_tree ?_)
 change wpAny _ _ (callAny (.type "set") _) _ _ _
 refine wpAny_pure ⟨Code.quiet_builtin _ (by decide +kernel), codeAny_builtin F.entry_type_call ?_⟩
 rw [Around.under_plain (weight_type_call_type "set" [.ref l] []) rfl]
 repeat (any_goals (first | assumption | wp_step))
 refine codeAny_mono (xZ (.ref l) (E := E) (Q := fun v z => v = .ref s.heap.objs.size ∧ z = { s with heap := s.heap.push (mh (bR w)) }) ⟨rfl, rfl⟩) fun r z hr => ?_
 cases r with
 | error e => exact hr
 | ok f =>
  cases f with
  | ret v =>
   obtain ⟨rfl, rfl⟩ := hr
   have g : (s.heap.push (mh (bR w))).get? s.heap.objs.size = some (mh (bR w)) := Heap.get?_push_size _ rfl
   have ty : Shared.TypeIs { s with heap := s.heap.push (mh (bR w)) } (.ref s.heap.objs.size) "set" := ⟨_, g, rfl⟩
   have i1 := F.called_set.init.lookup
   have i2 := F.called_set.init.bind (.ref s.heap.objs.size)
   repeat (any_goals (first | assumption | wp_step))
   refine codeAny_mono (uz (E := E) (Q := fun v z => v = .none ∧ ∃ h' tk, z = { s with heap := h', toks := tk } ∧ eG prog w (bR w) h' s.heap.objs.size (firstMet (fun i => ns.getD i 0) xs.size) ∧ (∀ b o, b < s.heap.objs.size → s.heap.get? b = some o → h'.get? b = some o)) g (hl.push _) ?_) fun r z hr => ?_
   · obtain ⟨o, ho, _⟩ := id hl
     have hlt : l < s.heap.objs.size := Heap.lt_size ho
     have hn : l ≠ (s.heap.push (mh (bR w))).objs.size := by rw [Heap.size_push]; exact Nat.ne_of_lt (Nat.lt_succ_of_lt hlt)
     have hS : s.heap.objs.size ∉ [(s.heap.push (mh (bR w))).objs.size, l] := by
      rw [Heap.size_push]
      intro z
      rcases List.mem_cons.mp z with z | z
      · omega
      · exact absurd (List.mem_singleton.mp z) (Nat.ne_of_gt hlt)
     refine lV (b := bR w) ((Walks.list (by simp [hh]) _ l hn xs).toS) hS (fun i => ns.getD i 0) (fun i v hv => IntsAre.int_at hi i v (by rw [Array.getElem?_toList]; exact hv)) hb xs.size 0 _ (Nat.zero_add _)
      ⟨⟨_, Heap.get?_push_size _ rfl, rfl, rfl⟩, (hl.push _).push _⟩ (eG.fresh (Heap.get?_push_of_some _ g)) fun z hm J => ?_
     obtain ⟨h', g', d', tk', os'⟩ := z
     have e1 : g' = s.gens := hm.gens
     have e2 : d' = s.drawn := hm.drawn
     have e3 : os' = s.os := hm.os
     subst e1 e2 e3
     refine ⟨rfl, h', tk', rfl, J, fun b o hb' e => hm.heap b o (fun z => ?_) (Heap.get?_push_of_some _ (Heap.get?_push_of_some _ e))⟩
     rcases List.mem_cons.mp z with z | z
     · exact absurd z (Nat.ne_of_lt hb')
     · have := List.mem_singleton.mp z
       rw [this, Heap.size_push] at hb'
       omega
   · cases r with
     | error e => exact hr
     | ok f =>
      cases f with
      | ret v =>
       obtain ⟨rfl, h', tk, rfl, J, k⟩ := hr
       repeat (any_goals (first | assumption | wp_step))
       exact q _ _ J k
      | _ => exact hr
  | _ => exact hr
end
theorem br {α : Type} : ∀ {l : List α} {i} {x}, l[i]? = some x → (x :: l.eraseIdx i).Perm l
 | y :: l, 0, x, h => by cases h; exact .refl _
 | y :: l, i + 1, x, h => by
  have := br (l := l) h
  exact (List.Perm.swap y x _).trans (this.cons y)
theorem oH : ∀ (n k : Nat) (l : List α) (out : Array α), l.length = n → (pickOrder.go f n k l out).toList.Perm (out.toList ++ l)
 | 0, k, l, out, h => by
  cases l with
  | nil => rw [List.append_nil]; exact .refl _
  | cons => cases h
 | n + 1, k, l, out, h => by
  unfold pickOrder.go
  have hl : f k % l.length < l.length := Nat.mod_lt _ (by omega)
  rw [List.getElem?_eq_getElem hl]
  refine (oH n _ _ _ (by rw [List.length_eraseIdx, if_pos hl]; omega)).trans ?_
  rw [Array.toList_push, List.append_assoc]
  exact List.Perm.append_left _ (br (List.getElem?_eq_getElem hl))
theorem jN (f : Nat → Nat) (xs : Array α) : (pickOrder f xs).toList.Perm xs.toList := by
 have := oH (f := f) xs.size 0 _ #[] Array.length_toList
 exact this
theorem qJ (f : Nat → Nat) (xs : Array α) : (pickOrder f xs).size = xs.size := by
 have := (jN f xs).length_eq
 omega
def eK (xs : Array Nat) (i : Nat) : Nat := match i with
 | 0 => 0
 | i + 1 => xs.getD i 0 + 1
theorem n9 (hx : vG xs) : ∀ {i}, i ≤ xs.size → SetTable.below xs (eK xs i) = i
 | 0, _ => by
  have c := d9 hx (eK xs 0)
  rcases Nat.eq_zero_or_pos _ with z | z
  · exact z
  · have := c.lo 0 (by have := c.le; omega) z
    exact absurd this (Nat.not_lt_zero _)
 | i + 1, h => by
  have c := d9 hx (eK xs (i + 1))
  have hi : i < xs.size := by omega
  have e : eK xs (i + 1) = xs[i] + 1 := by
   show xs.getD i 0 + 1 = _
   simp_all
  rw [e] at c ⊢
  generalize SetTable.below xs _ = r at c
  rcases Nat.lt_trichotomy r (i + 1) with z | z | z
  · have := c.hi i hi (by omega)
    omega
  · exact z
  · have h1 := c.lo _ (by have := c.le; omega) z
    have h2 := hx i (i + 1) hi (by have := c.le; omega) (Nat.lt_succ_self _)
    omega
section
variable {prog : Program} {w : World} {A : Around} {E : Value → Shared → Prop} {s : Shared} {a : Addr} {o : Obj} {es : Array (Int × Value)} {ep : Nat} {t : SetTable}
theorem gN (q : Q (w.params.followText "set-order") s) : wpAny (model prog w) A setsByText Q E s := wpAny_bind (wpAny_askSetting (wpAny_pure q))
theorem qh {Q} (g : s.heap.get? a = some o) (d : o.data = .set es ep t) (f : t.fits es.size = true) (hw : w.params.followText "set-order" = true)
 (q : Q ((pickOrder (w.params.setOrder a ep) es)[i]?.map fun e => (e.2, sl)) s) : wpAny (model prog w) A (setNext a sl i ep) Q E s := by
 refine wpAny_bind (wpAny_setState_of g d f (wpAny_bind (gN ?_)))
 rw [hw]
 show wpAny _ _ (if (ep != ep) = true then _ else _) _ _ _
 rw [if_neg (by simp)]
 refine wpAny_bind ?_
 refine wpAny_bind (wpAny_setState_of g d f (wpAny_bind (gN ?_)))
 rw [hw]
 exact wpAny_bind (wpAny_askSetting (wpAny_pure (wpAny_pure q)))
theorem nE {Q} (g : s.heap.get? a = some o) (d : o.data = .set es ep t) (f : t.fits es.size = true) (l : gz (bR w) t) (hw : w.params.followText "set-order" = false) (hd : (!t.plain && decide (es.size > 1)) = false) (hi : i ≤ es.size)
 (q : Q (es[i]?.map fun e => (e.2, eK t.place (i + 1))) s) : wpAny (model prog w) A (setNext a (eK t.place i) i e0) Q E s := by
 have hp : t.place.size = es.size := by
  unfold SetTable.fits at f
  simp_all
 have hl : t.led = true := by rw [l.led]; unfold bR; rw [hw]; rfl
 refine wpAny_bind (wpAny_setState_of g d f (wpAny_bind (gN ?_)))
 rw [hw]
 show wpAny _ _ (if (!t.plain && decide _) = true then _ else _) _ _ _
 rw [hd]
 show wpAny _ _ ((if (!t.led && !es.isEmpty) = true then _ else _) >>= _) _ _ _
 rw [hl]
 rw [n9 l.inc (by omega)]
 refine wpAny_pure ?_
 by_cases h : i < es.size
 · have e : eK t.place (i + 1) = t.place[i] + 1 := by
    show t.place.getD i 0 + 1 = _
    simp_all
   simp_all
 simp_all
end
abbrev jL (h : Heap) (it S : Addr) (sl i n ep : Nat) : Prop := h.get? it = some { cls := .type "set_iterator", dict := none, data := .fields #[rawInt sl, rawInt i, .ref S, rawInt n, rawInt ep], slots := #[] }
theorem bp : Slot "set_iterator" "__next__" "set_iterator.__next__" := by
 refine Slot.of (owner := "set_iterator") (n := "__next__") ?_ rfl rfl rfl ?_ ?_
 · rfl
 · first
   | exact Or.inl rfl
 · kernel_rfl
theorem fi : entryFor table "set_iterator.__next__" = some Builtin.«set_iterator.__next__» := entryFor_of_tree rfl
theorem gP (a : Value) : argsOk "set_iterator.__next__" ⟨[a], []⟩ := rfl
section
variable {prog : Program} {w : World} {A : Around} {E : Value → Shared → Prop} {s : Shared} {it S : Addr} {sl i ep : Nat} {o : Obj} {es : Array (Int × Value)} {ep' : Nat} {t : SetTable}
theorem sW {sl'} {Q} (hit : jL s.heap it S sl i es.size ep) (g : s.heap.get? S = some o) (d : o.data = .set es ep' t) (f : t.fits es.size = true)
 (st : ∀ (B : Around) (F : Value → Shared → Prop) (R : Option _ → Shared → Prop), R (some (x, sl')) s → wpAny (model prog w) B (setNext S sl i ep) R F s)
 (q : ∀ h', jL h' it S sl' (i + 1) es.size ep → Heap.SameBut it s.heap h' → Q (some x) { s with heap := h' }) : wpAny (model prog w) A (pyNext (.ref it)) Q E s := by
 have ty : s.TypeIs (.ref it) _ := ⟨_, hit, rfl⟩
 refine wpAny_bind (wpAny_attempt (wpAny_callSpecial?_slot ty bp
  (wpAny_call_entry bp ty fi ?_ (gP _))))
 refine wpAny_bind (wpAny_pure ?_)
 refine wpAny_bind (wpAny_fieldsOf hit rfl ?_)
 refine wpAny_bind (wpAny_setEntries_of g d f ?_)
 rw [if_neg (by simp)]
 refine wpAny_bind (st _ _ _ ?_)
 refine wpAny_bind (wpAny_setField hit rfl (by simp) ?_)
 have h1 := Heap.get?_update_self (Obj.mapFields (·.setIfInBounds 0 (rawInt sl'))) hit rfl
 refine wpAny_bind (wpAny_setField h1 rfl (by simp) ?_)
 exact wpAny_pure ⟨_, rfl, wpAny_pure (q _ (Heap.get?_update_self _ h1 rfl) ((Heap.SameBut.update ..).trans (Heap.SameBut.update ..)))⟩
theorem tH {R : PySem.Fin → Shared → Prop} {F} {z} (hh : B.handled = none) (q : ∀ x y, y.cls = .type "StopIteration" → y.isFreed = false → F (.ref (z.heap.push x).objs.size) { z with heap := (z.heap.push x).push y }) :
 wpAny (model prog w) B (newExc (.type "StopIteration") [] >>= fun e => raiseNew e) R F z := by
 refine wpAny_bind (wpAny_bind (wpAny_newObj_type (wpAny_bind (wpAny_of_eq (a := Value.none) ?fa (wpAny_newObj_type (wpAny_bind (wpAny_handled ?hd)) ?s2))) ?s1))
 case fa => rfl
 case s1 => size_fits
 case s2 => size_fits
 case hd =>
  rw [hh]
  exact wpAny_bind (wpAny_pure (wpAny_throw (q _ _ rfl rfl)))
theorem rX (hit : jL s.heap it S sl i es.size ep) (g : s.heap.get? S = some o) (d : o.data = .set es ep' t) (f : t.fits es.size = true)
 (st : ∀ (B : Around) (F : Value → Shared → Prop) (R : Option _ → Shared → Prop), R none s → wpAny (model prog w) B (setNext S sl i ep) R F s)
 (hh : A.handled = none) (q : ∀ h', Heap.ExtBut it s.heap h' → Q none { s with heap := h' }) : wpAny (model prog w) A (pyNext (.ref it)) Q E s := by
 have ty : s.TypeIs (.ref it) _ := ⟨_, hit, rfl⟩
 refine wpAny_bind (wpAny_attempt (wpAny_callSpecial?_slot ty bp
  (wpAny_call_entry bp ty fi ?_ (gP _))))
 refine wpAny_bind (wpAny_pure ?_)
 refine wpAny_bind (wpAny_fieldsOf hit rfl ?_)
 refine wpAny_bind (wpAny_setEntries_of g d f ?_)
 rw [if_neg (by simp)]
 refine wpAny_bind (st _ _ _ ?_)
 refine wpAny_bind (wpAny_setField hit rfl (by simp) ?_)
 refine tH hh fun x y hy fr => ?_
 refine wpAny_bind (wpAny_isInstance ⟨y, Heap.get?_push_size _ fr, hy⟩ isSubtype_stop (wpAny_pure (q _ ?_)))
 exact ((Heap.SameBut.update _ it _).extBut.push x).push y
end
theorem dW : Slot "set_iterator" "__iter__" "set_iterator.__iter__" := by
 refine Slot.of (owner := "set_iterator") (n := "__iter__") ?_ rfl rfl rfl ?_ ?_
 · rfl
 · first
   | exact Or.inl rfl
 · kernel_rfl
theorem iK : entryFor table "set_iterator.__iter__" = some Builtin.«dict_keyiterator.__iter__» := by
 refine entryFor_alias (id' := "dict_keyiterator.__iter__") ?_ ?_ ?_ ?_
 · kernel_rfl
 · rfl
 · decide +kernel
 · kernel_rfl
theorem jl (a : Value) : argsOk "set_iterator.__iter__" ⟨[a], []⟩ := rfl
section
variable {prog : Program} {w : World} {A : Around} {I S : Addr} {o : Obj} {es : Array (Int × Value)} {ep : Nat} {t : SetTable}
theorem qm {Q} (hit : jL s.heap I S sl i n ep) (q : Q (.ref I) s) : wpAny (model prog w) A (pyIter (.ref I)) Q E s := by
 have ty : s.TypeIs (.ref I) _ := ⟨_, hit, rfl⟩
 refine wpAny_pyIter_slot ty dW (wpAny_call_entry dW ty iK ?_ (jl _))
 exact wpAny_pure ⟨_, rfl, _, _, ty, bp.lookup, q⟩
theorem qg (hne : S ≠ I) (d : o.data = .set es ep t) (f : t.fits es.size = true) (l : gz (bR w) t) (hd : w.params.followText "set-order" = true ∨ (!t.plain && decide (es.size > 1)) = false) :
 ∃ (ord : Array (Int × Value)) (sl : Nat → Nat), ord.toList.Perm es.toList ∧ sl 0 = 0 ∧ ∀ A : Around, A.handled = none → Walks prog w A I [I, S] [I] es.size (fun i v => (ord[i]?).map (·.2) = some v) (fun i h => jL h I S (sl i) i es.size ep ∧ h.get? S = some o) := by
 have gen : ∀ (ord : Array (Int × Value)) (sl : Nat → Nat), ord.size = es.size → (∀ (s : Shared) (i : Nat), i ≤ es.size → s.heap.get? S = some o → ∀ (B : Around) (F : Value → Shared → Prop) (R : Option (Value × Nat) → Shared → Prop), R ((ord[i]?).map fun e => (e.2, sl (i + 1))) s → wpAny (model prog w) B (setNext S (sl i) i ep) R F s) →
  ∀ A : Around, A.handled = none → Walks prog w A I [I, S] [I] es.size (fun i v => (ord[i]?).map (·.2) = some v) (fun i h => jL h I S (sl i) i es.size ep ∧ h.get? S = some o) := by
  intro ord sl hz st A hh
  exact {
   sub := fun b hb => by grind
   frame := fun i h h' z k => ⟨k I (by simp) _ z.1, k S (by simp) _ z.2⟩
   item := fun i s Q E hi z q => by
    refine sW (x := ord[i].2) (sl' := sl (i + 1)) z.1 z.2 d f (fun B F R r => st s i (by omega) z.2 B F R (by simp_all)) fun h' hit' sb => ?_
    exact q _ h' s.toks (by simp_all) ⟨hit', by rw [sb.2 S hne]; exact z.2⟩ fun b o' hb e => sb.extBut b o' (fun c => hb (by simp_all)) e
   done := fun s Q E z q => rX z.1 z.2 d f (fun B F R r => st s es.size (Nat.le_refl _) z.2 B F R (by grind)) hh fun h' he => q h' _ fun b o' hb e => he b o' (fun c => hb (by simp_all)) e
   self := fun i s Q E z q => qm z.1 q }
 cases hw : w.params.followText _ with
 | true =>
  exact ⟨_, fun _ => 0, jN _ _, rfl, gen _ _ (qJ _ _) fun s i hi g B F R r => qh g d f hw r⟩
 | false =>
  rw [hw] at hd
  exact ⟨es, _, .refl _, rfl, gen _ _ rfl fun s i hi g B F R r => nE g d f l hw (hd.resolve_left fun z => by cases z) hi r⟩
end
section
variable {prog : Program} {w : World} {A : Around} {E : Value → Shared → Prop}
theorem tm {n} {s} {Q} (hn : 0 < n) (q : ∀ k, k < n → Q k { s with drawn := s.drawn.bump src }) : wpAny (model prog w) A (choose src n) Q E s := by
 intro Γ p hΓ
 exact ⟨by omega, q _ (Nat.mod_lt _ hn)⟩
theorem sK : ∀ (n : Nat) (xs : List α) (s : Shared) {Q}, xs.length = n → (∀ ys d, ys.Perm xs → Q ys { s with drawn := d }) → wpAny (model prog w) A (drawOrder n xs) Q E s
 | 0, xs, s, Q, h, q => by
  have e := List.eq_nil_of_length_eq_zero h
  subst e
  exact wpAny_pure (q [] _ (.refl _))
 | n + 1, [], s, Q, h, q => by cases h
 | n + 1, x :: xs, s, Q, h, q => by
  refine wpAny_bind (tm (by simp) fun k hk => ?_)
  rw [List.getElem?_eq_getElem hk]
  refine wpAny_bind (sK n _ _ (by rw [List.length_eraseIdx, if_pos hk, h]; rfl) fun ys d p => wpAny_pure (q _ d ?_))
  exact (p.cons _).trans (br (List.getElem?_eq_getElem hk))
end
abbrev pP (h : Heap) (it S T : Addr) (i n ep : Nat) : Prop := h.get? it = some { cls := .type "set_iterator", dict := none, data := .fields #[.ref T, rawInt i, .ref S, rawInt n, rawInt ep], slots := #[] }
section
variable {prog : Program} {w : World} {A : Around} {E : Value → Shared → Prop} {s : Shared} {it S T : Addr} {i ep : Nat} {o u : Obj} {es : Array (Int × Value)} {t : SetTable} {ps : List Nat} {m : Nat}
theorem nn {p} {Q} (hit : pP s.heap it S T i es.size ep) (g : s.heap.get? S = some o) (d : o.data = .set es ep t) (f : t.fits es.size = true)
 (gt : s.heap.get? T = some u) (dt : u.data = .seq (ps.map fun k => rawInt (k : Nat)).toArray m) (hp : ps[i]? = some p) (hx : es[p]? = some x)
 (q : ∀ h', pP h' it S T (i + 1) es.size ep → Heap.SameBut it s.heap h' → Q (some x.2) { s with heap := h' }) : wpAny (model prog w) A (pyNext (.ref it)) Q E s := by
 have ty : s.TypeIs (.ref it) _ := ⟨_, hit, rfl⟩
 refine wpAny_bind (wpAny_attempt (wpAny_callSpecial?_slot ty bp
  (wpAny_call_entry bp ty fi ?_ (gP _))))
 refine wpAny_bind (wpAny_pure ?_)
 refine wpAny_bind (wpAny_fieldsOf hit rfl ?_)
 refine wpAny_bind (wpAny_setEntries_of g d f ?_)
 rw [if_neg (by simp)]
 refine wpAny_bind (wpAny_seqItems gt dt ?_)
 have hk : (ps.map fun k => rawInt (k : Nat)).toArray[Int.toNat i]? = some (rawInt p) := by
  simp_all
 change wpAny _ _ (match (ps.map fun k => rawInt _).toArray[Int.toNat i]? with | some (.int _ _) => _ | some _ => _ | none => _) _ _ _
 rw [hk]
 change wpAny _ _ (setNextDrawn S _ _ >>= _) _ _ _
 rw [Int.toNat_natCast]
 refine wpAny_bind ?_
 refine wpAny_bind (wpAny_setState_of g d f ?_)
 change wpAny _ _ (if (ep != ep) = true then _ else _) _ _ _
 rw [if_neg (by simp)]
 rw [hx]
 refine wpAny_pure ?_
 refine wpAny_bind (wpAny_setField hit rfl (by simp) ?_)
 exact wpAny_pure ⟨_, rfl, wpAny_pure (q _ (Heap.get?_update_self _ hit rfl) (Heap.SameBut.update ..))⟩
theorem qE (hit : pP s.heap it S T i es.size ep) (g : s.heap.get? S = some o) (d : o.data = .set es ep t) (f : t.fits es.size = true)
 (gt : s.heap.get? T = some u) (dt : u.data = .seq (ps.map fun k => rawInt (k : Nat)).toArray m) (hp : ps[i]? = none) (hh : A.handled = none)
 (q : ∀ h', Heap.ExtBut it s.heap h' → Q none { s with heap := h' }) : wpAny (model prog w) A (pyNext (.ref it)) Q E s := by
 have ty : s.TypeIs (.ref it) _ := ⟨_, hit, rfl⟩
 refine wpAny_bind (wpAny_attempt (wpAny_callSpecial?_slot ty bp
  (wpAny_call_entry bp ty fi ?_ (gP _))))
 refine wpAny_bind (wpAny_pure ?_)
 refine wpAny_bind (wpAny_fieldsOf hit rfl ?_)
 refine wpAny_bind (wpAny_setEntries_of g d f ?_)
 rw [if_neg (by simp)]
 refine wpAny_bind (wpAny_seqItems gt dt ?_)
 have hk : (ps.map fun k => rawInt (k : Nat)).toArray[Int.toNat i]? = none := by
  simp_all
 change wpAny _ _ (match (ps.map fun k => rawInt _).toArray[Int.toNat i]? with | some (.int _ _) => _ | some _ => _ | none => _) _ _ _
 rw [hk]
 refine wpAny_bind (wpAny_setField hit rfl (by simp) ?_)
 have h1 := Heap.get?_update_self (Obj.mapFields (·.setIfInBounds 0 (rawInt 0))) hit rfl
 refine wpAny_bind (wpAny_setField h1 rfl (by simp) ?_)
 refine tH hh fun x y hy fr => ?_
 refine wpAny_bind (wpAny_isInstance ⟨y, Heap.get?_push_size _ fr, hy⟩ isSubtype_stop (wpAny_pure (q _ ?_)))
 exact (((Heap.SameBut.update _ it _).trans (Heap.SameBut.update _ it _)).extBut.push x).push y
end
section
variable {prog : Program} {w : World} {A : Around} {I S T : Addr} {o u : Obj} {es : Array (Int × Value)} {ep : Nat} {t : SetTable} {ps : List Nat} {m : Nat}
theorem ya (h : ps.Perm (List.range es.size)) : (ps.map fun k => es.getD k (0, .none)).Perm es.toList := by
 refine (h.map _).trans ?_
 have e : (List.range es.size).map (fun k => es.getD k (0, Value.none)) = es.toList := by
  apply List.ext_getElem
  · simp
  simp_all
 rw [e]
theorem ml (hS : S ≠ I) (hT : T ≠ I) (d : o.data = .set es ep t) (f : t.fits es.size = true) (dt : u.data = .seq (ps.map fun k => rawInt (k : Nat)).toArray m) (hp : ps.Perm (List.range es.size)) :
 ∃ ord : Array (Int × Value), ord.toList.Perm es.toList ∧ ∀ A : Around, A.handled = none → Walks prog w A I [I, S, T] [I] es.size (fun i v => (ord[i]?).map (·.2) = some v) (fun i h => pP h I S T i es.size ep ∧ h.get? S = some o ∧ h.get? T = some u) := by
 have hl : ps.length = es.size := by rw [hp.length_eq, List.length_range]
 refine ⟨(ps.map fun k => es.getD k (0, .none)).toArray, ya hp, fun A hh => ?_⟩
 exact {
  sub := fun b hb => by simp_all
  frame := fun i h h' z k => ⟨k I (by simp) _ z.1, k S (by simp) _ z.2.1, k T (by simp) _ z.2.2⟩
  item := fun i s Q E hi z q => by
   have hlt : i < ps.length := by omega
   have hm : ps[i] < es.size := List.mem_range.mp (hp.mem_iff.mp (List.getElem_mem hlt))
   refine nn z.1 z.2.1 d f z.2.2 dt (List.getElem?_eq_getElem hlt) (Array.getElem?_eq_getElem hm) fun h' hit' sb => ?_
   refine q _ h' _ ?_ ⟨hit', by rw [sb.2 S hS]; exact z.2.1, by rw [sb.2 T hT]; exact z.2.2⟩ fun b o' hb e => sb.extBut b o' (fun c => hb (by simp_all)) e
   simp_all
  done := fun s Q E z q => qE z.1 z.2.1 d f z.2.2 dt (List.getElem?_eq_none (by omega)) hh fun h' he => q h' _ fun b o' hb e => he b o' (fun c => hb (by simp_all)) e
  self := fun i s Q E z q => by
   have ty : s.TypeIs (.ref I) _ := ⟨_, z.1, rfl⟩
   refine wpAny_pyIter_slot ty dW (wpAny_call_entry dW ty iK ?_ (jl _))
   exact wpAny_pure ⟨_, rfl, _, _, ty, bp.lookup, q⟩ }
theorem iI : entryFor table "set.__iter__" = some Builtin.«frozenset.__iter__» := by
 refine entryFor_alias (id' := "frozenset.__iter__") ?_ ?_ ?_ ?_
 · kernel_rfl
 · rfl
 · decide +kernel
 · kernel_rfl
variable {E : Value → Shared → Prop} {s : Shared}
def Eh (prog : Program) (w : World) (s : Shared) (S : Addr) (es : Array (Int × Value)) (Q : Value → Shared → Prop) : Prop :=
 ∀ (I : Addr) (h' : Heap) (dr : Drawn) (fp : List Addr) (ord : Array (Int × Value)) (St : Nat → Heap → Prop), ord.toList.Perm es.toList → (∀ A : Around, A.handled = none → Walks prog w A I fp [I] es.size (fun i v => (ord[i]?).map (·.2) = some v) St) → St 0 h' →
  (∀ b ∈ fp, b = S ∨ s.heap.objs.size ≤ b) → s.heap.objs.size ≤ I → (∀ b o, s.heap.get? b = some o → h'.get? b = some o) → Q (.ref I) { s with heap := h', drawn := dr }
theorem ud {Q : Value → Shared → Prop} (g : s.heap.get? S = some o) (ox : o.ExactSet) (d : o.data = .set es ep t) (f : t.fits es.size = true) (l : gz (bR w) t) (hz : es.size < scanBound) (q : Eh prog w s S es Q) : wpAny (model prog w) A (pyIter (.ref S)) Q E s := by
 have ty : s.TypeIs (.ref S) "set" := ⟨_, g, ox.1⟩
 have lt : S < s.heap.objs.size := Heap.lt_size g
 refine wpAny_pyIter_slot ty PySem.F.slot_set_iter (wpAny_call_entry PySem.F.slot_set_iter ty iI ?_ (PySem.F.args_set_iter_1 _))
 refine wpAny_bind (m := Builtin.Frozenset.slot0 _ _) (wpAny_pure ?_)
 refine wpAny_bind (wpAny_bind (wpAny_setEntries_of g d f (wpAny_pure ?_)))
 refine wpAny_bind ?_
 refine wpAny_bind (wpAny_setState_of g d f (wpAny_bind (gN (wpAny_pure ?_))))
 change wpAny _ _ (if (!w.params.followText "set-order" && (!t.plain && decide (es.size > 1))) = true then _ else _) _ _ _
 have keep : ∀ (x : Obj) (h : Heap), (∀ b o', s.heap.get? b = some o' → h.get? b = some o') → ∀ b o', s.heap.get? b = some o' → (h.push x).get? b = some o' := fun x h k b o' e => Heap.get?_push_of_some _ (k b o' e)
 by_cases hd : (!w.params.followText "set-order" && (!t.plain && decide (es.size > 1))) = true
 · rw [if_pos hd]
   refine wpAny_bind (sK es.size _ s List.length_range fun ps dr hp => ?_)
   refine wpAny_bind (wpAny_newTuple ?_ (by rw [List.length_map, hp.length_eq, List.length_range]; exact fits_of_scanBound hz))
   have g1 := Heap.get?_push_of_some { cls := .type "tuple", data := .seq (ps.map fun k => rawInt (k : Nat)).toArray } g
   refine wpAny_bind (wpAny_setEpoch_of (s := { s with heap := s.heap.push { cls := .type "tuple", data := .seq (ps.map fun k => rawInt (k : Nat)).toArray }, drawn := dr }) g1 d f ?_)
   refine wpAny_bind (wpAny_newObj_type (wpAny_pure ⟨_, rfl, "set_iterator", _, ⟨_, Heap.get?_push_size _ rfl, rfl⟩, bp.lookup, ?_⟩) (by size_fits))
   obtain ⟨ord, po, W⟩ := ml (prog := prog) (w := w) (I := (s.heap.push { cls := .type "tuple", data := .seq (ps.map fun k => rawInt (k : Nat)).toArray }).objs.size) (S := S) (T := s.heap.objs.size)
    (u := { cls := .type "tuple", data := .seq (ps.map fun k => rawInt (k : Nat)).toArray }) (by rw [Heap.size_push]; exact Nat.ne_of_lt (Nat.lt_succ_of_lt lt)) (by simp) d f rfl hp
   refine q _ _ dr _ ord _ po W ⟨Heap.get?_push_size _ rfl, Heap.get?_push_of_some _ g1, Heap.get?_push_of_some _ (Heap.get?_push_size _ rfl)⟩ (fun b hb => ?_) (by simp) (keep _ _ fun b o' e => Heap.get?_push_of_some _ e)
   rcases List.mem_cons.mp hb with z | z
   · simp_all
   · rcases List.mem_cons.mp z with z | z
     · exact .inl z
     simp_all
 · rw [if_neg hd]
   refine wpAny_bind (wpAny_pure (wpAny_bind (wpAny_setEpoch_of g d f ?_)))
   refine wpAny_bind (wpAny_newObj_type (wpAny_pure ⟨_, rfl, "set_iterator", _, ⟨_, Heap.get?_push_size _ rfl, rfl⟩, bp.lookup, ?_⟩) (by size_fits))
   obtain ⟨ord, sl, po, e0, W⟩ := qg (prog := prog) (Nat.ne_of_lt lt) d f l (by
    cases hw : w.params.followText _ with
    | true => exact .inl rfl
    | false =>
     rw [hw] at hd
     exact .inr (Bool.eq_false_iff.mpr hd))
   refine q _ _ _ _ _ _ po W ⟨by rw [e0]; exact Heap.get?_push_size _ rfl, Heap.get?_push_of_some _ g⟩ (fun b hb => ?_) (Nat.le_refl _) fun b o' e => Heap.get?_push_of_some _ e
   rcases List.mem_cons.mp hb with z | z
   · simp_all
   simp_all
end
end L2
end
section
namespace L2
section
variable {prog : Program} {w : World} {A : Around} {E : Value → Shared → Prop} {s : Shared} {S : Addr} {o : Obj} {es : Array (Int × Value)} {ep : Nat} {t : SetTable}
theorem Du {m n : Sem α} {Q} (h : c = true) (q : wpAny (model prog w) A m Q E s) : wpAny (model prog w) A (if c = true then m else n) Q E s := by simp_all
theorem kS : typeLookup (.type "set") "__len__" = pure (some (.builtin "set.__len__")) := rfl
theorem uh (ty : s.TypeIs (.ref S) "set") (q : Q false s) : wpAny (model prog w) A (Builtin.List.listLengthHint (.ref S)) Q E s := by
 refine wpAny_bind (wpAny_specialOf ty kS ?_)
 generalize hid : "set.__len__" = id0
 subst hid
 refine wpAny_bind (wpAny_isInstance ty (rfl) ?_)
 exact wpAny_bind (wpAny_typeOf ty (wpAny_pure q))
theorem v9 {L : Addr} {z : Shared} {Q : Unit → Shared → Prop} (g : z.heap.get? L = some { cls := .type "list", data := .seq ([] : List Value).toArray })
 (q : ∀ h' c, Heap.SameBut L z.heap h' → h'.get? L = some { cls := .type "list", dict := none, data := .seq #[] c, slots := #[] } → Q () { z with heap := h' }) : wpAny (model prog w) A (Builtin.List.listTouch (.ref L)) Q E z := by
 unfold Builtin.List.listTouch
 have g1 := Heap.get?_update_self (Obj.mapSeq (·.push Value.none)) g rfl
 refine wpAny_bind (m := updateSeq L (·.push Value.none)) (wpAny_updateSeq g rfl ?_)
 refine wpAny_updateSeq (s := { z with heap := z.heap.update L (Obj.mapSeq (·.push Value.none)) }) g1 rfl ?_
 exact q _ _ ((Heap.SameBut.update ..).trans (Heap.SameBut.update ..)) (Heap.get?_update_self _ g1 rfl)
theorem lL {Q : List Value → Shared → Prop} (hh : A.handled = none) (g : s.heap.get? S = some o) (ox : o.ExactSet) (d : o.data = .set es ep t) (f : t.fits es.size = true) (l : gz (bR w) t) (hz : es.size < scanBound)
 (q : ∀ (s' : Shared) (acc : Array Value) (ord : Array (Int × Value)), ord.toList.Perm es.toList → ItemsOf (fun i v => (ord[i]?).map (·.2) = some v) acc es.size → (∀ b o', s.heap.get? b = some o' → s'.heap.get? b = some o') → s'.gens = s.gens → s'.os = s.os → s.toks ≤ s'.toks → Q acc.toList s') :
 wpAny (model prog w) A (collect (.ref S)) Q E s := by
 have lt : S < s.heap.objs.size := Heap.lt_size g
 refine wpAny_bind (wpAny_runValue (codeAny_builtin PySem.F.entry_proto_collect (by
  refine wpAny_bind (wpAny_newObj_type (wpAny_pure ⟨plainId_quiet PySem.F.plain_list_iadd _, codeAny_builtin PySem.F.entry_list_iadd ?_⟩))
  have g1 := Heap.get?_push_of_some { cls := .type "list", data := .seq ([] : List Value).toArray } g
  have ty : Shared.TypeIs { s with heap := s.heap.push { cls := .type "list", data := .seq ([] : List Value).toArray } } (.ref S) "set" := ⟨_, g1, ox.1⟩
  change wpAny _ A.in1 (Builtin.List.listExtendWith (.ref s.heap.objs.size) (.ref S) (.ref s.heap.objs.size)) _ _ _
  have ne : Builtin.List.listSameRef (.ref s.heap.objs.size) (.ref S) = false := by
   have : s.heap.objs.size ≠ S := Nat.ne_of_gt lt
   simp [Builtin.List.listSameRef, this]
  refine wpAny_bind (wpAny_typeOf ty ?_)
  rw [if_neg (by rw [ne]; decide)]
  refine wpAny_bind (ud (s := { s with heap := s.heap.push { cls := .type "list", data := .seq ([] : List Value).toArray } }) g1 ox d f l hz fun I h' dr fp ord St po W st hfp hI k => ?_)
  refine wpAny_bind (wpAny_holding (uh ⟨_, k _ _ g1, ox.1⟩ ?_))
  refine Du (by decide +kernel) (wpAny_bind (wpAny_rule (wpAny_bind ?_)))
  have gL := k _ _ (Heap.get?_push_size s.heap (o := { cls := .type "list", data := .seq ([] : List Value).toArray }) rfl)
  refine v9 (z := { s with heap := h', drawn := dr }) gL fun h2 c sb g2 => ?_
  have hL : s.heap.objs.size ∉ fp := fun z => by
   rcases hfp _ z with e | e
   · simp_all
   · rw [Heap.size_push] at e; grind
  have W1 := (W A.in1 hh).toS
  have st2 := W1.frame 0 { s with heap := h', drawn := dr } h2 s.toks st (Nat.le_refl _) fun b hb o' e => by
   rw [sb.2 b (fun z => hL (z ▸ hb))]; exact e
  refine wpAny_pure ⟨plainId_quiet PySem.F.plain_extend_loop _, codeAny_extend_loopS W1 (fits_of_scanBound hz) s.heap.objs.size hL _ es.size 0 _ _ c (Nat.sub_zero _) (Nat.zero_le _) st2 g2 (ItemsOf.nil _) fun s' acc c' hm hS' hacc => ?_⟩
  refine wpAny_bind (m := load s.heap.objs.size) (wpAny_load hS' (wpAny_pure (q s' acc ord po hacc (fun b o' e => ?_) hm.gens hm.os hm.toks)))
  have hb := Nat.ne_of_lt (Heap.lt_size e)
  have hbI : b ≠ I := fun z => by
   have := Heap.lt_size e
   rw [Heap.size_push] at hI
   rw [z] at this
   exact absurd (Nat.lt_of_lt_of_le this (Nat.le_of_succ_le hI)) (Nat.lt_irrefl _)
  refine hm.heap b o' (fun z => ?_) ?_
  · grind
  · rw [sb.2 b hb]
    exact k b o' (Heap.get?_push_of_some _ e))))
end
section
variable {prog : Program} {w : World} {A : Around} {E : Value → Shared → Prop} {s : Shared} {S : Addr}
theorem k0 {es ord : Array _} {l : List _} {acc} (po : ord.toList.Perm es.toList) (pe : es.toList.Perm (l.map (xN prog w))) (ha : ItemsOf (fun i v => ord[i]?.map (·.2) = some v) acc es.size) :
 ∃ ns, IntsAre acc.toList ns ∧ ns.Perm (l.map (·.1)) := by
 have hz := by have := po.length_eq; omega
 have e : acc.toList = ord.toList.map (·.2) := by
  apply List.ext_getElem?
  intro i
  by_cases h : i < acc.size
  · have h1 := ha.2 i _ (Array.getElem?_eq_getElem h)
    rw [List.getElem?_map, Array.getElem?_toList, Array.getElem?_toList, h1, Array.getElem?_eq_getElem h]
  · have := ha.1
    grind
 have p := (po.trans pe).map (·.2)
 rw [← e] at p
 clear e ha po pe hz
 have key : ∀ (us vs : List _), vs.Perm us → ∀ ns, IntsAre us ns → ∃ ms, IntsAre vs ms ∧ ms.Perm ns := by
  intro us vs h
  induction h with
  | nil => intro ns z; exact ⟨ns, z, .refl _⟩
  | cons x _ ih =>
   intro ns z
   cases z with
   | cons n t hr =>
    obtain ⟨ms, h1, h2⟩ := ih _ hr
    exact ⟨_, .cons n t h1, h2.cons n⟩
  | swap x y r =>
   intro ns z
   cases z with
   | cons n t hr =>
    cases hr with
    | cons n' t' hr' => exact ⟨_, .cons n' t' (.cons n t hr'), .swap _ _ _⟩
  | trans _ _ ih1 ih2 =>
   intro ns z
   obtain ⟨ms, h1, h2⟩ := ih2 _ z
   obtain ⟨ms', h3, h4⟩ := ih1 _ h1
   exact ⟨ms', h3, h4.trans h2⟩
 refine key _ _ p _ ?_
 clear p key
 induction l with
 | nil => exact .nil
 | cons y r ih => exact .cons _ _ ih
theorem nL {ks : List Int} {Q : Value → Shared → Prop} (hh : A.handled = none) (J : eG prog w (bR w) s.heap S ks) (h64 : ks.length < 64)
 (q : ∀ (z : Shared) (vs : List Value) (out : Array Value) (ns : List Int), vs.length = ks.length → IntsAre out.toList ns → ns.Perm ks → ns.Pairwise (· ≤ ·) → (∀ b o, s.heap.get? b = some o → z.heap.get? b = some o) → z.gens = s.gens → z.os = s.os → s.toks ≤ z.toks →
  Q (.ref z.heap.objs.size) { z with heap := sortedHeap (z.heap.push (seqObj "list" vs.toArray 0)) z.heap.objs.size vs out }) :
 wpAny (model prog w) A (call (.builtin "sorted") [.ref S]) Q E s := by
 obtain ⟨es, l, ⟨o, ep, t, g, ox, d, f, ld⟩, pe, ek⟩ := J.ex
 have hz : es.size = ks.length := by rw [← ek, List.length_map, ← Array.length_toList, pe.length_eq, List.length_map]
 have hb : es.size < scanBound := by unfold scanBound; omega
 refine Calls.call_function_entry kind_sorted plain_sorted entry_sorted (args_sorted1 _) ?_
 refine wpAny_bind (wpAny_pure (wpAny_bind (lL (hh) g ox d f ld hb fun z acc ord po ha kp e1 e2 e3 => ?_)))
 obtain ⟨ns, hi, hp⟩ := k0 po pe ha
 have hv : acc.toList.length = ks.length := by rw [Array.length_toList, ha.1, hz]
 refine wpAny_bind (wpAny_newList ?_ (by rw [hv]; exact Nat.le_trans (Nat.le_of_lt h64) (by decide)))
 have gL : (z.heap.push (seqObj "list" acc.toList.toArray 0)).get? _ = some _ := Heap.get?_push_size _ rfl
 refine wpAny_bind (wpAny_holding (wpAny_call_entry slot_list_sort ⟨_, gL, rfl⟩ entry_list_sort (list_sort_tree gL hi (by rw [hv]; exact h64) fun out ns' a1 a2 a3 => ⟨_, rfl, ?_⟩) (args_list_sort _)))
 exact wpAny_pure ⟨_, rfl, q z _ _ _ hv a1 (a2.trans (by rw [← ek]; exact hp)) a3 kp e1 e2 e3⟩
end
theorem vQ (f : Nat → Int) (n : Nat) (k : Int) : k ∈ firstMet f n ↔ k ∈ (List.range n).map f := by
 have h := firstMet_any f n k
 constructor
 · intro q
   have : (firstMet f n).any fun x => x == k = true := List.any_eq_true.mpr ⟨k, q, beq_self_eq_true k⟩
   simp_all
 · intro q
   have : ((List.range n).map f).any fun x => x == k = true := List.any_eq_true.mpr ⟨k, q, beq_self_eq_true k⟩
   simp_all
theorem fV (f : Nat → Int) : ∀ n, (firstMet f n).Nodup
 | 0 => .nil
 | n + 1 => by
  rw [firstMet_succ]
  unfold step_dedup
  split
  · exact fV f n
  · next h =>
    refine List.nodup_append.mpr ⟨fV f n, List.pairwise_singleton _ _, fun a ha b hb e => h ?_⟩
    grind
theorem nC (ns : List Int) : (List.range ns.length).map (fun i => ns.getD i 0) = ns := by
 refine List.ext_getElem? fun i => ?_
 rw [List.getElem?_map]
 by_cases h : i < ns.length
 · simp_all
 grind
theorem iL : ∀ {a b : List Int}, a.Pairwise (· < ·) → b.Pairwise (· < ·) → (∀ x, x ∈ a ↔ x ∈ b) → a = b := by
 intro a b ha hb h
 refine iT ((List.perm_ext_iff_of_nodup (ha.imp fun h => Int.ne_of_lt h) (hb.imp fun h => Int.ne_of_lt h)).mpr h) (ha.imp fun h => Int.le_of_lt h) (hb.imp fun h => Int.le_of_lt h)
section
variable {X : Cx} {x : Expr} {te : TE}
theorem Inv.laidD {σ : St} {H} {s} {a : Addr} {o} {z} (I : Inv X pins σ H s) (eg : z.gens = s.gens) (eo : z.os = s.os) (k : ∀ b u, s.heap.get? b = some u → z.heap.get? b = some u) (hp : s.heap.objs.size ≤ a) (new : bv X.prog X.w (bq H a o) z.heap a o) : Inv X pins σ (bq H a o) z := by
 have hn := I.hok.fresh hp
 refine I.call' (ch := []) ⟨eo, by simp_all⟩ (Un.laid k hp hn) (I.hok.laid k hp new) (by rw [eg]; exact I.bare) fun b z => nomatch z
def sQ (K : PySem.W.Frag) (te : TE) : TE := fun σ H Q => te σ H fun v H1 => ∃ (l : Addr) (ns out : List Int), v = .ref l ∧ cO K H1 l (ns.map V.int) ∧ ns.length < 63 ∧ out.Pairwise (· < ·) ∧ (∀ y, y ∈ out ↔ y ∈ ns) ∧ ∀ p, H1 p = none → Q (.ref p) (bq H1 p (.lst (out.map V.int)))
theorem nj {p1 p2 q1 q2 : Pos} (hr : X.A.handled = none) (hg1 : Gl X "sorted") (hg2 : Gl X "set") (hm1 : X.mg "sorted" = none) (hm2 : X.mg "set" = none) (he : PE X x te) (hx : starEach [x] X.env = [(false, eval x X.env)]) :
 PE X (.Call (.Name "sorted" p1) [.Call (.Name "set" p2) [x] [] q2] [] q1) (sQ X.K te) := by
 intro pins s σ H Q I h
 refine wpAny_Call_Name_kw (bX I hg1 hm1 boot_sorted ?_)
 refine PyProof.Rows.callWith_builtin1 ?_ rfl rfl
 refine Calls.spliced_cons ?_
 refine wpAny_Call_Name_kw (bX I hg2 hm2 (show bootBuiltins (Str.ofString "set") = some (.type "set") by decide +kernel) ?_)
 refine PyProof.Rows.callWith_type1 ?_ hx rfl
 rw [hx]
 refine Calls.spliced_cons (aU (he pins s σ H _ I h) fun v s1 h1 => Calls.spliced_nil ?_)
 obtain ⟨y, H1, I1, r1, l, ns, out, rfl, hS, hz, ho, hm, q⟩ := h1
 cases r1
 obtain ⟨its, r, pl, _⟩ := I1.list hS
 have hi := intsAre_of r
 have hl : its.length = ns.length := by have := r.length; simp_all
 refine qG hr pl.isList hi (by rw [List.size_toArray, hl]; unfold scanBound; omega) fun h' tk J k => Calls.spliced_nil ?_
 have hN : its.toArray.size = ns.length := by omega
 rw [hN] at J
 have hle := firstMet_length_le (fun i => ns.getD i 0) ns.length
 refine nL hr J (by omega) fun z vs ou ns' a0 a1 a2 a3 kp e1 e2 e3 => ?_
 have k1 := fun b o e => kp b o (k b o (Heap.lt_size e) e)
 have mm : ∀ y, y ∈ ns' ↔ y ∈ ns := fun y => by rw [a2.mem_iff, vQ, nC]
 have nd := a2.nodup_iff.mpr (fV _ _)
 have st : ns'.Pairwise (· < ·) := List.Pairwise.imp₂ fun a b h1 h2 => by omega a3 nd
 have en := iL st ho fun y => by rw [mm, hm]
 subst en
 obtain ⟨e, he⟩ := sortedHeap_at (Heap.get?_push_size _ rfl)
 have k2 : ∀ b o, s1.heap.get? b = some o → (sortedHeap (z.heap.push (seqObj "list" vs.toArray 0)) _ vs ou).get? b = some o := fun b o q => by
  have q := k1 b o q
  rw [sortedHeap_old (Nat.ne_of_lt (Heap.lt_size q)) (by rw [Heap.size_push]; exact Nat.lt_succ_of_lt (Heap.lt_size q))]
  exact Heap.get?_push_of_some _ q
 have hsz : s1.heap.objs.size ≤ z.heap.objs.size := by
  obtain ⟨es, l', ⟨o, ep, t, g, _⟩, _⟩ := J.ex
  exact Nat.le_of_lt (Heap.lt_size (kp _ _ g))
 have hf := I1.hok.fresh hsz
 refine ⟨.ref _, _, I1.laidD e1 e2 k2 hsz ?_, rfl, q _ hf⟩
 refine ⟨?_, _, e, gd a1, ?_⟩
 · rw [List.length_map, a2.length_eq]
   exact Nat.le_trans (Nat.le_trans hle (Nat.le_of_lt hz)) (by decide)
 omega
end
end L2
end
section
namespace L2
open PySem PySem.W PyProof.Rows
section
variable {key : Nat → Int} {N : Nat} {p : Array Nat}
def kk (key : Nat → Int) (p : Array Nat) (i : Nat) : Int := key (p.getD i 0)
end
end L2
end
section
namespace L2
open PySem PySem.W PyProof.Rows
def GC : Int := 2 ^ 64
end L2
end
section
namespace L2
open PySem PySem.W PyProof.Rows
end L2
end
section
namespace L2
open PySem PySem.W PyProof.Rows
def KG (a b : Str) : Bool := !decide (b.cps.toList < a.cps.toList)
def EU (x : Str) : List Str → List Str
 | [] => [x]
 | y :: r => if KG x y then x :: y :: r else y :: EU x r
def zo : List Str → List Str
 | [] => []
 | x :: r => EU x (zo r)
end L2
end
section
namespace L2
section
variable {prog : Program} {w : World} {A : Around} {E : Value → Shared → Prop} {s : Shared} {r : Addr} {hi : Int} {t u v : Tok}
def uI (n : Nat) (acc : Array Value) : Prop := ItemsOf (fun (i : Nat) v => ∃ t, v = Value.int (0 + (i : Int) * 1) t) acc n
theorem lM {Q : List Value → Shared → Prop} {n : Nat} (hh : A.handled = none) (hr : IsRange s.heap r 0 n 1 t u v) (hn : n ≤ 1000)
 (hQ : ∀ (h' : Heap) (tk : Nat) (acc : Array Value), (∀ b o, s.heap.get? b = some o → h'.get? b = some o) → uI n acc → Q acc.toList { s with heap := h', toks := tk }) : wpAny (model prog w) A (collect (.ref r)) Q E s := by
 have hsm : Builtin.Range.small 0 (n : Int) 1 = true := small_one (by decide) (by decide) (by omega) (by omega)
 have hsz : Builtin.Range.rangeSize 0 (n : Int) 1 = n := by rw [rangeSize_one]; split <;> omega
 refine wpAny_bind (wpAny_runValue (codeAny_builtin F.entry_proto_collect (by
  refine wpAny_bind (m := newList []) (wpAny_newObj_type (wpAny_pure ⟨plainId_quiet F.plain_list_iadd _, codeAny_builtin F.entry_list_iadd ?_⟩))
  refine wpAny_mono (wpAny_extend_range (a := 0) (c := 1) (R := fun x s' => ∃ h' tk acc k, x = .ok (.ret (.ref s.heap.objs.size)) ∧ s' = { s with heap := h', toks := tk } ∧ (∀ b o, s.heap.get? b = some o → h'.get? b = some o) ∧ h'.get? s.heap.objs.size = some { cls := .type "list", data := .seq acc k } ∧ uI n acc)
   hh (Heap.get?_push_of_some _ hr) hsm hsz (by omega) _ _ _ (Heap.get?_push_size _ rfl) fun h' tk acc k hk hS ha => ⟨h', tk, acc, k, rfl, rfl, fun b o e => hk b o (Nat.ne_of_lt (Heap.lt_size e)) (Heap.get?_push_of_some _ e), hS, ha⟩) (fun da s' h => ?_) fun e s' h => ?_
  · have go : ∀ {x : Result} {s'}, (∃ h' tk acc k, x = .ok (.ret (.ref s.heap.objs.size)) ∧ s' = { s with heap := h', toks := tk } ∧ (∀ b o, s.heap.get? b = some o → h'.get? b = some o) ∧ h'.get? s.heap.objs.size = some { cls := .type "list", data := .seq acc k } ∧ uI n acc) → x = .ok _ ∧ wpAny (model prog w) A (do
     match (← load _).data with
      | Data.seq xs _ => pure xs.toList
      | _ => unsupported "internal:collect") Q E s' := fun ⟨h', tk, acc, k, e, es, hk, hS, ha⟩ => by
     subst e es
     exact ⟨rfl, wpAny_bind (wpAny_load hS (wpAny_pure (hQ h' tk _ hk ha)))⟩
    cases da with
    | done f =>
     obtain ⟨e, q⟩ := go h
     cases e
     exact q
    | again c => exact ⟨h.1, codeAny_mono h.2 fun x s'' hx => by obtain ⟨rfl, q⟩ := go hx; exact q⟩
  simp_all)))
theorem qR {Q : Value → Shared → Prop} {n : Nat} (hh : A.handled = none) (hr : IsRange s.heap r 0 n 1 t u v) (hn : n ≤ 1000)
 (hQ : ∀ (h' : Heap) (tk : Nat) (acc : Array Value), (∀ b o, s.heap.get? b = some o → h'.get? b = some o) → uI n acc → Q (.ref h'.objs.size) { s with heap := h'.push { cls := .type "tuple", data := .seq acc }, toks := tk }) : wpAny (model prog w) A (call (.type "tuple") [.ref r]) Q E s := by
 refine callType_codes (Q₁ := fun obj s₁ => s₁.TypeIs obj "tuple" ∧ Q obj s₁) F.called_tuple (F.typeCall_tuple_1 _) F.entry_object_init
  (codeAny_of_tree ?_) fun obj s₁ h₁ => ⟨h₁.1, F.args_object_init_2 obj _, object_init_meets F.called_tuple.init.lookup F.called_tuple.made (by decide) prog w A.in1 _ s₁ ⟨h₁.1, rfl, h₁.2⟩⟩
 refine wpAny_bind (wpAny_of_eq (F.newCall_tuple_1 _) (wpAny_pure ⟨plainId_quiet F.plain_tuple_new _, codeAny_builtin F.entry_tuple_new ?_⟩))
 rw [Around.under_plainId F.plain_tuple_new _]
 have hsub := sub_tuple_self
 have hinit := init_tuple_lookup
 have hmh := madeHere_tuple
 have hTI : s.TypeIs (.ref r) "range" := ⟨_, hr, rfl⟩
 have hcl := fun (Q : List Value → Shared → Prop) (E' : Value → Shared → Prop) => lM (A := A.in1.in1) (prog := prog) (w := w) (Q := Q) (E := E') hh hr hn
 wp_walk using wpAny_typeOf hTI, hcl
 intro h' tk acc hk ha
 refine wpAny_bind (m := Builtin.Tuple.tupleExact _) (wpAny_newObj_type ?_ (by show acc.toList.toArray.size ≤ sizeLine; simp only [Array.toArray_toList]; rw [ha.1, sizeLine_eq]; omega))
 refine wpAny_pure ⟨⟨_, Heap.get?_push_size _ rfl, rfl⟩, ?_⟩
 exact hQ h' tk acc hk ha
end
section
variable {X : Cx} {x : Expr} {te : TE}
def Gk (te : TE) : TE := fun σ H Q => te σ H fun v H1 => ∃ n : Nat, v = .int n ∧ n ≤ 1000 ∧ ∀ p, H1 p = none → Q (.ref p) (bq H1 p (.tup ((List.range n).map fun (i : Nat) => V.int i)))
theorem tq : ∀ n l, l.length = n → (∀ (j : Nat) v, l[j]? = some v → ∃ t, v = Value.int (0 + j * 1) t) → al ((List.range n).map fun (i : Nat) => V.int i) l
 | 0, l, h, _ => by rw [List.length_eq_zero_iff.mp h]; exact .nil
 | n + 1, l, h, k => by
  have hne : l ≠ [] := fun e => by rw [e] at h; cases h
  have hl : l.dropLast.length = n := by grind
  rw [← List.dropLast_concat_getLast hne, List.range_succ, List.map_append]
  refine (tq n _ hl fun j v e => k j v ?_).append (.cons ?_ .nil)
  · rw [← List.dropLast_concat_getLast hne]
    exact (List.getElem?_append_left (List.getElem?_eq_some_iff.mp e).1).trans e
  · obtain ⟨t, e⟩ := k n (l.getLast _) (by grind)
    exact ⟨t, by rw [e]; congr 1; omega⟩
theorem rH (h : uI n acc) : al ((List.range n).map fun (i : Nat) => V.int i) acc.toList :=
 tq n _ h.1 fun j v e => h.2 j v (by simp_all)
theorem wg {p1 p2 q1 q2} (hr : X.A.handled = none) (hg1 : Gl X "tuple") (hg2 : Gl X "range") (hm1 : X.mg "tuple" = none) (hm2 : X.mg "range" = none) (he : PE X x te) (hx : starEach [x] X.env = [(false, eval x X.env)]) :
 PE X (.Call (.Name "tuple" p1) [.Call (.Name "range" p2) [x] [] q2] [] q1) (Gk te) := by
 intro pins s σ H Q I h
 refine wpAny_Call_Name_kw (bX I hg1 hm1 boot_tuple ?_)
 refine PyProof.Rows.callWith_type1 ?_ rfl rfl
 refine Calls.spliced_cons ?_
 refine wpAny_Call_Name_kw (bX I hg2 hm2 boot_range ?_)
 refine PyProof.Rows.callWith_type1 ?_ hx rfl
 rw [hx]
 refine Calls.spliced_cons (aU (he _ s σ H _ I h) fun v s1 h1 => Calls.spliced_nil ?_)
 obtain ⟨y, H1, I1, r1, n, rfl, hn, q⟩ := h1
 obtain ⟨tk, rfl⟩ := r1
 refine call_range_1 ?_
 refine Calls.spliced_nil (qR hr (IsRange.new ..) hn fun h' tk acc hk ha => ?_)
 have k1 := fun b o e => hk b o (Heap.get?_push_of_some _ e)
 have vs := rH ha
 have hp := by
  have := hk _ _ (Heap.get?_push_size _ rfl)
  exact Nat.le_of_lt (Heap.lt_size this)
 refine ⟨.ref _, _, I1.laid (o := .tup _) (fun b ob e => Heap.get?_push_of_some _ (k1 b ob e)) hp ⟨?_, _, vs, IsTup.new _ _⟩, rfl, q _ (I1.hok.fresh hp)⟩
 rw [List.length_map, List.length_range, sizeLine_eq]
 omega
end
end L2
end
section
namespace L2
open PySem
end L2
end
section
namespace I
open PySem L2
inductive W where
 | d (t : T)
 | ref (k : Nat)
abbrev ae := List (Option (List T))
abbrev aD := List (Option W)
inductive ai (α : Type) where
 | ok (a : α) (st : ae)
 | exc (c : Nat) (fs : List T) (st : ae)
 | bad
def ai.bind {α β : Type} (r : ai α) (f : α → ae → ai β) : ai β :=
 match r with
 | .ok a st => f a st
 | .exc c fs st => .exc c fs st
 | .bad => .bad
abbrev FT : Type := Nat → List W → ae → ai W
inductive lZ where
 | add | sub | mul | fdiv | mod | pow
 deriving DecidableEq
inductive qH where
 | eq | ne | lt | le | gt | ge | mem | nmem
 deriving DecidableEq
inductive Bf where
 | len | tuple | list | int | str | min2 | max2 | all | any | sum
inductive Mt where
 | append | extend | reverse | pop | clear | join | insert | remove
inductive Tg where
 | nm (i : Nat)
 | tp (is : List Nat)
 | nt (i : Nat) (is : List Nat)
inductive Ik where
 | seq | rng1 | rng2 | enm | zp
inductive Ty where
 | int | bool | str | tuple | list
 deriving DecidableEq
inductive Gq where
 | all | any | tuple | sum | join
set_option genInjectivity false in
inductive E where
 | v (i : Nat)
 | c (t : T)
 | g (j : Nat)
 | bin (o : lZ) (a b : E)
 | cmp (o : qH) (a b : E)
 | isN (a : E)
 | notN (a : E)
 | and (a b : E)
 | or (a b : E)
 | not (a : E)
 | tup (es : List E)
 | lst (es : List E)
 | ix (a b : E)
 | sl (a : E) (lo hi : Option E)
 | ss (a : E)
 | call (f : Nat) (es : List E)
 | bf (f : Bf) (es : List E)
 | meth (m : Mt) (o : E) (es : List E)
 | isi (n : Ty) (a : E)
 | new (q : Str)
 | nin (a b : E)
 | trg (a : E)
 | mc (tab : List (Str × Nat)) (o : E) (es : List E)
 | isc (tab : List (Str × Bool)) (q : Str) (o : E)
 | frz (e : E)
 | tr (e : E)
 | comp (N : List Str) (ix : List (Option Nat)) (tg : Tg) (k : Ik) (src : List E) (ifs : List E) (el : E)
 | gen (q : Gq) (N : List Str) (ix : List (Option Nat)) (tg : Tg) (k : Ik) (src : List E) (ifs : List E) (el : E)
set_option genInjectivity false in
inductive S where
 | asg (t : Tg) (e : E)
 | setx (o i e : E)
 | aug (i : Nat) (o : lZ) (e : E)
 | ex (e : E)
 | ret (e : E)
 | retN
 | pass
 | brk
 | cnt
 | ifs (c : E) (a b : List S)
 | for (t : Tg) (k : Ik) (src : List E) (body : List S)
inductive Fl where
 | nx
 | rt (w : W)
 | bk
 | ct
def aS : Nat := 1000000
def look (w : W) (st : ae) : Option T :=
 match w with
 | .d t => some t
 | .ref k => match st[k]? with
  | some (some xs) => some (.lst xs)
  | _ => none
def fresh (t : T) (st : ae) : ai W :=
 match t with
 | .lst xs => .ok (.ref st.length) (st ++ [some xs])
 | t => .ok (.d t) st
def aO (n : Nat) (w : W) (st : ae) : ai T :=
 match w with
 | .d t => .ok t (st.take n)
 | .ref k => match st[k]? with
  | some (some xs) => .ok (.lst xs) ((st.set k none).take n)
  | _ => .bad
def bZ (n : Nat) (w : W) (st : ae) : ai W :=
 match w with
 | .d t => .ok (.d t) (st.take n)
 | .ref k => if k < n then .ok (.ref k) (st.take n) else match st[k]? with
  | some (some xs) => .ok (.ref (st.take n).length) (st.take n ++ [some xs])
  | _ => .bad
def JF : T → Option Bool
 | .non => some false
 | .bl b => some b
 | .int i => some (i != 0)
 | .str x => if x.length ≤ aS then some ((x.length : Int) != 0) else none
 | .tup xs => some (!xs.isEmpty)
 | .lst xs => some (!xs.isEmpty)
 | .ins _ => none
def eX : T → Bool
 | .ins _ => false
 | _ => true
def Hq : Ty → T → Bool
 | .int, .int _ => true
 | .int, .bl _ => true
 | .bool, .bl _ => true
 | .str, .str _ => true
 | .tuple, .tup _ => true
 | .list, .lst _ => true
 | _, _ => false
def aR (w : W) (st : ae) : Option Bool := (look w st).bind JF
theorem mq : ∃ f : Int → Bool, ∀ i, f i = (decide (-2 ^ 64 < i) && decide (i < 2 ^ 64)) := ⟨_, fun _ => rfl⟩
def aY : Int → Bool := Classical.choose mq
theorem oE (i : Int) : aY i = (decide (-2 ^ 64 < i) && decide (i < 2 ^ 64)) := Classical.choose_spec mq i
def eB : lZ → T → T → Option T
 | .add, .int a, .int b => some (.int (a + b))
 | .add, .str a, .str b => if a.length + b.length ≤ aS then some (.str (a ++ b)) else none
 | .add, .tup a, .tup b => if a.length + b.length ≤ aS then some (.tup (a ++ b)) else none
 | .add, .lst a, .lst b => if a.length + b.length ≤ aS then some (.lst (a ++ b)) else none
 | .sub, .int a, .int b => some (.int (a - b))
 | .mul, .int a, .int b => if aY a || aY b then some (.int (a * b)) else none
 | .mul, .str a, .int b => if a.length ≤ 1000 ∧ 0 ≤ b ∧ b ≤ 1000 then some (.str (ee a b)) else none
 | .mul, .tup [x], .int b => if 0 ≤ b ∧ b ≤ 1000 then some (.tup (List.replicate b.toNat x)) else none
 | .fdiv, .int a, .int b => if 0 < b ∧ b < 2 ^ 1000 then some (.int (a / b)) else none
 | .mod, .int a, .int b => if 0 < b then some (.int (a % b)) else none
 | .pow, .int a, .int b => if 0 ≤ b ∧ b ≤ 1000000 ∧ a.natAbs < 2 ^ 64 then some (.int (a ^ b.toNat)) else none
 | _, _, _ => none
def bo : T → Bool
 | .tup _ => false
 | .lst _ => false
 | .ins _ => false
 | _ => true
def gf : qH → T → T → Option Bool
 | .eq, a, b => if b9 a ≤ 60 ∧ b9 b ≤ 60 then some (eqT a b) else none
 | .ne, a, b => if b9 a ≤ 60 ∧ b9 b ≤ 60 then some (!eqT a b) else none
 | .lt, .int a, .int b => some (decide (a < b))
 | .le, .int a, .int b => some (decide (a ≤ b))
 | .gt, .int a, .int b => some (decide (b < a))
 | .ge, .int a, .int b => some (decide (b ≤ a))
 | .le, .str a, .str b => some (!decide (b.cps.toList < a.cps.toList))
 | .mem, x, .tup ys => if bo x && ys.all bo then some (ys.any fun y => eqT y x) else none
 | .mem, x, .lst ys => if bo x && ys.all bo then some (ys.any fun y => eqT y x) else none
 | .nmem, x, .tup ys => if bo x && ys.all bo then some (!ys.any fun y => eqT y x) else none
 | .nmem, x, .lst ys => if bo x && ys.all bo then some (!ys.any fun y => eqT y x) else none
 | _, _, _ => none
def aV (o : lZ) (x y : W) (st : ae) : ai W :=
 match look x st, look y st with
 | some a, some b => match eB o a b with
  | some t => fresh t st
  | none => .bad
 | _, _ => .bad
def m7 (x y : W) (st : ae) : ai W :=
 match look x st, look y st with
 | some a, some b => (match b with
  | .lst ys => if b9 a ≤ 60 ∧ bw ys ≤ 59 then .ok (.d (.bl (!ys.any fun y => eqT y a))) st else .bad
  | _ => .bad)
 | _, _ => .bad
def Hc (x y : W) (st : ae) : ai W :=
 match x, look y st with
 | .ref k, some (.int n) => (match st[k]? with
  | some (some xs) => if 0 ≤ n ∧ n ≤ 1000 ∧ xs.length * n.toNat ≤ aS then fresh (.lst (List.replicate n.toNat xs).flatten) st else .bad
  | _ => .bad)
 | _, _ => .bad
def bi (o : qH) (x y : W) (st : ae) : ai W :=
 match look x st, look y st with
 | some a, some b => match gf o a b with
  | some t => .ok (.d (.bl t)) st
  | none => .bad
 | _, _ => .bad
def eM (x y : W) (st : ae) : ai W :=
 match look x st, look y st with
 | some (.tup xs), some (.int i) => match db xs i with
  | some t => .ok (.d t) st
  | none => .bad
 | some (.lst xs), some (.int i) => match db xs i with
  | some t => .ok (.d t) st
  | none => .bad
 | some (.str z), some (.int i) => if z.length ≤ aS then match db z.cps.toList i with
  | some c => .ok (.d (.str ⟨#[c]⟩)) st
  | none => .bad else .bad
 | _, _ => .bad
def gE (xs : List T) (lo hi : Option Int) : List T := (xs.drop (HT.cE xs.length 0 lo)).take (HT.cE xs.length xs.length hi - HT.cE xs.length 0 lo)
def xD (x : W) (lo hi : Option Int) (st : ae) : ai W :=
 match look x st with
 | some (.tup xs) => if HT.cE xs.length 0 lo = 0 ∧ HT.cE xs.length xs.length hi = xs.length then .bad else .ok (.d (.tup (gE xs lo hi))) st
 | some (.lst xs) => fresh (.lst (gE xs lo hi)) st
 | some (.str z) => if z.length ≤ aS then .ok (.d (.str (Txt.slice z lo hi))) st else .bad
 | _ => .bad
def cK : List W → ae → Option (List T)
 | [], _ => some []
 | w :: ws, st => match look w st, cK ws st with
  | some t, some ts => some (t :: ts)
  | _, _ => none
def cx : List T → Option (List Int)
 | [] => some []
 | .int i :: r => (cx r).map (i :: ·)
 | _ :: _ => none
def cV : List T → Option (List Str)
 | [] => some []
 | .str i :: r => (cV r).map (i :: ·)
 | _ :: _ => none
def Dh : List T → Option (List Bool)
 | [] => some []
 | .bl i :: r => (Dh r).map (i :: ·)
 | _ :: _ => none
def IY : T → Option (List T)
 | .tup xs => some xs
 | .lst xs => some xs
 | _ => none
def insI (x : Int) : List Int → List Int
 | [] => [x]
 | y :: r => if x < y then x :: y :: r else if x = y then y :: r else y :: insI x r
def iz : List Int → List Int
 | [] => []
 | x :: r => insI x (iz r)
def rng (lo : Int) (n : Nat) : List T := (List.range n).map fun (k : Nat) => .int (lo + (k : Int))
def Kp : List Int → Option Int
 | [] => none
 | x :: r => some (r.foldl (fun a b => if b < a then b else a) x)
def KB : List Int → Option Int
 | [] => none
 | x :: r => some (r.foldl (fun a b => if a < b then b else a) x)
def JU (xs : List T) : Option T := match cV xs with
 | some zs => if zs.length < 64 then some (.lst ((zo zs).map .str)) else none
 | none => none
def qk (f : Bf) (t : T) : Option T := match f with
 | .len => (match t with
  | .tup xs => some (.int xs.length)
  | .lst xs => some (.int xs.length)
  | .str z => if z.length ≤ aS then some (.int z.length) else none
  | _ => none)
 | .tuple => (match t with
  | .tup xs => some (.tup xs)
  | .lst xs => some (.tup xs)
  | _ => none)
 | .list => (match t with
  | .tup xs => some (.lst xs)
  | .lst xs => some (.lst xs)
  | _ => none)
 | .int => (match t with
  | .int i => some (.int i)
  | .bl k => some (.int (if k then 1 else 0))
  | _ => none)
 | .str => (match t with
  | .int i => if i.natAbs.log2 < 1920 then some (.str (toString i)) else none
  | .str z => some (.str z)
  | _ => none)
 | .all => (match t with
  | .lst xs => (Dh xs).map fun bs => .bl (bs.all id)
  | _ => none)
 | .sum => (match t with
  | .lst xs => (cx xs).map fun ns => .int ns.sum
  | _ => none)
 | _ => none
def rO (f : Bf) (t u : T) : Option T := match f with
 | .min2 => (match t, u with
  | .int i, .int j => some (.int (if j < i then j else i))
  | _, _ => none)
 | .max2 => (match t, u with
  | .int i, .int j => some (.int (if j > i then j else i))
  | _, _ => none)
 | _ => none
def J4 (f : Bf) (ts : List T) : Option T := match ts with
 | [t] => qk f t
 | [t, u] => rO f t u
 | _ => none
def fJ (f : Bf) (ws : List W) (st : ae) : ai W :=
 match cK ws st with
 | some ts => match J4 f ts with
  | some t => fresh t st
  | none => .bad
 | none => .bad
def GB (x : W) (st : ae) : ai W :=
 match look x st with
 | some (.lst xs) => match cx xs with
  | some ns => if ns.length < 63 then fresh (.lst ((iz ns).map .int)) st else .bad
  | none => .bad
 | _ => .bad
def Ga : List T → Option (List Int)
 | [] => some []
 | .tup [.int x, .int y] :: r => if 0 ≤ y ∧ y < GC then (Ga r).map ((x * GC + y) :: ·) else none
 | _ :: _ => none
def Ku (k : Int) : T := .tup [.int (k / GC), .int (k % GC)]
def Jj (o : Option T) (st : ae) : ai W := match o with
 | some (.lst ys) => (match cx ys with
  | some ns => if ns.length < 64 then fresh (.lst ((tM ns).reverse.map .int)) st else .bad
  | none => .bad)
 | _ => .bad
def Iy (x : W) (st : ae) : ai W :=
 match (look x st).bind IY with
 | some xs => match Ga xs with
  | some ks => if xs.length < 64 then fresh (.lst ((tM ks).reverse.map Ku)) st else .bad
  | none => Jj (look x st) st
 | none => .bad
def wX (x : W) (st : ae) : ai W :=
 match look x st with
 | some (.int n) => if 0 ≤ n ∧ n ≤ 1000 then .ok (.d (.tup (rng 0 n.toNat))) st else .bad
 | _ => .bad
def Ac (ys : List T) (st : ae) : ai W := match cx ys with
 | some ns => .ok (.d (.int ((iz ns).length : Nat))) st
 | none => .bad
def G8 (x y : W) (st : ae) : ai W := match x, y with
 | .ref k, .ref j => (match st[k]?, st[j]? with
  | some (some xs), some (some ys) => if xs.length + ys.length ≤ aS then .ok (.d .non) (st.set k (some (xs ++ ys))) else .bad
  | _, _ => .bad)
 | _, _ => .bad
def wI : Mt → List T → List T → Option (List T × T)
 | .append, xs, [t] => if xs.length < aS then some (xs ++ [t], .non) else none
 | .reverse, xs, [] => some (xs.reverse, .non)
 | .clear, _, [] => some ([], .non)
 | .insert, xs, [.int i, t] => if 0 ≤ i ∧ i ≤ (xs.length : Int) ∧ xs.length < aS then some (xs.take i.toNat ++ t :: xs.drop i.toNat, .non) else none
 | .remove, xs, [.int i] => (match cx xs with
  | some ns => if i ∈ ns then some ((ns.erase i).map .int, .non) else none
  | none => none)
 | _, _, _ => none
def xr : Mt → T → List T → Option T
 | .join, .str sep, [.lst xs] => match cV xs with
  | some ys => if (ys.map (·.length)).sum + ys.length * sep.length ≤ aS then some (.str (Txt.join sep ys)) else none
  | none => none
 | .join, .str sep, [.tup xs] => match cV xs with
  | some ys => if (ys.map (·.length)).sum + ys.length * sep.length ≤ aS then some (.str (Txt.join sep ys)) else none
  | none => none
 | _, _, _ => none
def cD (w : W) (st : ae) : Option (List T × List (Nat × List T)) :=
 match w with
 | .d (.tup xs) => some (xs, [])
 | .d (.lst xs) => some (xs, [])
 | .ref k => match st[k]? with
  | some (some xs) => some (xs, [(k, xs)])
  | _ => none
 | _ => none
def aT : W → Bool
 | .d (.tup _) => true
 | _ => false
def KA (k : Ik) (w : W) (st : ae) : Option (List T × List (Nat × List T)) := match k with
 | .seq => cD w st
 | .rng1 => (match w with
  | .d (.int n) => if -(aS : Int) ≤ n ∧ n ≤ (aS : Int) then some (rng 0 n.toNat, []) else none
  | _ => none)
 | .enm => (cD w st).map fun p => (p.1.zipIdx.map fun q => .tup [.int q.2, q.1], p.2)
 | _ => none
def Kj (k : Ik) (w u : W) (st : ae) : Option (List T × List (Nat × List T)) := match k with
 | .rng2 => (match w, u with
  | .d (.int a), .d (.int b) => if -(aS : Int) ≤ a ∧ a ≤ (aS : Int) ∧ -(aS : Int) ≤ b ∧ b ≤ (aS : Int) then some (rng a (b - a).toNat, []) else none
  | _, _ => none)
 | .zp => (match cD w st, cD u st with
  | some p, some q => if aT w = aT u then some ((p.1.zip q.1).map fun z => .tup [z.1, z.2], p.2 ++ q.2) else none
  | _, _ => none)
 | _ => none
def ag (k : Ik) (ws : List W) (st : ae) : Option (List T × List (Nat × List T)) := match ws with
 | [w] => KA k w st
 | [w, u] => Kj k w u st
 | _ => none
def lQ (o : lZ) (x y : Int) : Option Int := match o with
 | .add => some (x + y)
 | .sub => some (x - y)
 | .mul => if aY x || aY y then some (x * y) else none
 | _ => none
mutual
def BB : T → T → Bool
 | .non, .non => true
 | .bl a, .bl b => a == b
 | .int a, .int b => a == b
 | .str a, .str b => decide (a = b)
 | .tup a, .tup b => gw a b
 | .lst a, .lst b => gw a b
 | .ins a, .ins b => decide (a = b)
 | _, _ => false
def gw : List T → List T → Bool
 | [], [] => true
 | x :: xs, y :: ys => BB x y && gw xs ys
 | _, _ => false
end
def dv (gs : List (Nat × List T)) (st : ae) : Bool := gs.all fun g => match st[g.1]? with
 | some (some xs) => gw xs g.2
 | _ => false
def cI (ix : List (Option Nat)) (ρ : aD) : aD := ix.map fun o => match o with | none => none | some j => (ρ[j]?).getD none
def bg : Tg → W → aD → Option aD
 | .nm i, w, ρ => if i < ρ.length then some (ρ.set i (some w)) else none
 | .tp is, .d (.tup xs), ρ => if is.length = xs.length ∧ is.all (· < ρ.length) then some ((is.zip xs).foldl (fun ρ p => ρ.set p.1 (some (.d p.2))) ρ) else none
 | .nt i is, .d (.tup [x, .tup ys]), ρ => if is.length = ys.length ∧ (i :: is).all (· < ρ.length) then some ((is.zip ys).foldl (fun ρ p => ρ.set p.1 (some (.d p.2))) (ρ.set i (some (.d x)))) else none
 | _, _, _ => none
def ao (gs : List (Nat × List T)) (step : T → ae → ai (Option T)) : List T → List T → ae → ai (List T)
 | [], acc, st => if dv gs st then .ok acc st else .bad
 | x :: xs, acc, st => if dv gs st then (step x st).bind fun o st' => ao gs step xs (match o with | some t => acc ++ [t] | none => acc) st' else .bad
def pB (b : Bool) (gs : List (Nat × List T)) (step : T → ae → ai (Option T)) : List T → ae → ai Bool
 | [], st => if dv gs st then .ok b st else .bad
 | x :: xs, st => if dv gs st then (step x st).bind fun o st' => match o with
  | none => pB b gs step xs st'
  | some (.bl c) => if c == b then pB b gs step xs st' else .ok (!b) st'
  | some _ => .bad else .bad
def Kw : Gq → List T → Option T
 | .tuple, xs => some (.tup xs)
 | .sum, xs => (cx xs).map fun ns => .int ns.sum
 | _, _ => none
section
variable (F : FT) (G : List T)
mutual
def aj : E → aD → ae → ai W
 | .v i, ρ, st => match ρ[i]? with
  | some (some w) => .ok w st
  | _ => .bad
 | .c t, _, st => .ok (.d t) st
 | .g j, _, st => match G[j]? with
  | some t => .ok (.d t) st
  | none => .bad
 | .bin o a b, ρ, st => (aj a ρ st).bind fun x st => (aj b ρ st).bind fun y st => aV o x y st
 | .cmp o a b, ρ, st => (aj a ρ st).bind fun x st => (aj b ρ st).bind fun y st => bi o x y st
 | .isN a, ρ, st => (aj a ρ st).bind fun x st => .ok (.d (.bl (match x with | .d .non => true | _ => false))) st
 | .notN a, ρ, st => (aj a ρ st).bind fun x st => .ok (.d (.bl (match x with | .d .non => false | _ => true))) st
 | .and a b, ρ, st => (aj a ρ st).bind fun x st => match aR x st with
  | some true => aj b ρ st
  | some false => .ok x st
  | none => .bad
 | .or a b, ρ, st => (aj a ρ st).bind fun x st => match aR x st with
  | some false => aj b ρ st
  | some true => .ok x st
  | none => .bad
 | .not a, ρ, st => (aj a ρ st).bind fun x st => match aR x st with
  | some b => .ok (.d (.bl (!b))) st
  | none => .bad
 | .tup es, ρ, st => (dj es ρ st).bind fun ts st => if ts.length ≤ aS then .ok (.d (.tup ts)) st else .bad
 | .lst es, ρ, st => (dj es ρ st).bind fun ts st => if ts.length ≤ aS then fresh (.lst ts) st else .bad
 | .ix a b, ρ, st => (aj a ρ st).bind fun x st => (aj b ρ st).bind fun y st => eM x y st
 | .sl a lo hi, ρ, st => (aj a ρ st).bind fun x st => (vK lo ρ st).bind fun l st => (vK hi ρ st).bind fun h st => xD x l h st
 | .ss a, ρ, st => (aj a ρ st).bind fun x st => GB x st
 | .call f es, ρ, st => (aW es ρ st).bind fun ws st => F f ws st
 | .bf f es, ρ, st => (aW es ρ st).bind fun ws st => fJ f ws st
 | .meth m o es, ρ, st => (aj o ρ st).bind fun x st => if (look x st).isNone then .bad else (dj es ρ st).bind fun ts st => match x with
  | .ref k => match st[k]? with
   | some (some xs) => match wI m xs ts with
    | some (ys, t) => .ok (.d t) (st.set k (some ys))
    | none => .bad
   | _ => .bad
  | .d t => match xr m t ts with
   | some u => fresh u st
   | none => .bad
 | .isi n a, ρ, st => (aj a ρ st).bind fun x st => match look x st with
  | some t => if eX t then .ok (.d (.bl (Hq n t))) st else .bad
  | none => .bad
 | .new q, _, st => .ok (.d (.ins q)) st
 | .trg a, ρ, st => (aj a ρ st).bind wX
 | .nin a b, ρ, st => (aj a ρ st).bind fun x st => (aj b ρ st).bind fun y st => m7 x y st
 | .mc tab o es, ρ, st => (aj o ρ st).bind fun x st => match x with
  | .d (.ins q) => (match tab.lookup q with
   | some f => (aW es ρ st).bind fun ws st => F f (.d (.ins q) :: ws) st
   | none => .bad)
  | _ => .bad
 | .isc tab _ o, ρ, st => (aj o ρ st).bind fun x st => match x with
  | .d (.ins q) => (match tab.lookup q with
   | some b => .ok (.d (.bl b)) st
   | none => .bad)
  | _ => .bad
 | .frz e, ρ, st => (aj e ρ st).bind fun x st' => (aO st.length x st').bind fun t st => .ok (.d t) st
 | .tr e, ρ, st => (aj e ρ st).bind fun x st' => bZ st.length x st'
 | .comp _ ix tg k src ifs el, ρ, st => (aW src ρ st).bind fun ws st => match ag k ws st with
  | some (xs, gs) => if xs.length ≤ aS then
   (ao gs (fun x st => match bg tg (.d x) (cI ix ρ) with
    | some ρ' => (cy ifs ρ' st).bind fun b st' => if b then (aj el ρ' st').bind fun w st' => (aO st.length w st').bind fun t st => .ok (some t) st else .ok none (st'.take st.length)
    | none => .bad) xs [] st).bind fun ys st => fresh (.lst ys) st
   else .bad
  | none => .bad
 | .gen q _ ix tg k src ifs el, ρ, st => (aW src ρ st).bind fun ws st => match ag k ws st with
  | some (xs, gs) => if xs.length ≤ aS then
   let step := fun x st => match bg tg (.d x) (cI ix ρ) with
    | some ρ' => (cy ifs ρ' st).bind fun b st' => if b then (aj el ρ' st').bind fun w st' => (aO st.length w st').bind fun t st => .ok (some t) st else .ok none (st'.take st.length)
    | none => .bad
   match q with
   | .all => (pB true gs step xs st).bind fun b st => .ok (.d (.bl b)) st
   | .any => (pB false gs step xs st).bind fun b st => .ok (.d (.bl b)) st
   | q => (ao gs step xs [] st).bind fun ys st => match Kw q ys with
    | some t => .ok (.d t) st
    | none => .bad
   else .bad
  | none => .bad
def aW : List E → aD → ae → ai (List W)
 | [], _, st => .ok [] st
 | e :: es, ρ, st => (aj e ρ st).bind fun w st => (aW es ρ st).bind fun ws st => .ok (w :: ws) st
def dj : List E → aD → ae → ai (List T)
 | [], _, st => .ok [] st
 | e :: es, ρ, st => (aj e ρ st).bind fun w st' => (aO st.length w st').bind fun t st => (dj es ρ st).bind fun ts st => .ok (t :: ts) st
def cy : List E → aD → ae → ai Bool
 | [], _, st => .ok true st
 | e :: es, ρ, st => (aj e ρ st).bind fun w st => match aR w st with
  | some true => cy es ρ st
  | some false => .ok false st
  | none => .bad
def vK : Option E → aD → ae → ai (Option Int)
 | none, _, st => .ok none st
 | some e, ρ, st => (aj e ρ st).bind fun w st => match look w st with
  | some (.int i) => .ok (some i) st
  | _ => .bad
end
def am (gs : List (Nat × List T)) (step : T → aD → ae → ai (Fl × aD)) : List T → aD → ae → ai (Fl × aD)
 | [], ρ, st => if dv gs st then .ok (.nx, ρ) st else .bad
 | x :: xs, ρ, st => if dv gs st then (step x ρ st).bind fun p st' => match p.1 with
  | .nx => am gs step xs p.2 st'
  | .ct => am gs step xs p.2 st'
  | .bk => .ok (.nx, p.2) st'
  | .rt w => .ok (.rt w, p.2) st' else .bad
mutual
def jk : S → aD → ae → ai (Fl × aD)
 | .asg t e, ρ, st => (aj F G e ρ st).bind fun w st => match bg t w ρ with
  | some ρ' => .ok (.nx, ρ') st
  | none => .bad
 | .setx o i e, ρ, st => (aj F G e ρ st).bind fun w st' => (aO st.length w st').bind fun t st => (aj F G o ρ st).bind fun x st => (aj F G i ρ st).bind fun y st => match x, look y st with
  | .ref k, some (.int n) => match st[k]? with
   | some (some xs) => match rR xs.length n with
    | some j => .ok (.nx, ρ) (st.set k (some (xs.set j t)))
    | none => .bad
   | _ => .bad
  | _, _ => .bad
 | .aug i o e, ρ, st => match ρ[i]? with
  | some (some (.d a)) => (aj F G e ρ st).bind fun w st => match a, look w st with
   | .int x, some (.int y) => (match lQ o x y with
    | some z => .ok (.nx, ρ.set i (some (.d (.int z)))) st
    | none => .bad)
   | _, _ => .bad
  | _ => .bad
 | .ex e, ρ, st => (aj F G e ρ st).bind fun _ st' => .ok (.nx, ρ) (st'.take st.length)
 | .ret e, ρ, st => (aj F G e ρ st).bind fun w st => .ok (.rt w, ρ) st
 | .retN, ρ, st => .ok (.rt (.d .non), ρ) st
 | .pass, ρ, st => .ok (.nx, ρ) st
 | .brk, ρ, st => .ok (.bk, ρ) st
 | .cnt, ρ, st => .ok (.ct, ρ) st
 | .ifs c a b, ρ, st => (aj F G c ρ st).bind fun w st' => match aR w st' with
  | some true => cC a ρ (st'.take st.length)
  | some false => cC b ρ (st'.take st.length)
  | none => .bad
 | .for t k src body, ρ, st => (aW F G src ρ st).bind fun ws st => match ag k ws st with
  | some (xs, gs) => am gs (fun x ρ st => match bg t (.d x) ρ with
   | some ρ' => cC body ρ' st
   | none => .bad) xs ρ st
  | none => .bad
def cC : List S → aD → ae → ai (Fl × aD)
 | [], ρ, st => .ok (.nx, ρ) st
 | s :: ss, ρ, st => (jk s ρ st).bind fun p st => match p.1 with
  | .nx => cC ss p.2 st
  | f => .ok (f, p.2) st
end
end
structure bz where
 ar : Nat
 sl : Nat
 body : List S
def da (n : Nat) (r : ai (Fl × aD)) : ai W := r.bind fun p st => match p.1 with
 | .rt w => bZ n w st
 | .nx => .ok (.d .non) (st.take n)
 | _ => .bad
def ax (F : FT) (G : List T) (D : bz) (ws : List W) (st : ae) : ai W :=
 if ws.length = D.ar then da st.length (cC F G D.body (ws.map some ++ List.replicate (D.sl - D.ar) none) st) else .bad
def run (G : List T) (Ds : Nat → Option bz) : Nat → FT
 | 0, _, _, _ => .bad
 | n + 1, f, ws, st => match Ds f with
  | some D => ax (run G Ds n) G D ws st
  | none => .bad
end I
end
section
namespace I
open PySem L2 PySem.Spec PyProof.Rows
example {F G ρ st} : aj F G (.bin .add (.c (.int 1)) (.c (.int 2))) ρ st = .ok (.d (.int 3)) st := rfl
set_option genInjectivity false in
structure Gm where
 P : Program
 w : World
 K : PySem.W.Frag
 mg : Str → Option Value
 base : Heap
 tabs : List Addr
 gn : Nat → Option Str
 G : List T
def ay (φ : List Addr) (st : ae) (a : Addr) : Prop := ∃ (k : Nat) (xs : List T), φ[k]? = some a ∧ st[k]? = some (some xs)
structure Rl (Γ : Gm) (φ : List Addr) (st : ae) (H : Hp) : Prop where
 len : φ.length = st.length
 inj : ∀ (i j : Nat) (a : Addr) (xs ys : List T), φ[i]? = some a → φ[j]? = some a → st[i]? = some (some xs) → st[j]? = some (some ys) → i = j
 at_ : ∀ (k : Nat) (xs : List T) (a : Addr), φ[k]? = some a → st[k]? = some (some xs) → ∃ vs, H a = some (.lst vs) ∧ aF Γ.K (ay φ st) H xs vs
 tab : ∀ P ∈ Γ.tabs, H P = some (cX P)
def RW (Γ : Gm) (φ : List Addr) (st : ae) (H : Hp) : W → V → Prop
 | .d t, v => Rp Γ.K (ay φ st) H t v
 | .ref k, v => ∃ a, φ[k]? = some a ∧ v = .ref a
def sC (Γ : Gm) (φ : List Addr) (st : ae) (H : Hp) : List W → List V → Prop
 | [], vs => vs = []
 | w :: ws, vs => ∃ v r, vs = v :: r ∧ RW Γ φ st H w v ∧ sC Γ φ st H ws r
structure Pt (Γ : Gm) (φ : List Addr) (st : ae) (H : Hp) (φ' : List Addr) (st' : ae) (H' : Hp) : Prop where
 rl : Rl Γ φ' st' H'
 stp : gB (ay φ st) H (ay φ' st') H'
 pre : ∀ (k : Nat) (a : Addr), φ[k]? = some a → φ'[k]? = some a
structure En (Γ : Gm) (φ : List Addr) (st : ae) (H : Hp) (ρ : aD) (σ : L2.St) : Prop where
 len : ρ.length = σ.length
 at_ : ∀ (i : Nat) (w : W), ρ[i]? = some (some w) → ∃ v, σ[i]? = some (some v) ∧ RW Γ φ st H w v
section
variable {Γ : Gm} {φ φ1 φ2 : List Addr} {st st1 st2 : ae} {H H1 H2 : Hp}
theorem Pt.refl (r : Rl Γ φ st H) : Pt Γ φ st H φ st H := ⟨r, gB.refl _ _, fun _ _ h => h⟩
theorem Pt.trans (a : Pt Γ φ st H φ1 st1 H1) (b : Pt Γ φ1 st1 H1 φ2 st2 H2) : Pt Γ φ st H φ2 st2 H2 :=
 ⟨b.rl, a.stp.trans b.stp, fun k x h => b.pre k x (a.pre k x h)⟩
theorem RW.step (p : Pt Γ φ st H φ1 st1 H1) : ∀ {w} {v}, RW Γ φ st H w v → RW Γ φ1 st1 H1 w v
 | .d t, v, r => Rp.step p.stp r
 | .ref k, v, ⟨a, h, e⟩ => ⟨a, p.pre k a h, e⟩
theorem sC.length : ∀ {ws} {vs}, sC Γ φ st H ws vs → vs.length = ws.length
 | [], _, r => by rw [r]; rfl
 | w :: ws, _, ⟨v, r, e, a, b⟩ => by rw [e, List.length_cons, List.length_cons, sC.length b]
theorem sC.get : ∀ {ws} {vs} {i : Nat} {w}, sC Γ φ st H ws vs → ws[i]? = some w → ∃ v, vs[i]? = some v ∧ RW Γ φ st H w v
 | [], _, _, _, r, e => by simp at e
 | x :: xs, _, 0, t, ⟨v, rs, e1, r1, r2⟩, e => by
  grind
 | x :: xs, _, i + 1, t, ⟨v, rs, e1, r1, r2⟩, e => by
  obtain ⟨u, h1, h2⟩ := sC.get r2 (by simpa using e)
  grind
theorem En.step (p : Pt Γ φ st H φ1 st1 H1) (e : En Γ φ st H ρ σ) : En Γ φ1 st1 H1 ρ σ :=
 ⟨e.len, fun i w h => let ⟨v, a, b⟩ := e.at_ i w h; ⟨v, a, b.step p⟩⟩
theorem En.set {w} {v} (e : En Γ φ st H ρ σ) (r : RW Γ φ st H w v) : En Γ φ st H (ρ.set i (some w)) (σ.set i (some v)) :=
 ⟨by rw [List.length_set, List.length_set, e.len], fun j u h => by
  by_cases hj : i = j
  · subst hj
    by_cases hl : i < ρ.length
    · rw [List.getElem?_set_self hl] at h
      cases h
      exact ⟨v, by rw [List.getElem?_set_self (by rw [← e.len]; exact hl)], r⟩
    simp_all
  · rw [List.getElem?_set_ne hj] at h
    obtain ⟨v', a, b⟩ := e.at_ j u h
    simp_all⟩
theorem RW.look (rl : Rl Γ φ st H) (r : RW Γ φ st H w v) (h : look w st = some t) :
 Rp Γ.K (ay φ st) H t v ∨ ∃ (k : Nat) (xs : List T) (a : Addr) (vs : List V), w = .ref k ∧ t = .lst xs ∧ v = .ref a ∧ φ[k]? = some a ∧ st[k]? = some (some xs) ∧ H a = some (.lst vs) ∧ aF Γ.K (ay φ st) H xs vs := by
 cases w with
 | d u => cases h; exact .inl r
 | ref k =>
  obtain ⟨a, e, rfl⟩ := r
  cases q : st[k]? with
  | none => simp [I.look, q] at h
  | some o =>
   cases o with
   | none => simp [I.look, q] at h
   | some xs =>
    simp only [I.look, q, Option.some.injEq] at h
    subst h
    obtain ⟨vs, h1, h2⟩ := rl.at_ k xs a e q
    exact .inr ⟨k, xs, a, vs, rfl, rfl, rfl, e, q, h1, h2⟩
theorem RW.lst (rl : Rl Γ φ st H) (r : RW Γ φ st H w v) (h : I.look w st = some (.lst xs)) : ∃ a vs, v = .ref a ∧ cO Γ.K H a vs ∧ aF Γ.K (ay φ st) H xs vs := by
 rcases r.look rl h with q | ⟨k, ys, a, vs, e1, e2, e3, _, _, h1, h2⟩
 · obtain ⟨a, vs, e, h1, h2⟩ := q
   exact ⟨a, vs, e, h1.sq, h2⟩
 · cases e2
   exact ⟨a, vs, e3, cO.of h1, h2⟩
theorem RW.tup (rl : Rl Γ φ st H) (r : RW Γ φ st H w v) (h : I.look w st = some (.tup xs)) : ∃ a vs, v = .ref a ∧ et Γ.K H a vs ∧ aF Γ.K (ay φ st) H xs vs := by
 rcases r.look rl h with q | ⟨k, ys, a, vs, e1, e2, _⟩
 · obtain ⟨a, vs, e, h1, h2⟩ := q
   exact ⟨a, vs, e, h1.sq, h2⟩
 · cases e2
theorem RW.int (rl : Rl Γ φ st H) (r : RW Γ φ st H w v) (h : I.look w st = some (.int i)) : v = .int i := by
 rcases r.look rl h with q | ⟨k, ys, a, vs, e1, e2, _⟩
 · exact q
 · cases e2
theorem RW.str (rl : Rl Γ φ st H) (r : RW Γ φ st H w v) (h : I.look w st = some (.str i)) : v = .str i := by
 rcases r.look rl h with q | ⟨k, ys, a, vs, e1, e2, _⟩
 · exact q
 · cases e2
theorem RW.bl (rl : Rl Γ φ st H) (r : RW Γ φ st H w v) (h : I.look w st = some (.bl i)) : v = .bl i := by
 rcases r.look rl h with q | ⟨k, ys, a, vs, e1, e2, _⟩
 · exact q
 · cases e2
theorem Rl.beside (rl : Rl Γ φ st H) (h : H p = none) : Pt Γ φ st H φ st (bq H p o) := by
 have s : gB (ay φ st) H _ (bq H p o) := gB.fresh h
 refine ⟨⟨rl.len, rl.inj, fun k xs a e1 e2 => ?_, fun P hP => ?_⟩, s, fun _ _ h => h⟩
 · obtain ⟨vs, h1, h2⟩ := rl.at_ k xs a e1 e2
   exact ⟨vs, by rw [az (aQ h1 h)]; exact h1, h2.step s⟩
 · rw [az (aQ (rl.tab P hP) h)]; exact rl.tab P hP
theorem mJ {o} (hl : φ.length = st.length) : ay (φ ++ [p]) (st ++ [o]) a → ay φ st a ∨ a = p ∧ ∃ xs, o = some xs := by
 rintro ⟨k, xs, e1, e2⟩
 by_cases hk : k < φ.length
 · rw [List.getElem?_append_left hk] at e1
   rw [List.getElem?_append_left (by omega)] at e2
   exact .inl ⟨k, xs, e1, e2⟩
 · rw [List.getElem?_append_right (by omega)] at e1
   rw [List.getElem?_append_right (by omega)] at e2
   have : k - φ.length = 0 := by
    cases q : k - φ.length with
    | zero => rfl
    | succ n => simp_all
   grind
theorem Rl.lay {p : Addr} {xs : List T} {vs : List V} (rl : Rl Γ φ st H) (h : H p = none) (r : aF Γ.K (ay φ st) H xs vs) : Pt Γ φ st H (φ ++ [p]) (st ++ [some xs]) (bq H p (.lst vs)) := by
 have s : gB (ay φ st) H (ay (φ ++ [p]) (st ++ [some xs])) (bq H p (.lst vs)) :=
  ⟨fun a o _ e => by rw [az (aQ e h)]; exact e, fun a z => (mJ rl.len z).elim .inl fun q => .inr (by rw [q.1]; exact h)⟩
 have np : ∀ k ys, φ[k]? = some p → st[k]? = some (some ys) → False := fun k ys e1 e2 => by
  obtain ⟨_, h1, _⟩ := rl.at_ k ys p e1 e2
  rw [h] at h1; cases h1
 have split : ∀ (k : Nat) (a : Addr) (ys : List T), (φ ++ [p])[k]? = some a → (st ++ [some xs])[k]? = some (some ys) → (φ[k]? = some a ∧ st[k]? = some (some ys)) ∨ (k = φ.length ∧ a = p ∧ ys = xs) := fun k a ys e1 e2 => by
  by_cases hk : k < φ.length
  · rw [List.getElem?_append_left hk] at e1
    rw [List.getElem?_append_left (by have := rl.len; omega)] at e2
    exact .inl ⟨e1, e2⟩
  · have hl := rl.len
    rw [List.getElem?_append_right (by omega)] at e1
    rw [List.getElem?_append_right (by omega)] at e2
    have z : k - φ.length = 0 := by
     cases q : k - φ.length with
     | zero => rfl
     | succ n => simp_all
    rw [z] at e1
    rw [show k - st.length = 0 by omega] at e2
    simp at e1 e2
    exact .inr ⟨by omega, e1.symm, e2.symm⟩
 refine ⟨⟨by simp [rl.len], fun i j a ys zs e1 e2 e3 e4 => ?_, fun k ys a e1 e2 => ?_, fun P hP => ?_⟩, s, fun k a e => ?_⟩
 · rcases split i a ys e1 e3 with ⟨a1, a2⟩ | ⟨a1, a2, a3⟩ <;> rcases split j a zs e2 e4 with ⟨b1, b2⟩ | ⟨b1, b2, b3⟩
   · exact rl.inj i j a ys zs a1 b1 a2 b2
   · simp_all
   · simp_all
   · omega
 · rcases split k a ys e1 e2 with ⟨a1, a2⟩ | ⟨a1, a2, a3⟩
   · obtain ⟨us, h1, h2⟩ := rl.at_ k ys a a1 a2
     exact ⟨us, by rw [az (aQ h1 h)]; exact h1, h2.step s⟩
   · subst a2 a3
     exact ⟨vs, bD, r.step s⟩
 · rw [az (aQ (rl.tab P hP) h)]; exact rl.tab P hP
 · rw [List.getElem?_append_left (List.getElem?_eq_some_iff.mp e).1]; exact e
theorem me (h : ay φ (st.set k o) a) : ay φ st a ∨ ∃ xs, o = some xs ∧ φ[k]? = some a := by
 obtain ⟨i, ys, e1, e2⟩ := h
 by_cases hi : k = i
 · subst hi
   by_cases hk : k < st.length
   · simp_all
   simp_all
 · rw [List.getElem?_set_ne hi] at e2
   exact .inl ⟨i, ys, e1, e2⟩
theorem Rl.write {k : Nat} {a : Addr} {xs ys : List T} {vs ws : List V} (rl : Rl Γ φ st H) (e1 : φ[k]? = some a) (e2 : st[k]? = some (some xs)) (r : aF Γ.K (ay φ st) H ys ws) :
 Pt Γ φ st H φ (st.set k (some ys)) (bq H a (.lst ws)) := by
 have hk := (List.getElem?_eq_some_iff.mp e2).1
 have la : ay φ st a := ⟨k, xs, e1, e2⟩
 have s : gB (ay φ st) H (ay φ (st.set k (some ys))) (bq H a (.lst ws)) :=
  ⟨fun b o n e => by rw [az (fun z => n (by rw [z]; exact la))]; exact e, fun b z => .inl ((me z).elim id fun ⟨_, _, q⟩ => by
   simp_all)⟩
 obtain ⟨vs0, h0, _⟩ := rl.at_ k xs a e1 e2
 refine ⟨⟨by rw [List.length_set]; exact rl.len, fun i j b xs' ys' f1 f2 f3 f4 => ?_, fun i zs b f1 f2 => ?_, fun P hP => ?_⟩, s, fun _ _ h => h⟩
 · have g : ∀ (i : Nat) (zs : List T), (st.set k (some ys))[i]? = some (some zs) → ∃ zs', st[i]? = some (some zs') := fun i zs f => by
    by_cases hi : k = i
    · subst hi; exact ⟨xs, e2⟩
    simp_all
   obtain ⟨_, g1⟩ := g i xs' f3
   obtain ⟨_, g2⟩ := g j ys' f4
   exact rl.inj i j b _ _ f1 f2 g1 g2
 · by_cases hi : k = i
   · subst hi
     rw [List.getElem?_set_self hk] at f2
     rw [e1] at f1
     cases f1; cases f2
     exact ⟨ws, bD, r.step s⟩
   · rw [List.getElem?_set_ne hi] at f2
     obtain ⟨us, h1, h2⟩ := rl.at_ i zs b f1 f2
     have hb : b ≠ a := fun z => hi (rl.inj k i a xs zs e1 (by rw [← z]; exact f1) e2 f2)
     exact ⟨us, by rw [az hb]; exact h1, h2.step s⟩
 · rw [az fun z => ?_]; exact rl.tab P hP
   have := rl.tab P hP
   rw [z, h0] at this
   cases this
theorem jA (h : ay (φ.take n) (st.take n) a) : ay φ st a := by
 obtain ⟨k, xs, e1, e2⟩ := h
 rw [List.getElem?_take] at e1 e2
 split at e1
 · rename_i hk
   rw [if_pos hk] at e2
   exact ⟨k, xs, e1, e2⟩
 · cases e1
theorem Rl.cut (n : Nat) (rl : Rl Γ φ st H) : Rl Γ (φ.take n) (st.take n) H ∧ gB (ay φ st) H (ay (φ.take n) (st.take n)) H := by
 have s : gB (ay φ st) H (ay (φ.take n) _) H := ⟨fun _ _ _ e => e, fun a z => .inl (jA z)⟩
 have tk : ∀ {α} (l : List α) (k : Nat) (x : α), (l.take n)[k]? = some x → l[k]? = some x ∧ k < n := fun l k x e => by
  rw [List.getElem?_take] at e
  simp_all
 exact ⟨⟨by simp [rl.len], fun i j a xs ys e1 e2 e3 e4 => rl.inj i j a xs ys (tk _ _ _ e1).1 (tk _ _ _ e2).1 (tk _ _ _ e3).1 (tk _ _ _ e4).1,
  fun k xs a e1 e2 => let ⟨vs, h1, h2⟩ := rl.at_ k xs a (tk _ _ _ e1).1 (tk _ _ _ e2).1; ⟨vs, h1, h2.step s⟩, rl.tab⟩, s⟩
theorem Pt.cut (p : Pt Γ φ st H φ1 st1 H1) (hl : φ.length = st.length) : Pt Γ φ st H (φ1.take st.length) (st1.take st.length) H1 := by
 obtain ⟨r, s⟩ := p.rl.cut _
 refine ⟨r, p.stp.trans s, fun k a e => ?_⟩
 rw [List.getElem?_take, if_pos (by grind)]
 exact p.pre k a e
theorem Rl.freeze {a} {xs} (rl : Rl Γ φ st H) (e1 : φ[k]? = some a) (e2 : st[k]? = some (some xs)) :
 Rl Γ φ (st.set k none) H ∧ gB (ay φ st) H (ay φ (st.set k none)) H ∧ Rp Γ.K (ay φ (st.set k none)) H (.lst xs) (.ref a) := by
 have s : gB _ H (ay φ (st.set k none)) H := ⟨fun _ _ _ e => e, fun b z => .inl ((me z).elim id fun ⟨_, q, _⟩ => by cases q)⟩
 have g : ∀ (i : Nat) (zs : List T), (st.set k none)[i]? = some (some zs) → k ≠ i ∧ st[i]? = some (some zs) := fun i zs f => by
  by_cases hi : k = i
  · subst hi
    rw [List.getElem?_set_self (List.getElem?_eq_some_iff.mp e2).1] at f; cases f
  simp_all
 obtain ⟨vs, h1, h2⟩ := rl.at_ k xs a e1 e2
 refine ⟨⟨by rw [List.length_set]; exact rl.len, fun i j b ys zs f1 f2 f3 f4 => rl.inj i j b ys zs f1 f2 (g i ys f3).2 (g j zs f4).2, fun i zs b f1 f2 => ?_, rl.tab⟩, s, ⟨a, vs, rfl, .inl ⟨.inl h1, ?_⟩, h2.step s⟩⟩
 · obtain ⟨us, q1, q2⟩ := rl.at_ i zs b f1 (g i zs f2).2
   exact ⟨us, q1, q2.step s⟩
 · rintro ⟨i, ys, f1, f2⟩
   obtain ⟨hi, f2⟩ := g i ys f2
   exact hi (rl.inj k i a xs ys e1 f1 e2 f2)
end
def Af (Γ : Gm) (φ : List Addr) (st : ae) (H : Hp) (r : ai W) (Q : VK) : Prop :=
 match r with
 | .ok w st' => ∀ v H' φ', RW Γ φ' st' H' w v → Pt Γ φ st H φ' st' H' → Q v H'
 | _ => False
def jc (Γ : Gm) (φ : List Addr) (st : ae) (H : Hp) (r : ai Bool) (Q : Bool → Hp → Prop) : Prop :=
 match r with
 | .ok b st' => ∀ H' φ', Pt Γ φ st H φ' st' H' → Q b H'
 | _ => False
section
variable {Γ : Gm} {φ φ1 : List Addr} {st st1 : ae} {H H1 : Hp}
theorem Af.re (a : Af Γ φ st H r Q) (p : Pt Γ φ st H φ1 st1 H1) : Af Γ φ1 st1 H1 r Q := by
 cases r with
 | ok w st' => exact fun v H' φ' rw pt => a v H' _ rw (p.trans pt)
 | _ => exact a
theorem jc.re (a : jc Γ φ st H r Q) (p : Pt Γ φ st H φ1 st1 H1) : jc Γ φ1 st1 H1 r Q := by
 cases r with
 | ok w st' => exact fun H' φ' pt => a H' _ (p.trans pt)
 | _ => exact a
theorem Af.bind {Q} (a : Af Γ φ st H (r.bind f) Q) :
 Af Γ φ st H r fun v H1 => ∃ w st1 φ1, RW Γ φ1 st1 H1 w v ∧ Pt Γ φ st H φ1 st1 H1 ∧ Af Γ φ1 st1 H1 (f w st1) Q := by
 cases r with
 | ok w st' => exact fun v H' φ' rw pt => ⟨w, st', φ', rw, pt, Af.re a pt⟩
 | _ => exact a
end
def tE (Γ : Gm) (F : FT) (e : E) : TE := fun σ H Q => ∃ φ st ρ, En Γ φ st H ρ σ ∧ Rl Γ φ st H ∧ Af Γ φ st H (aj F Γ.G e ρ st) Q
theorem _root_.L2.PE.imp (h : PE X e t) (i : ∀ σ H Q, u σ H Q → t σ H Q) : PE X e u := fun pins s σ H Q I q => h _ s σ H Q I (i σ H Q q)
end I
end
section
namespace L2
section
variable {X : Cx}
def yV (K : PySem.W.Frag) : R2 := fun x y H Q => ∃ a b xs ys, x = .ref a ∧ y = .ref b ∧ et K H a xs ∧ et K H b ys ∧ xs.length + ys.length ≤ sizeLine ∧
 (xs = [] → Q (.ref b) H) ∧ (xs ≠ [] → ys = [] → Q (.ref a) H) ∧ (xs ≠ [] → ys ≠ [] → ∀ p, H p = none → Q (.ref p) (bq H p (.tup (xs ++ ys))))
theorem xm {K} (hK : X.K = K) : cA X (binaryOp .Add) (yV K) := by
 subst hK
 intro pins s σ H x y v u Q I rx ry h
 obtain ⟨a, b, xs, ys, rfl, rfl, ha, hb, hz, q0, q1, q2⟩ := h
 by_cases hx : xs = []
 · subst hx
   cases rx
   cases ry
   obtain ⟨its, r1, p1, _⟩ := I.tuple ha
   obtain ⟨its2, r2, p2, _⟩ := I.tuple hb
   cases r1
   obtain ⟨⟨cls, dd, data, sl⟩, ho, hc, n, hd⟩ := id p1
   obtain ⟨⟨cls2, dd2, data2, sl2⟩, ho2, hc2, n2, hd2⟩ := id p2
   subst hc hd hc2 hd2
   exact concat_meets ⟨_, ho, rfl⟩ ⟨_, ho2, rfl⟩ noFill_tuple_add seq_tuple_add PySem.F.slot_tuple_add PySem.F.entry_tuple_add (PySem.F.args_tuple_add_2 _ _)
    (tuple_addW0 a b _ _ n n2 dd _ sl _ rfl) ⟨ho, ho2, ⟨.ref b, H, I, rfl, q0 rfl⟩⟩
 · exact yi _ s σ H _ _ v u Q I rx ry ⟨a, b, xs, ys, rfl, rfl, ha, hb, hx, hz, q1 hx, q2 hx⟩
def zH (K : PySem.W.Frag) : R2 := fun x y H Q => ∃ l k v, x = .ref l ∧ y = .int k ∧ et K H l [v] ∧ 0 ≤ k ∧ k ≤ 1000 ∧ (k = 1 → Q (.ref l) H) ∧ (k ≠ 1 → ∀ p, H p = none → Q (.ref p) (bq H p (.tup (List.replicate k.toNat v))))
theorem xJ {K : PySem.W.Frag} (hK : X.K = K) : cA X (binaryOp .Mult) (zH K) := by
 subst hK
 intro pins s σ H x y v u Q I rx ry h
 obtain ⟨l, k, v0, rfl, rfl, hH, h1, h2, q1, q⟩ := h
 cases rx
 obtain ⟨t, rfl⟩ := ry
 obtain ⟨its, r, p1, hz⟩ := I.tuple hH
 obtain ⟨⟨cls, dd, data, sl⟩, e, hc, n, hd⟩ := id p1
 simp only at hc hd
 subst hc hd
 obtain ⟨u0, rfl, ru⟩ := vals1 r
 refine wpAny_binaryOp_repeat_ref (T := "tuple") (U := "int") (by decide) ⟨_, e, rfl⟩ (fun s' => typeIs_int s' k t) fZ F.fills_int_mul F.slot_int_rmul kJ F.slot_int_index.lookup
  (call_meets F.slot_int_rmul (typeIs_int s k t) F.entry_int_rmul (F.args_int_rmul_2 _ _) (gX k t l [u0].toArray n dd sl)
   ⟨e, rfl, ⟨_, e, rfl⟩, ?_⟩)
 by_cases hk1 : k = 1
 · subst hk1
   exact call_meets F.slot_tuple_mul ⟨_, e, rfl⟩ F.entry_tuple_mul (F.args_tuple_mul_2 _ _) (nY l [u0].toArray n dd sl t) ⟨e, ⟨.ref l, H, I, rfl, q1 rfl⟩⟩
 have q := q hk1
 by_cases hk0 : k = 0
 · subst hk0
   refine call_meets F.slot_tuple_mul ⟨_, e, rfl⟩ F.entry_tuple_mul (F.args_tuple_mul_2 _ _) (nk l u0 n dd sl t) ⟨e, ⟨.ref _, _, I.laid (t' := s.toks) (o := .tup []) (fun b ob q => Heap.get?_push_of_some _ q) (Nat.le_refl _) ?_, rfl, q _ I.fresh⟩⟩
   exact ⟨Nat.zero_le _, [], .nil, IsTup.new _ _⟩
 have fo : List.foldl (fun x1 x2 => x1 ++ x2) #[] (List.replicate k.toNat [u0].toArray) = (List.replicate k.toNat u0).toArray := by
  have := foldl_rep [u0] k.toNat []
  rw [List.nil_append] at this
  rw [this]
  congr 1
  induction k.toNat with
  | zero => rfl
  | succ m ih => rw [List.replicate_succ, List.flatten_cons, ih]; rfl
 have sz : (sizeLine : Nat) ≥ 1000 := by decide
 refine call_meets F.slot_tuple_mul ⟨_, e, rfl⟩ F.entry_tuple_mul (F.args_tuple_mul_2 _ _) (nr l [u0].toArray n dd sl k t ?_ ?_ ?_ ?_ ?_ ?_) ⟨e, ?_⟩
 · simp; omega
 · simp; omega
 · simp; omega
 · simp; omega
 · unfold Builtin.Tuple.tupleTooMany; simp; omega
 · rw [fo]; simp; omega
 · rw [fo]
   refine ⟨.ref _, _, I.laid (t' := s.toks) (o := .tup (List.replicate k.toNat v0)) (fun b ob q => Heap.get?_push_of_some _ q) (Nat.le_refl _) ?_, rfl, q _ I.fresh⟩
   refine ⟨by simp; omega, List.replicate k.toNat u0, ?_, IsTup.new _ _⟩
   clear fo
   induction k.toNat with
   | zero => exact .nil
   | succ m ih => exact .cons ru ih
end
end L2
namespace I
open PySem L2 PySem.Spec PyProof.Rows
theorem bB : aS ≤ sizeLine := by decide
section
variable {Γ : Gm} {φ φ1 : List Addr} {st st1 : ae} {H H1 : Hp}
theorem Af.mono (a : Af Γ φ st H r Q) (h : ∀ v H', Q v H' → Q' v H') : Af Γ φ st H r Q' := by
 cases r with
 | ok w st' => exact fun v H' φ' rw pt => h v H' (a v H' _ rw pt)
 | _ => exact a
theorem Af.now {Q} (a : Af Γ φ st H (.ok w st) Q) (rl : Rl Γ φ st H) (r : RW Γ φ st H w v) : Q v H := a v H φ r (Pt.refl rl)
theorem Af.tup {Q} (a : Af Γ φ st H (.ok (.d (.tup xs)) st) Q) (rl : Rl Γ φ st H) (r : aF Γ.K (ay φ st) H xs vs) : ∀ p, H p = none → Q (.ref p) (bq H p (.tup vs)) := fun p hp => by
 have b := rl.beside (o := .tup vs) hp
 refine a _ _ φ ⟨p, vs, rfl, .inl ⟨.inl bD, ?_⟩, r.step b.stp⟩ b
 rintro ⟨k, ys, e1, e2⟩
 obtain ⟨_, h1, _⟩ := rl.at_ k ys p e1 e2
 rw [hp] at h1; cases h1
theorem Af.lst {Q} (a : Af Γ φ st H (fresh (.lst xs) st) Q) (rl : Rl Γ φ st H) (r : aF Γ.K (ay φ st) H xs vs) : ∀ p, H p = none → Q (.ref p) (bq H p (.lst vs)) := fun p hp => by
 refine a _ _ _ ⟨p, ?_, rfl⟩ (rl.lay hp r)
 rw [← rl.len, List.getElem?_append_right (Nat.le_refl _), Nat.sub_self]
 rfl
end
def pA (Γ : Gm) (r : R2) (f : W → W → ae → ai W) : Prop := ∀ φ st H x y v u Q, Rl Γ φ st H → RW Γ φ st H x v → RW Γ φ st H y u → Af Γ φ st H (f x y st) Q → r v u H Q
theorem GD {F} {r} {f} {a b e} (he : ∀ ρ st, aj F Γ.G e ρ st = (aj F Γ.G a ρ st).bind fun x st => (aj F Γ.G b ρ st).bind fun y st => f x y st) (o : pA Γ r f) :
 ∀ σ H Q, tE Γ F e σ H Q → Bg r (tE Γ F a) (tE Γ F b) σ H Q := by
 rintro σ H Q ⟨φ, st, ρ, en, rl, af⟩
 rw [he] at af
 refine ⟨φ, st, ρ, en, rl, af.bind.mono fun v H1 ⟨w, st1, φ1, rw1, pt, af1⟩ => ?_⟩
 exact ⟨φ1, st1, ρ, en.step pt, pt.rl, af1.bind.mono fun u H2 ⟨w2, st2, φ2, rw2, pt2, af2⟩ => o _ _ H2 w w2 v u Q pt2.rl (rw1.step pt2) rw2 af2⟩
theorem zU {Γ : Gm} {F : FT} {r : V → Hp → VK → Prop} {f : W → ae → ai W} {a e : E} (he : ∀ ρ st, aj F Γ.G e ρ st = (aj F Γ.G a ρ st).bind fun x st => f x st)
 (o : ∀ φ st H x v Q, Rl Γ φ st H → RW Γ φ st H x v → Af Γ φ st H (f x st) Q → r v H Q) :
 ∀ σ H Q, tE Γ F e σ H Q → Ju r (tE Γ F a) σ H Q := by
 rintro σ H Q ⟨φ, st, ρ, en, rl, af⟩
 rw [he] at af
 exact ⟨φ, st, ρ, en, rl, af.bind.mono fun v H1 ⟨w, st1, φ1, rw1, pt, af1⟩ => o φ1 st1 H1 w v Q pt.rl rw1 af1⟩
theorem Af.looks2 {st} {H} {x y} {Q} {g : T → T → ai W} (a : Af Γ φ st H (match look x st, look y st with | some a, some b => g a b | _, _ => .bad) Q) :
 ∃ t u, look x st = some t ∧ look y st = some u ∧ Af Γ φ st H (g t u) Q := by
 cases h1 : look x st with
 | none => rw [h1] at a; exact a.elim
 | some t =>
  cases h2 : look y st with
  | none => rw [h1, h2] at a; exact a.elim
  | some u => simp_all
theorem Af.opt {st} {H} {o} {Q} {g : T → ai W} (a : Af Γ φ st H (match o with | some t => g t | none => .bad) Q) : ∃ t, o = some t ∧ Af Γ φ st H (g t) Q := by
 cases o with
 | none => exact a.elim
 | some t => exact ⟨t, rfl, a⟩
theorem aH {α : Type} {p} [Decidable p] {x y : α} (h : (if p then some x else none) = some y) : p ∧ x = y := by grind
theorem fg (h : aY i = true) : -2 ^ 64 < i ∧ i < 2 ^ 64 := by
 rw [oE] at h
 simp_all
def AS (K : PySem.W.Frag) : R2 := fun x y H Q => rP (fun i j => .int (i + j)) x y H Q ∨ (∃ i j, x = .str i ∧ y = .str j ∧ i.length + j.length ≤ sizeLine ∧ Q (.str (i ++ j)) H) ∨ yV K x y H Q ∨ sH K x y H Q
theorem yG {K} (hK : X.K = K) : cA X (binaryOp .Add) (AS K) := BC.or (mU.or ((xm hK).or (EB hK)))
theorem cM {K} {L} {H} {ts} {vs} (r : aF K L H ts vs) : vs = [] ↔ ts = [] := by
 have := r.length
 grind
theorem E4 : pA Γ (AS Γ.K) (aV .add) := by
 intro φ st H x y v u Q rl rx ry af
 obtain ⟨t, t', h1, h2, af⟩ := Af.looks2 af
 obtain ⟨z, hz, af⟩ := Af.opt af
 have hLL := bB
 cases t with
 | int i =>
  cases t' <;> first | (cases hz; done) | skip
  rename_i j
  exact .inl ⟨i, j, rx.int rl h1, ry.int rl h2, af.now rl rfl⟩
 | str i =>
  cases t' <;> first | (cases hz) | skip
  rename_i j
  obtain ⟨hz1, rfl⟩ := aH hz
  exact .inr (.inl ⟨i, j, rx.str rl h1, ry.str rl h2, by omega, af.now rl rfl⟩)
 | tup i =>
  cases t' <;> first | (cases hz) | skip
  obtain ⟨hz1, rfl⟩ := aH hz
  obtain ⟨a, vs, rfl, q1, r1⟩ := rx.tup rl h1
  obtain ⟨b, ws, rfl, q2, r2⟩ := ry.tup rl h2
  refine .inr (.inr (.inl ⟨a, b, vs, ws, rfl, rfl, q1, q2, by rw [r1.length, r2.length]; omega, fun e => ?_, fun _ e => ?_, fun _ _ => af.tup rl (r1.append r2)⟩))
  · rw [(cM r1).mp e] at af
    rcases ry.look rl h2 with q | ⟨_, _, _, _, _, e2, _⟩
    · exact af.now rl q
    · cases e2
  · rw [(cM r2).mp e, List.append_nil] at af
    rcases rx.look rl h1 with q | ⟨_, _, _, _, _, e2, _⟩
    · exact af.now rl q
    · cases e2
 | lst i =>
  cases t' <;> first | (cases hz) | skip
  obtain ⟨hz1, rfl⟩ := aH hz
  obtain ⟨a, vs, rfl, q1, r1⟩ := rx.lst rl h1
  obtain ⟨b, ws, rfl, q2, r2⟩ := ry.lst rl h2
  exact .inr (.inr (.inr ⟨a, b, vs, ws, rfl, rfl, q1, q2, by rw [r1.length, r2.length]; omega, af.lst rl (r1.append r2)⟩))
 | ins b => cases hz
 | non => cases hz
 | bl b => cases hz
def Gi (K : PySem.W.Frag) : R2 := fun x y H Q => rI qd (fun i j => .int (i * j)) x y H Q ∨ (∃ z n, x = .str z ∧ y = .int n ∧ z.length ≤ 1000 ∧ 0 ≤ n ∧ n ≤ 1000 ∧ Q (.str (ee z n)) H) ∨ zH K x y H Q
theorem wO {X : Cx} {K : PySem.W.Frag} (hK : X.K = K) : cA X (binaryOp .Mult) (Gi K) := CG.or (nu.or (xJ hK))
theorem DT {Γ : Gm} : pA Γ (Gi Γ.K) (aV .mul) := by
 intro φ st H x y v u Q rl rx ry af
 obtain ⟨t, t', h1, h2, af⟩ := Af.looks2 af
 obtain ⟨z, hz, af⟩ := Af.opt af
 cases t with
 | int i =>
  cases t' <;> first | (cases hz; done) | skip
  rename_i j
  obtain ⟨hz1, rfl⟩ := aH hz
  refine .inl ⟨i, j, rx.int rl h1, ry.int rl h2, ?_, af.now rl rfl⟩
  rcases (Bool.or_eq_true _ _).mp hz1 with q | q
  · exact .inl (fg q)
  · exact .inr (fg q)
 | str i =>
  cases t' <;> first | (cases hz; done) | skip
  rename_i j
  obtain ⟨⟨a, b, c⟩, rfl⟩ := aH hz
  exact .inr (.inl ⟨i, j, rx.str rl h1, ry.int rl h2, a, b, c, af.now rl rfl⟩)
 | tup i =>
  match i, t', hz with
  | [], _, hz => cases hz
  | _ :: _ :: _, _, hz => cases hz
  | [x0], .non, hz => cases hz
  | [x0], .bl _, hz => cases hz
  | [x0], .str _, hz => cases hz
  | [x0], .tup _, hz => cases hz
  | [x0], .lst _, hz => cases hz
  | [x0], .ins _, hz => cases hz
  | [x0], .int j, hz =>
   obtain ⟨⟨a, b⟩, rfl⟩ := aH hz
   obtain ⟨p, vs, rfl, q1, r1⟩ := rx.tup rl h1
   obtain ⟨v0, rs, rfl, r2, r3⟩ := id r1
   cases (show rs = [] from r3)
   refine .inr (.inr ⟨p, j, v0, rfl, ry.int rl h2, q1, a, b, fun e => ?_, fun _ => af.tup rl ?_⟩)
   · subst e
     rcases rx.look rl h1 with q | ⟨_, _, _, _, _, e2, _⟩
     · exact af.now rl q
     · cases e2
   · induction j.toNat with
     | zero => exact rfl
     | succ n ih => exact ⟨v0, _, rfl, r2, ih⟩
 | lst i => cases t' <;> cases hz
 | ins i => cases t' <;> cases hz
 | non => cases hz
 | bl b => cases hz
theorem oJ {o} {C} {g : Int → Int → Int} (h : ∀ a b t, eB o a b = some t → ∃ i j, a = .int i ∧ b = .int j ∧ C i j ∧ t = .int (g i j)) : pA Γ (rI C fun i j => .int (g i j)) (aV o) := by
 intro φ st H x y v u Q rl rx ry af
 obtain ⟨t, t', h1, h2, af⟩ := Af.looks2 af
 obtain ⟨z, hz, af⟩ := Af.opt af
 obtain ⟨i, j, rfl, rfl, c, rfl⟩ := h _ _ _ hz
 exact ⟨i, j, rx.int rl h1, ry.int rl h2, c, af.now rl rfl⟩
theorem yd : cA X (binaryOp .Sub) (rI (fun _ _ => True) fun i j => .int (i - j)) := fun pins s σ H x y v u Q I rx ry ⟨i, j, a, b, _, q⟩ => BO _ s σ H x y v u Q I rx ry ⟨i, j, a, b, q⟩
theorem FI : pA Γ (rI (fun _ _ => True) fun i j => .int (i - j)) (aV .sub) := oJ fun a b t h => by
 cases a <;> cases b <;> first | (cases h; done) | (cases h; simp)
theorem AB : pA Γ (rI zm fun i j => .int (i / j)) (aV .fdiv) := oJ fun a b t h => by
 cases a <;> cases b <;> first | (cases h) | (obtain ⟨h1, rfl⟩ := aH h; exact ⟨_, _, rfl, rfl, h1, rfl⟩)
theorem Db : pA Γ (rI (fun _ j => 0 < j) fun i j => .int (i % j)) (aV .mod) := oJ fun a b t h => by
 cases a <;> cases b <;> first | (cases h) | (obtain ⟨h1, rfl⟩ := aH h; exact ⟨_, _, rfl, rfl, h1, rfl⟩)
theorem Dd : pA Γ (rI E2 fun i j => .int (i ^ j.toNat)) (aV .pow) := oJ fun a b t h => by
 cases a <;> cases b <;> first | (cases h) | (obtain ⟨h1, rfl⟩ := aH h; exact ⟨_, _, rfl, rfl, h1, rfl⟩)
def lC : Operator → Option lZ
 | .Add => some .add
 | .Sub => some .sub
 | .Mult => some .mul
 | .FloorDiv => some .fdiv
 | .Mod => some .mod
 | .Pow => some .pow
 | _ => none
theorem BJ {X : Cx} {Γ : Gm} (hK : X.K = Γ.K) {op : Operator} {o : lZ} (h : lC op = some o) : ∃ r, cA X (binaryOp op) r ∧ pA Γ r (aV o) := by
 cases op <;> first | (cases h; done) | (cases h; first | exact ⟨_, yG hK, E4⟩ | exact ⟨_, wO hK, DT⟩ | exact ⟨_, yd, FI⟩ | exact ⟨_, uV, AB⟩ | exact ⟨_, zY, Db⟩ | exact ⟨_, AF, Dd⟩)
end I
end
section
namespace I
open PySem L2 PySem.Spec PyProof.Rows
mutual
theorem Rp.weak {K} {L} {H} : ∀ {t} {v}, Rp K L H t v → Rp K (fun _ => False) H t v
 | .non, _, r => r
 | .bl _, _, r => r
 | .int _, _, r => r
 | .str _, _, r => r
 | .tup xs, _, r => by
  obtain ⟨a, vs, e, q, rs⟩ := r
  exact ⟨a, vs, e, q.elim (fun x => .inl ⟨x.1, id⟩) .inr, aF.weak rs⟩
 | .lst xs, _, r => by
  obtain ⟨a, vs, e, q, rs⟩ := r
  exact ⟨a, vs, e, q.elim (fun x => .inl ⟨x.1, id⟩) .inr, aF.weak rs⟩
 | .ins _, _, r => by
  obtain ⟨a, e, C, dx, h, _, c⟩ := r
  exact ⟨a, e, C, dx, h, id, c⟩
theorem aF.weak {K} {L} {H} : ∀ {ts} {vs}, aF K L H ts vs → aF K (fun _ => False) H ts vs
 | [], _, r => r
 | t :: ts, _, r => by
  obtain ⟨v, rs, e, r1, r2⟩ := r
  exact ⟨v, rs, e, Rp.weak r1, aF.weak r2⟩
end
section
variable {Γ : Gm} {φ φ1 : List Addr} {st st1 : ae} {H H1 : Hp}
theorem RW.rp (rl : Rl Γ φ st H) (r : RW Γ φ st H w v) (h : I.look w st = some t) : Rp Γ.K (fun _ => False) H t v := by
 rcases r.look rl h with q | ⟨k, xs, a, vs, rfl, rfl, rfl, _, _, h1, h2⟩
 · exact Rp.weak q
 · exact ⟨a, vs, rfl, .inl ⟨.inl h1, id⟩, aF.weak h2⟩
end
theorem p7 {K} {L} {H} {t} {v} (f : bo t = true) (r : Rp K L H t v) : eh v = true ∧ ∀ {u} {w}, bo u = true → Rp K L H u w → wY v w = eqT t u := by
 cases t with
 | non => cases r; refine ⟨rfl, fun {u w} g q => ?_⟩; cases u <;> first | (cases q; rfl) | cases g
 | bl b => cases r; refine ⟨rfl, fun {u w} g q => ?_⟩; cases u <;> first | (cases q; rfl) | cases g
 | int b => cases r; refine ⟨rfl, fun {u w} g q => ?_⟩; cases u <;> first | (cases q; rfl) | cases g
 | str b => cases r; refine ⟨rfl, fun {u w} g q => ?_⟩; cases u <;> first | (cases q; rfl) | cases g
 | tup _ => cases f
 | lst _ => cases f
 | ins _ => cases f
theorem pT {K} {L} {H} {x} {v} (f : bo x = true) (r : Rp K L H x v) : ∀ {ys} {vs}, ys.all bo = true → aF K L H ys vs → vs.all eh = true ∧ GN v vs = ys.any fun y => eqT y x
 | [], _, _, q => by cases q; exact ⟨rfl, rfl⟩
 | y :: ys, _, g, q => by
  obtain ⟨w, rs, rfl, q1, q2⟩ := q
  simp only [List.all_cons, Bool.and_eq_true] at g
  obtain ⟨a, b⟩ := pT f r g.2 q2
  obtain ⟨c, d⟩ := p7 g.1 q1
  refine ⟨by simp [a, c], ?_⟩
  unfold GN at b ⊢
  rw [List.any_cons, List.any_cons, b, d f r]
def zI : CmpOp → Option qH
 | .Eq => some .eq
 | .NotEq => some .ne
 | .Lt => some .lt
 | .LtE => some .le
 | .Gt => some .gt
 | .GtE => some .ge
 | .In => some .mem
 | .NotIn => some .nmem
 | _ => none
theorem Af.optB {st} {H} {o} {Q} {g : Bool → ai W} (a : Af Γ φ st H (match o with | some t => g t | none => .bad) Q) : ∃ t, o = some t ∧ Af Γ φ st H (g t) Q := by
 cases o with
 | none => exact a.elim
 | some t => exact ⟨t, rfl, a⟩
theorem oa {o} {g : Int → Int → Bool} (h : ∀ a b t, gf o a b = some t → ∃ i j, a = .int i ∧ b = .int j ∧ t = g i j) : pA Γ (rP fun i j => .bl (g i j)) (bi o) := by
 intro φ st H x y v u Q rl rx ry af
 obtain ⟨t, t', h1, h2, af⟩ := Af.looks2 af
 obtain ⟨z, hz, af⟩ := Af.optB af
 obtain ⟨i, j, rfl, rfl, rfl⟩ := h _ _ _ hz
 exact ⟨i, j, rx.int rl h1, ry.int rl h2, af.now rl rfl⟩
theorem D6 {o} {neg : Bool} (h : ∀ x a t, gf o x a = some t → bo x = true ∧ ∃ ys, ys.all bo = true ∧ t = (if neg then !ys.any fun y => eqT y x else ys.any fun y => eqT y x) ∧ (a = .tup ys ∨ a = .lst ys)) : pA Γ (D9 Γ.K neg) (bi o) := by
 intro φ st H x y v u Q rl rx ry af
 obtain ⟨t, t', h1, h2, af⟩ := Af.looks2 af
 obtain ⟨z, hz, af⟩ := Af.optB af
 obtain ⟨f, ys, fs, e, k⟩ := h _ _ _ hz
 have r := rx.rp rl h1
 have key : ∃ p vs, u = .ref p ∧ (cO Γ.K H p vs ∨ et Γ.K H p vs) ∧ aF Γ.K (fun _ => False) H ys vs := by
  rcases k with rfl | rfl
  · obtain ⟨a, vs, e, q1, q2⟩ := ry.tup rl h2; exact ⟨a, vs, e, .inr q1, aF.weak q2⟩
  · obtain ⟨a, vs, e, q1, q2⟩ := ry.lst rl h2; exact ⟨a, vs, e, .inl q1, aF.weak q2⟩
 obtain ⟨p, vs, e2, sq, rs⟩ := key
 obtain ⟨a1, a2⟩ := pT f r fs rs
 refine ⟨p, vs, e2, sq, (p7 f r).1, a1, ?_⟩
 rw [a2, ← e]
 exact af.now rl rfl
theorem zS {X : Cx} {Γ : Gm} (hK : X.K = Γ.K) (hu : X.A.units + 64 < cLine) {op : CmpOp} {o : qH} (h : zI op = some o) : ∃ r, cA X (compareOp op) r ∧ pA Γ r (bi o) := by
 cases op with
 | Eq =>
  cases h
  refine ⟨_, AZ (fun _ => False) hK hu, fun φ st H x y v u Q rl rx ry af => ?_⟩
  obtain ⟨t, t', h1, h2, af⟩ := Af.looks2 af
  obtain ⟨z, hz, af⟩ := Af.optB af
  obtain ⟨hd, rfl⟩ := aH hz
  exact ⟨t, t', rx.rp rl h1, ry.rp rl h2, hd.1, hd.2, af.now rl rfl⟩
 | NotEq =>
  cases h
  refine ⟨_, AL (fun _ => False) hK hu, fun φ st H x y v u Q rl rx ry af => ?_⟩
  obtain ⟨t, t', h1, h2, af⟩ := Af.looks2 af
  obtain ⟨z, hz, af⟩ := Af.optB af
  obtain ⟨hd, rfl⟩ := aH hz
  exact ⟨t, t', rx.rp rl h1, ry.rp rl h2, hd.1, hd.2, af.now rl rfl⟩
 | Lt => cases h; exact ⟨_, F6, oa fun a b t h => by cases a <;> cases b <;> first | (cases h; done) | (cases h; simp)⟩
 | Gt => cases h; exact ⟨_, Ek, oa fun a b t h => by cases a <;> cases b <;> first | (cases h; done) | (cases h; simp)⟩
 | GtE => cases h; exact ⟨_, FY, oa fun a b t h => by cases a <;> cases b <;> first | (cases h; done) | (cases h; simp)⟩
 | LtE =>
  cases h
  refine ⟨_, DC.or qb, fun φ st H x y v u Q rl rx ry af => ?_⟩
  obtain ⟨t, t', h1, h2, af⟩ := Af.looks2 af
  obtain ⟨z, hz, af⟩ := Af.optB af
  cases t with
  | int i =>
   cases t' <;> first | (cases hz; done) | skip
   rename_i j
   exact .inl ⟨i, j, rx.int rl h1, ry.int rl h2, af.now rl rfl⟩
  | str i =>
   cases t' <;> first | (cases hz; done) | skip
   rename_i j
   exact .inr ⟨i, j, rx.str rl h1, ry.str rl h2, af.now rl rfl⟩
  | _ => cases t' <;> cases hz
 | In =>
  cases h
  refine ⟨_, yr hK, D6 fun x a t h => ?_⟩
  cases a <;> first | (cases h) | skip
  all_goals
   obtain ⟨h1, rfl⟩ := aH h
   simp only [Bool.and_eq_true] at h1
  · exact ⟨h1.1, _, h1.2, rfl, .inl rfl⟩
  · exact ⟨h1.1, _, h1.2, rfl, .inr rfl⟩
 | NotIn =>
  cases h
  refine ⟨_, oq hK, D6 fun x a t h => ?_⟩
  cases a <;> first | (cases h) | skip
  all_goals
   obtain ⟨h1, rfl⟩ := aH h
   simp only [Bool.and_eq_true] at h1
  · exact ⟨h1.1, _, h1.2, rfl, .inl rfl⟩
  · exact ⟨h1.1, _, h1.2, rfl, .inr rfl⟩
 | Is => cases h
 | IsNot => cases h
theorem Ba {st st'} {w} (h : bi o x y st = .ok w st') : ∃ b, w = .d (.bl b) ∧ st' = st := by
 unfold bi at h
 split at h
 · split at h
   · cases h; exact ⟨_, rfl, rfl⟩
   · cases h
 · cases h
def lq (F : FT) (G : List T) (e : E) (ρ : aD) (st : ae) : ai Bool := (aj F G e ρ st).bind fun w st => match aR w st with | some b => .ok b st | none => .bad
def tT (Γ : Gm) (F : FT) (e : E) : TT := fun σ H Q => ∃ φ st ρ, En Γ φ st H ρ σ ∧ Rl Γ φ st H ∧ jc Γ φ st H (lq F Γ.G e ρ st) Q
theorem _root_.L2.PT.imp (h : PT X e t) (i : ∀ σ H Q, u σ H Q → t σ H Q) : PT X e u := fun pins s σ H Q I q => h _ s σ H Q I (i σ H Q q)
section
variable {Γ : Gm} {φ φ1 : List Addr} {st st1 : ae} {H H1 : Hp} {F : FT}
theorem pZ {w : W} {v : V} {b : Bool} (rl : Rl Γ φ st H) (r : RW Γ φ st H w v) (h : aR w st = some b) : nU Γ.K v H b := by
 unfold aR at h
 cases q : look w st with
 | none => rw [q] at h; cases h
 | some t =>
  rw [q] at h
  have h : JF t = some b := h
  cases t with
  | non =>
   cases h
   rcases r.look rl q with z | ⟨_, _, _, _, _, e, _⟩
   · cases z; exact rfl
   · cases e
  | bl c => cases h; rw [r.bl rl q]; exact rfl
  | int i => cases h; rw [r.int rl q]; exact rfl
  | str z =>
   obtain ⟨h1, rfl⟩ := aH h
   rw [r.str rl q]
   exact ⟨Nat.le_trans h1 bB, rfl⟩
  | tup xs =>
   cases h
   obtain ⟨a, vs, rfl, h1, h2⟩ := r.tup rl q
   refine .inr ⟨vs, h1, ?_⟩
   have := cM h2
   cases vs <;> cases xs <;> simp_all
  | lst xs =>
   cases h
   obtain ⟨a, vs, rfl, h1, h2⟩ := r.lst rl q
   refine .inl ⟨vs, h1, ?_⟩
   have := cM h2
   cases vs <;> cases xs <;> simp_all
  | ins _ => cases h
theorem jc.bind {Q} (a : jc Γ φ st H (r.bind f) Q) :
 Af Γ φ st H r fun v H1 => ∃ w st1 φ1, RW Γ φ1 st1 H1 w v ∧ Pt Γ φ st H φ1 st1 H1 ∧ jc Γ φ1 st1 H1 (f w st1) Q := by
 cases r with
 | ok w st' => exact fun v H' φ' rw pt => ⟨w, st', φ', rw, pt, jc.re a pt⟩
 | _ => exact a
theorem jc.mono (a : jc Γ φ st H r Q) (h : ∀ v H', Q v H' → Q' v H') : jc Γ φ st H r Q' := by
 cases r with
 | ok w st' => exact fun H' φ' pt => h _ H' (a H' _ pt)
 | _ => exact a
theorem jc.now (a : jc Γ φ st H (.ok b st) Q) (rl : Rl Γ φ st H) : Q b H := a H φ (Pt.refl rl)
theorem jc.tru {Q} (a : jc Γ φ st H (match aR w st with | some b => .ok b st | none => .bad) Q) (rl : Rl Γ φ st H) (r : RW Γ φ st H w v) : ∃ k, aR w st = some k ∧ nU Γ.K v H k ∧ Q k H := by
 cases h : aR w st with
 | none => rw [h] at a; exact a.elim
 | some b => rw [h] at a; exact ⟨b, rfl, pZ rl r h, a.now rl⟩
theorem xu (hK : X.K = Γ.K) (h : PE X x (tE Γ F e)) (he : ∀ whole, isTrue x X.env whole = do let v ← whole; standAt x.pos; holding [v] (truthy v)) : PT X x (tT Γ F e) := by
 refine L2.PT.imp (vz h he) ?_
 rintro σ H Q ⟨φ, st, ρ, en, rl, af⟩
 refine ⟨φ, st, ρ, en, rl, (jc.bind af).mono fun v H1 ⟨w, st1, φ1, rw1, pt, af1⟩ => ?_⟩
 obtain ⟨k, _, a, b⟩ := af1.tru pt.rl rw1
 rw [hK]
 exact ⟨k, a, b⟩
theorem gQ {e} (h : PT X x (zf t)) (i : ∀ σ H Q, tE Γ F e σ H Q → t σ H Q) (hb : ∀ ρ st w st', aj F Γ.G e ρ st = .ok w st' → ∃ b, w = .d (.bl b)) : PT X x (tT Γ F e) := by
 refine L2.PT.imp h ?_
 rintro σ H Q ⟨φ, st, ρ, en, rl, af⟩
 refine i σ H _ ⟨φ, st, ρ, en, rl, ?_⟩
 unfold lq at af
 cases q : aj F _ e ρ st with
 | ok w st' =>
  rw [q] at af
  obtain ⟨b, rfl⟩ := hb _ _ _ _ q
  intro v H' φ' rw pt
  cases rw
  exact ⟨b, rfl, af H' _ pt⟩
 | _ => rw [q] at af; exact af.elim
theorem wy {st} : lq F G (.and a b) ρ st = (lq F G a ρ st).bind fun c st => if c then lq F G b ρ st else .ok false st := by
 unfold lq
 simp only [aj]
 cases aj F G a ρ st with
 | ok w st' =>
  simp only [ai.bind]
  cases h : aR w _ with
  | none => rfl
  | some c => cases c <;> simp [h]
 | _ => rfl
theorem BX {st} : lq F G (.or a b) ρ st = (lq F G a ρ st).bind fun c st => if c then .ok true st else lq F G b ρ st := by
 unfold lq
 simp only [aj]
 cases aj F G a ρ st with
 | ok w st' =>
  simp only [ai.bind]
  cases h : aR w _ with
  | none => rfl
  | some c => cases c <;> simp [h]
 | _ => rfl
theorem wq {st} : lq F G (.not a) ρ st = (lq F G a ρ st).bind fun c st => .ok (!c) st := by
 unfold lq
 simp only [aj]
 cases aj F G a ρ st with
 | ok w st' =>
  simp only [ai.bind]
  cases h : aR w _ with
  | none => rfl
  | some c => cases c <;> rfl
 | _ => rfl
theorem jc.bindB {Q} (a : jc Γ φ st H (r.bind f) Q) :
 jc Γ φ st H r fun b H1 => ∃ st1 φ1, Pt Γ φ st H φ1 st1 H1 ∧ jc Γ φ1 st1 H1 (f b st1) Q := by
 cases r with
 | ok w st' => exact fun H' φ' pt => ⟨st', φ', pt, jc.re a pt⟩
 | _ => exact a
theorem E9 : ∀ σ H Q, tT Γ F (.and a b) σ H Q → CT (tT Γ F a) (tT Γ F b) σ H Q := by
 rintro σ H Q ⟨φ, st, ρ, en, rl, af⟩
 rw [wy] at af
 refine ⟨φ, st, ρ, en, rl, af.bindB.mono fun c H1 ⟨st1, φ1, pt, af1⟩ => ?_⟩
 cases c with
 | true => exact ⟨φ1, st1, ρ, en.step pt, pt.rl, af1⟩
 | false => exact af1.now pt.rl
theorem JG : ∀ σ H Q, tT Γ F (.or a b) σ H Q → JB (tT Γ F a) (tT Γ F b) σ H Q := by
 rintro σ H Q ⟨φ, st, ρ, en, rl, af⟩
 rw [BX] at af
 refine ⟨φ, st, ρ, en, rl, af.bindB.mono fun c H1 ⟨st1, φ1, pt, af1⟩ => ?_⟩
 cases c with
 | false => exact ⟨φ1, st1, ρ, en.step pt, pt.rl, af1⟩
 | true => exact af1.now pt.rl
theorem Jo : ∀ σ H Q, tT Γ F (.not a) σ H Q → El (tT Γ F a) σ H Q := by
 rintro σ H Q ⟨φ, st, ρ, en, rl, af⟩
 rw [wq] at af
 exact ⟨φ, st, ρ, en, rl, af.bindB.mono fun c H1 ⟨st1, φ1, pt, af1⟩ => af1.now pt.rl⟩
end
section
variable {X : Cx} {a b : Expr} {ta tb : TE} {gj : List Expr} {pos : Pos}
def yW (K : PySem.W.Frag) (ta tb : TE) : TE := fun σ H Q => ta σ H fun x H1 => ∃ c, nU K x H1 c ∧ if c = true then tb σ H1 Q else Q x H1
def Em (K : PySem.W.Frag) (ta tb : TE) : TE := fun σ H Q => ta σ H fun x H1 => ∃ c, nU K x H1 c ∧ if c = true then Q x H1 else tb σ H1 Q
def yP (K : PySem.W.Frag) (ta : TE) : TE := fun σ H Q => ta σ H fun x H1 => ∃ c, nU K x H1 c ∧ Q (.bl (!c)) H1
theorem oF (ha : PE X a ta) (hb : PE X (.BoolOp .And (b :: gj) pos) tb) : PE X (.BoolOp .And (a :: b :: gj) pos) (yW X.K ta tb) := by
 intro pins s σ H Q I h
 refine BoolOp_and (aU (ha _ s σ H _ I h) fun v s1 ⟨x, H1, I1, r1, q1⟩ => ?_)
 obtain ⟨c, t, q1⟩ := q1
 refine aU (kX _ s1 σ H1 x v (fun c' H2 => c' = c ∧ H2 = H1) I1 r1 ⟨c, t, rfl, rfl⟩) fun c' s2 ⟨H2, I2, e1, e2⟩ => ?_
 subst e1 e2
 cases c' with
 | true => exact hb _ s2 σ _ Q I2 q1
 | false => exact ⟨x, _, I2, r1, q1⟩
theorem sJ (ha : PE X a ta) (hb : PE X (.BoolOp .Or (b :: gj) pos) tb) : PE X (.BoolOp .Or (a :: b :: gj) pos) (Em X.K ta tb) := by
 intro pins s σ H Q I h
 refine BoolOp_or (aU (ha _ s σ H _ I h) fun v s1 ⟨x, H1, I1, r1, q1⟩ => ?_)
 obtain ⟨c, t, q1⟩ := q1
 refine aU (kX _ s1 σ H1 x v (fun c' H2 => c' = c ∧ H2 = H1) I1 r1 ⟨c, t, rfl, rfl⟩) fun c' s2 ⟨H2, I2, e1, e2⟩ => ?_
 subst e1 e2
 cases c' with
 | false => exact hb _ s2 σ _ Q I2 q1
 | true => exact ⟨x, _, I2, r1, q1⟩
theorem yD (ha : PE X a ta) : PE X (.UnaryOp .Not a pos) (yP X.K ta) := by
 intro pins s σ H Q I h
 refine UnaryOp_ (aU (ha _ s σ H _ I h) fun v s1 ⟨x, H1, I1, r1, q1⟩ => ?_)
 obtain ⟨c, t, q1⟩ := q1
 refine not_of (aU (kX _ s1 σ H1 x v (fun c' H2 => c' = c ∧ H2 = H1) I1 r1 ⟨c, t, rfl, rfl⟩) fun c' s2 ⟨H2, I2, e1, e2⟩ => ?_)
 subst e1 e2
 exact ⟨.bl _, _, I2, rfl, q1⟩
end
end I
end
section
namespace I
open PySem L2 PySem.Spec PyProof.Rows
section
variable {Γ : Gm} {φ φ1 φ2 : List Addr} {st st1 st2 : ae} {H H1 : Hp}
theorem Pt.len (p : Pt Γ φ st H φ1 st1 H1) (hl : φ.length = st.length) : st.length ≤ φ1.length := by
 cases h : st.length with
 | zero => exact Nat.zero_le _
 | succ n =>
  have e : φ[n]? = some φ[n] := List.getElem?_eq_getElem _
  have := (List.getElem?_eq_some_iff.mp (p.pre n _ e)).1
  omega
theorem ig (hl : φ.length = st.length) (p : Pt Γ φ st H φ1 st1 H1) (r : RW Γ φ1 st1 H1 w v) (h : aO st.length w st1 = .ok t st2) : ∃ φ2, Pt Γ φ st H φ2 st2 H1 ∧ Rp Γ.K (ay φ2 st2) H1 t v := by
 cases w with
 | d u =>
  cases h
  obtain ⟨_, s⟩ := p.rl.cut _
  exact ⟨_, p.cut hl, Rp.step s r⟩
 | ref k =>
  obtain ⟨a, e, rfl⟩ := r
  cases q : st1[k]? with
  | none => simp [aO, q] at h
  | some o =>
   cases o with
   | none => simp [aO, q] at h
   | some xs =>
    simp only [aO, q, ai.ok.injEq] at h
    obtain ⟨rfl, rfl⟩ := h
    obtain ⟨rl2, s2, r2⟩ := p.rl.freeze e q
    have p2 : Pt Γ φ st H _ _ H1 := ⟨rl2, p.stp.trans s2, p.pre⟩
    obtain ⟨_, s⟩ := rl2.cut _
    exact ⟨_, p2.cut hl, Rp.step s r2⟩
theorem vb {w w' : W} {v : V} (hl : φ.length = st.length) (p : Pt Γ φ st H φ1 st1 H1) (r : RW Γ φ1 st1 H1 w v) (h : bZ st.length w st1 = .ok w' st2) : ∃ φ2, Pt Γ φ st H φ2 st2 H1 ∧ RW Γ φ2 st2 H1 w' v := by
 cases w with
 | d u =>
  cases h
  obtain ⟨_, s⟩ := p.rl.cut st.length
  exact ⟨_, p.cut hl, Rp.step s r⟩
 | ref k =>
  obtain ⟨a, e, rfl⟩ := r
  by_cases hk : k < st.length
  · simp only [bZ, if_pos hk, ai.ok.injEq] at h
    obtain ⟨rfl, rfl⟩ := h
    exact ⟨_, p.cut hl, a, by simp_all, rfl⟩
  · cases q : st1[k]? with
    | none => simp [bZ, hk, q] at h
    | some o =>
     cases o with
     | none => simp [bZ, hk, q] at h
     | some xs =>
      simp only [bZ, if_neg hk, q, ai.ok.injEq] at h
      obtain ⟨rfl, rfl⟩ := h
      obtain ⟨rc, s⟩ := p.rl.cut st.length
      obtain ⟨vs, h1, h2⟩ := p.rl.at_ k xs a e q
      have nl : ¬ ay (φ1.take st.length) (st1.take st.length) a := by
       rintro ⟨i, ys, f1, f2⟩
       rw [List.getElem?_take] at f1 f2
       split at f1
       · rename_i hi
         rw [if_pos hi] at f2
         have := p.rl.inj i k a ys xs f1 e f2 q
         omega
       · cases f1
      have la : ay φ1 st1 a := ⟨k, xs, e, q⟩
      have s' : gB (ay φ1 st1) H1 (ay (φ1.take st.length ++ [a]) (st1.take st.length ++ [some xs])) H1 :=
       ⟨fun _ _ _ e => e, fun b z => .inl ((mJ rc.len z).elim jA fun q => by rw [q.1]; exact la)⟩
      have split : ∀ (i : Nat) (b : Addr) (ys : List T), (φ1.take st.length ++ [a])[i]? = some b → (st1.take st.length ++ [some xs])[i]? = some (some ys) → ((φ1.take st.length)[i]? = some b ∧ (st1.take st.length)[i]? = some (some ys)) ∨ (i = (φ1.take st.length).length ∧ b = a ∧ ys = xs) := fun i b ys e1 e2 => by
       have hl := rc.len
       by_cases hi : i < (φ1.take st.length).length
       · rw [List.getElem?_append_left hi] at e1
         rw [List.getElem?_append_left (by omega)] at e2
         exact .inl ⟨e1, e2⟩
       · rw [List.getElem?_append_right (by omega)] at e1
         rw [List.getElem?_append_right (by omega)] at e2
         have z : i - (φ1.take st.length).length = 0 := by
          cases q : i - (φ1.take st.length).length with
          | zero => rfl
          | succ n => rw [q] at e1; simp at e1
         rw [z] at e1
         rw [show i - (st1.take st.length).length = 0 by omega] at e2
         simp at e1 e2
         exact .inr ⟨by omega, e1.symm, e2.symm⟩
      refine ⟨φ1.take st.length ++ [a], ⟨⟨by simp [rc.len], fun i j b ys zs e1 e2 e3 e4 => ?_, fun i ys b e1 e2 => ?_, rc.tab⟩, p.stp.trans s', fun i b f => ?_⟩, a, ?_, rfl⟩
      · rcases split i b ys e1 e3 with ⟨a1, a2⟩ | ⟨a1, a2, a3⟩ <;> rcases split j b zs e2 e4 with ⟨b1, b2⟩ | ⟨b1, b2, b3⟩
        · exact rc.inj i j b ys zs a1 b1 a2 b2
        · subst b2; exact (nl ⟨i, ys, a1, a2⟩).elim
        · subst a2; exact (nl ⟨j, zs, b1, b2⟩).elim
        · omega
      · rcases split i b ys e1 e2 with ⟨a1, a2⟩ | ⟨a1, a2, a3⟩
        · have t1 : φ1[i]? = some b := by rw [List.getElem?_take] at a1; simp_all
          have t2 : st1[i]? = some (some ys) := by rw [List.getElem?_take] at a2; simp_all
          obtain ⟨us, g1, g2⟩ := p.rl.at_ i ys b t1 t2
          exact ⟨us, g1, g2.step s'⟩
        · subst a2 a3
          exact ⟨vs, h1, h2.step s'⟩
      · have hi := (List.getElem?_eq_some_iff.mp f).1
        have hp := p.len hl
        rw [List.getElem?_append_left (by rw [List.length_take]; omega), List.getElem?_take, if_pos (by omega)]
        exact p.pre i b f
      · rw [show (st1.take st.length).length = (φ1.take st.length).length from rc.len.symm, List.getElem?_append_right (Nat.le_refl _), Nat.sub_self]
        rfl
theorem Af.tr {Q} (rl : Rl Γ φ st H) (a : Af Γ φ st H (r.bind fun x st' => bZ st.length x st') Q) : Af Γ φ st H r Q := by
 cases r with
 | ok w st1 =>
  intro v H1 φ1 rw1 pt
  cases h : bZ _ w _ with
  | ok w' st2 =>
   obtain ⟨φ2, p2, r2⟩ := vb rl.len pt rw1 h
   have a : Af Γ φ st H (bZ _ w _) Q := a
   rw [h] at a
   exact a v H1 _ r2 p2
  | _ => have a : Af Γ φ st H (bZ _ w _) Q := a; rw [h] at a; exact a.elim
 | _ => exact a
theorem Af.frz {Q} (rl : Rl Γ φ st H) (a : Af Γ φ st H (r.bind fun x st' => (aO st.length x st').bind fun t st => .ok (.d t) st) Q) : Af Γ φ st H r Q := by
 cases r with
 | ok w st1 =>
  intro v H1 φ1 rw1 pt
  have a : Af Γ φ st H ((aO _ w _).bind fun t st => .ok _ st) Q := a
  cases h : aO _ w _ with
  | ok t st2 =>
   obtain ⟨φ2, p2, r2⟩ := ig rl.len pt rw1 h
   rw [h] at a
   exact a v H1 _ r2 p2
  | _ => rw [h] at a; exact a.elim
 | _ => exact a
def Ke (Γ : Gm) (φ : List Addr) (st : ae) (H : Hp) (r : ai (List W)) (Q : List V → Hp → Prop) : Prop :=
 match r with
 | .ok ws st' => ∀ vs H' φ', sC Γ φ' st' H' ws vs → Pt Γ φ st H φ' st' H' → Q vs H'
 | _ => False
def Kr (Γ : Gm) (φ : List Addr) (st : ae) (H : Hp) (r : ai (List T)) (Q : List V → Hp → Prop) : Prop :=
 match r with
 | .ok ts st' => ∀ vs H' φ', aF Γ.K (ay φ' st') H' ts vs → Pt Γ φ st H φ' st' H' → Q vs H'
 | _ => False
end
def tA (Γ : Gm) (F : FT) (es : List E) : TA := fun σ H Q => ∃ φ st ρ, En Γ φ st H ρ σ ∧ Rl Γ φ st H ∧ Ke Γ φ st H (aW F Γ.G es ρ st) Q
def tD (Γ : Gm) (F : FT) (es : List E) : TA := fun σ H Q => ∃ φ st ρ, En Γ φ st H ρ σ ∧ Rl Γ φ st H ∧ Kr Γ φ st H (dj F Γ.G es ρ st) Q
theorem _root_.L2.PA.imp (h : PA X es t) (i : ∀ σ H Q, u σ H Q → t σ H Q) : PA X es u := fun pos pins s σ H Q I q => h _ _ s σ H Q I (i σ H Q q)
section
variable {Γ : Gm} {F : FT} {X : Cx}
theorem xk : PA X [] (tA Γ F []) := L2.PA.imp kx fun σ H Q ⟨φ, st, ρ, en, rl, af⟩ => af [] H φ rfl (Pt.refl rl)
theorem u3 {e} {es} (h : PE X x (tE Γ F e)) (hs : PA X xs (tA Γ F es)) (hx : starEach (x :: xs) X.env = (false, eval x X.env) :: starEach xs X.env) : PA X (x :: xs) (tA Γ F (e :: es)) := by
 refine L2.PA.imp (dZ h hs hx) ?_
 rintro σ H Q ⟨φ, st, ρ, en, rl, af⟩
 refine ⟨φ, st, ρ, en, rl, ?_⟩
 simp only [aW] at af
 cases h1 : aj F _ e ρ st with
 | ok w st1 =>
  rw [h1] at af
  intro v H1 φ1 rw1 pt
  refine ⟨φ1, st1, ρ, en.step pt, pt.rl, ?_⟩
  simp only [ai.bind] at af
  cases h2 : aW F _ es ρ _ with
  | ok ws st2 =>
   rw [h2] at af
   intro vs H2 φ2 rws pt2
   exact af _ H2 _ ⟨v, vs, rfl, rw1.step pt2, rws⟩ (pt.trans pt2)
  | _ => rw [h2] at af; exact af.elim
 | _ => rw [h1] at af; exact af.elim
theorem wB : PA X [] (tD Γ F []) := L2.PA.imp kx fun σ H Q ⟨φ, st, ρ, en, rl, af⟩ => af [] H φ rfl (Pt.refl rl)
theorem sR {e} {es} (h : PE X x (tE Γ F e)) (hs : PA X xs (tD Γ F es)) (hx : starEach (x :: xs) X.env = (false, eval x X.env) :: starEach xs X.env) : PA X (x :: xs) (tD Γ F (e :: es)) := by
 refine L2.PA.imp (dZ h hs hx) ?_
 rintro σ H Q ⟨φ, st, ρ, en, rl, af⟩
 refine ⟨φ, st, ρ, en, rl, ?_⟩
 simp only [dj] at af
 cases h1 : aj F _ e ρ st with
 | ok w st1 =>
  rw [h1] at af
  intro v H1 φ1 rw1 pt
  simp only [ai.bind] at af
  cases h3 : aO _ w _ with
  | ok t st3 =>
   rw [h3] at af
   obtain ⟨φ3, p3, r3⟩ := ig rl.len pt rw1 h3
   refine ⟨φ3, st3, ρ, en.step p3, p3.rl, ?_⟩
   simp only at af
   cases h2 : dj F _ es ρ _ with
   | ok ws st2 =>
    rw [h2] at af
    intro vs H2 φ2 rws pt2
    exact af _ H2 _ ⟨v, vs, rfl, Rp.step pt2.stp r3, rws⟩ (p3.trans pt2)
   | _ => rw [h2] at af; exact af.elim
  | _ => rw [h3] at af; exact af.elim
 | _ => rw [h1] at af; exact af.elim
theorem AH {pos} (h : PA X xs (tD Γ F es)) : PE X (.Tuple xs k pos) (tE Γ F (.tup es)) := by
 refine L2.PE.imp (At h) ?_
 rintro σ H Q ⟨φ, st, ρ, en, rl, af⟩
 refine ⟨φ, st, ρ, en, rl, ?_⟩
 simp only [aj] at af
 cases h1 : dj F _ es ρ st with
 | ok ts st1 =>
  rw [h1] at af
  intro vs H1 φ1 rs pt
  simp only [ai.bind] at af
  split at af
  · rename_i hz
    exact ⟨by rw [rs.length]; exact Nat.le_trans hz bB, Af.tup (Af.re af pt) pt.rl rs⟩
  · exact af.elim
 | _ => rw [h1] at af; exact af.elim
theorem Bd (h : PA X xs (tD Γ F es)) : PE X (.List xs pos) (tE Γ F (.lst es)) := by
 refine L2.PE.imp (BS h) ?_
 rintro σ H Q ⟨φ, st, ρ, en, rl, af⟩
 refine ⟨φ, st, ρ, en, rl, ?_⟩
 simp only [aj] at af
 cases h1 : dj F _ es ρ st with
 | ok ts st1 =>
  rw [h1] at af
  intro vs H1 φ1 rs pt
  simp only [ai.bind] at af
  split at af
  · rename_i hz
    exact ⟨by rw [rs.length]; exact Nat.le_trans hz bB, Af.lst (Af.re af pt) pt.rl rs⟩
  · exact af.elim
 | _ => rw [h1] at af; exact af.elim
theorem sX {K} {L} {H} {xs} {vs} {i} {t} (r : aF K L H xs vs) (h : db xs i = some t) : ∃ v, db vs i = some v ∧ Rp K L H t v := by
 unfold db at h ⊢
 rw [r.length]
 cases q : rR _ i with
 | none => rw [q] at h; cases h
 | some j => rw [q] at h; exact r.get h
theorem Hm : pA Γ (He Γ.K) eM := by
 intro φ st H x y v u Q rl rx ry af
 unfold eM at af
 cases h1 : look x st with
 | none => rw [h1] at af; exact af.elim
 | some t =>
  cases h2 : look y st with
  | none => rw [h1, h2] at af; cases t <;> exact af.elim
  | some t' =>
   rw [h1, h2] at af
   cases t' with
   | int i =>
    cases t with
    | tup xs =>
     obtain ⟨a, vs, rfl, q1, r1⟩ := rx.tup rl h1
     cases h3 : db xs i with
     | none => simp only [h3] at af; exact af.elim
     | some t =>
      simp only [h3] at af
      obtain ⟨v, e, r⟩ := sX r1 h3
      exact .inr (.inl ⟨a, vs, i, v, rfl, ry.int rl h2, q1, e, af.now rl r⟩)
    | lst xs =>
     obtain ⟨a, vs, rfl, q1, r1⟩ := rx.lst rl h1
     cases h3 : db xs i with
     | none => simp only [h3] at af; exact af.elim
     | some t =>
      simp only [h3] at af
      obtain ⟨v, e, r⟩ := sX r1 h3
      exact .inl ⟨a, vs, i, v, rfl, ry.int rl h2, q1, e, af.now rl r⟩
    | str z =>
     simp only at af
     split at af
     · rename_i hz
       cases h3 : db z.cps.toList i with
       | none => simp only [h3] at af; exact af.elim
       | some c =>
        simp only [h3] at af
        exact .inr (.inr ⟨z, i, c, rx.str rl h1, ry.int rl h2, Nat.le_trans hz bB, h3, af.now rl rfl⟩)
     · exact af.elim
    | _ => exact af.elim
   | _ => cases t <;> exact af.elim
theorem BG {a b} {pos} (hK : X.K = Γ.K) (ha : PE X x (tE Γ F a)) (hb : PE X y (tE Γ F b)) (hs : jY y) : PE X (.Subscript x y pos) (tE Γ F (.ix a b)) := by
 have r : vF X (He Γ.K) := by rw [← hK]; exact AM
 exact L2.PE.imp (D8 r ha hb hs) (GD (fun _ _ => rfl) Hm)
theorem _root_.L2.aF.cut {K} {L} {H} {xs} {vs} (r : aF K L H xs vs) (lo hi : Option _) : aF K L H (gE xs lo hi) (qP vs lo hi) := by
 unfold gE qP
 rw [r.length]
 exact (r.drop _).take _
def Dv (K : PySem.W.Frag) : V → Option Int → Option Int → Hp → VK → Prop := fun x lo hi H Q => DW K x lo hi H Q ∨ Fz K x lo hi H Q ∨ F5 x lo hi H Q
theorem Jp {st} {H} {x} {v} {lo hi} {Q} (rl : Rl Γ φ st H) (rx : RW Γ φ st H x v) (af : Af Γ φ st H (xD x lo hi st) Q) : Dv Γ.K v lo hi H Q := by
 unfold xD at af
 cases h1 : look x st with
 | none => rw [h1] at af; exact af.elim
 | some t =>
  rw [h1] at af
  cases t with
  | tup xs =>
   simp only at af
   split at af
   · exact af.elim
   · rename_i hn
     obtain ⟨a, vs, rfl, q1, r1⟩ := rx.tup rl h1
     exact .inl ⟨a, vs, rfl, q1, by rw [r1.length]; exact hn, af.tup rl (r1.cut lo hi)⟩
  | lst xs =>
   obtain ⟨a, vs, rfl, q1, r1⟩ := rx.lst rl h1
   exact .inr (.inl ⟨a, vs, rfl, q1, af.lst rl (r1.cut lo hi)⟩)
  | str z =>
   simp only at af
   split at af
   · rename_i hz
     exact .inr (.inr ⟨z, rx.str rl h1, Nat.le_trans hz bB, af.now rl rfl⟩)
   · exact af.elim
  | _ => exact af.elim
def Ko (Γ : Gm) (φ : List Addr) (st : ae) (H : Hp) (r : ai (Option Int)) (Q : Option Int → Hp → Prop) : Prop :=
 match r with
 | .ok o st' => ∀ H' φ', Pt Γ φ st H φ' st' H' → Q o H'
 | _ => False
def tO (Γ : Gm) (F : FT) (e : Option E) : TO := fun σ H Q => ∃ φ st ρ, En Γ φ st H ρ σ ∧ Rl Γ φ st H ∧ Ko Γ φ st H (vK F Γ.G e ρ st) Q
theorem uk : PO X none (tO Γ F none) := fun pins s σ H Q I ⟨φ, st, ρ, en, rl, af⟩ => yq _ s σ H Q I (af H φ (Pt.refl rl))
theorem uQ (h : PE X x (tE Γ F e)) : PO X (some x) (tO Γ F (some e)) := fun pins s σ H Q I ⟨φ, st, ρ, en, rl, af⟩ => xq h _ s σ H Q I (by
 refine ⟨φ, st, ρ, en, rl, ?_⟩
 simp only [vK] at af
 cases h1 : aj F _ e ρ st with
 | ok w st1 =>
  rw [h1] at af
  intro v H1 φ1 rw1 pt
  simp only [ai.bind] at af
  cases h2 : look w st1 with
  | none => simp only [h2] at af; exact af.elim
  | some t =>
   simp only [h2] at af
   cases t with
   | int i => exact ⟨i, rw1.int pt.rl h2, af H1 _ pt⟩
   | _ => exact af.elim
 | exc _ _ _ => rw [h1] at af; exact af.elim
 | bad => rw [h1] at af; exact af.elim)
theorem Bc {lo hi} {a} {l h} {pos p2} (hK : X.K = Γ.K) (ha : PE X x (tE Γ F a)) (hl : PO X lo (tO Γ F l)) (hh : PO X hi (tO Γ F h)) : PE X (.Subscript x (.Slice lo hi none p2) pos) (tE Γ F (.sl a l h)) := by
 have r : wN X (Dv Γ.K) := by rw [← hK]; exact AU.or (vR.or A7)
 refine L2.PE.imp (u7 r ha hl hh) ?_
 rintro σ H Q ⟨φ, st, ρ, en, rl, af⟩
 refine ⟨φ, st, ρ, en, rl, af.bind.mono fun v H1 ⟨w, st1, φ1, rw1, pt, af1⟩ => ⟨φ1, st1, ρ, en.step pt, pt.rl, ?_⟩⟩
 cases h1 : vK F _ l ρ _ with
 | ok o st2 =>
  rw [h1] at af1
  intro H2 φ2 pt2
  have af2 := Af.re af1 pt2
  simp only [ai.bind] at af2
  refine ⟨φ2, st2, ρ, (en.step pt).step pt2, pt2.rl, ?_⟩
  cases h2 : vK F _ h ρ _ with
  | ok o' st3 =>
   rw [h2] at af2
   intro H3 φ3 pt3
   exact Jp pt3.rl ((rw1.step pt2).step pt3) (Af.re af2 pt3)
  | _ => rw [h2] at af2; exact af2.elim
 | _ => rw [h1] at af1; exact af1.elim
def rQ (Γ : Gm) (F : FT) (f n : Nat) : Sp := fun vs H Q _ => ∃ φ st ws, Rl Γ φ st H ∧ sC Γ φ st H ws vs ∧ ws.length = n ∧ Af Γ φ st H (F f ws st) Q
theorem mE {f n} {es} (hn : es.length = n) (hF : True) : ∀ σ H Q, tE Γ F (.call f es) σ H Q → pq (rQ Γ F f n) [] E0 (tA Γ F es) σ H Q := by
 rintro σ H Q ⟨φ, st, ρ, en, rl, af⟩
 refine ⟨φ, st, ρ, en, rl, ?_⟩
 simp only [aj] at af
 cases h1 : aW F _ es ρ st with
 | ok ws st1 =>
  rw [h1] at af
  intro vs H1 φ1 rws pt
  have hl : ∀ (es : List E) (ρ : aD) (st st1 : ae) (ws : List W), aW F Γ.G es ρ st = .ok ws st1 → ws.length = es.length := by
   intro es
   induction es with
   | nil => intro ρ st st1 ws h; cases h; rfl
   | cons e es ih =>
    intro ρ st st1 ws h
    simp only [aW] at h
    cases h1 : aj F _ e ρ st with
    | ok w st2 =>
     rw [h1] at h
     simp only [ai.bind] at h
     cases h2 : aW F _ es ρ _ with
     | ok ws' st3 => rw [h2] at h; cases h; rw [List.length_cons, List.length_cons, ih _ _ _ _ h2]
     | _ => rw [h2] at h; cases h
    | _ => rw [h1] at h; cases h
  rw [List.append_nil]
  exact ⟨φ1, st1, ws, pt.rl, rws, by rw [hl _ _ _ _ _ h1, hn], Af.re af pt⟩
 | _ => rw [h1] at af; exact af.elim
end
end I
end
section
namespace I
open PySem L2 PySem.Spec PyProof.Rows
def tG (Γ : Gm) (t : Tg) : TG := fun v σ H Q => ∃ φ st ρ w ρ', En Γ φ st H ρ σ ∧ Rl Γ φ st H ∧ RW Γ φ st H w v ∧ bg t w ρ = some ρ' ∧ ∀ σ', En Γ φ st H ρ' σ' → Q σ' H
theorem _root_.L2.PG.imp (h : PG X e t) (i : ∀ v σ H Q, u v σ H Q → t v σ H Q) : PG X e u := fun pins s σ H v w Q I r q => h _ s σ H v w Q I r (i v σ H Q q)
section
variable {Γ : Gm} {X : Cx}
theorem CS (hN : X.N.Nodup) (hi : X.N[i]? = some x) (hx : Loc X.env.scope x) (hf : X.fn x = true ∨ X.env.scope.names.lookup x = some .local) : PG X (.Name x pos) (tG Γ (.nm i)) := by
 refine L2.PG.imp (gI hN hi hx hf) ?_
 rintro v σ H Q ⟨φ, st, ρ, w, ρ', en, rl, rw1, hb, q⟩
 obtain ⟨_, rfl⟩ := aH hb
 exact q _ (en.set rw1)
def kK : List Nat → C5
 | [] => Dp
 | i :: is => y8 (mQ i) (kK is)
def mR (X : Cx) : List Nat → List Expr → Prop
 | [], [] => True
 | i :: is, .Name x _ :: es => (X.N[i]? = some x ∧ Loc X.env.scope x ∧ (X.fn x = true ∨ X.env.scope.names.lookup x = some .local)) ∧ mR X is es
 | _, _ => False
theorem ic (hN : X.N.Nodup) : ∀ {is} {es}, mR X is es → C4 X es (kK is) ∧ (assignEach es X.env).length = is.length ∧ (assignEach es X.env).findIdx? (·.1) = none
 | [], [], _ => ⟨xB, rfl, rfl⟩
 | [], _ :: _, h => h.elim
 | _ :: _, [], h => h.elim
 | i :: is, e :: es, h => by
  cases e <;> first | exact h.elim | skip
  obtain ⟨a, b, c⟩ := ic hN h.2
  refine ⟨vd (gI hN h.1.1 h.1.2.1 h.1.2.2) a rfl, ?_, ?_⟩
  · show (assignEach es _).length + 1 = is.length + 1
    rw [b]
  · show List.findIdx? _ ((false, assign _ _) :: assignEach es _) = none
    grind
theorem jH {st} {H} {Q} : ∀ {is} {xs} {vs} {ρ} {σ}, is.length = xs.length → aF Γ.K (ay φ st) H xs vs → En Γ φ st H ρ σ →
 (∀ σ', En Γ φ st H ((is.zip xs).foldl (fun ρ p => ρ.set p.1 (some (.d p.2))) ρ) σ' → Q σ' H) → kK is vs σ H Q
 | [], [], vs, ρ, σ, _, r, en, q => ⟨r, q σ en⟩
 | i :: is, x :: xs, vs, ρ, σ, hl, r, en, q => by
  obtain ⟨v, rs, rfl, r1, r2⟩ := r
  refine ⟨v, rs, rfl, ?_⟩
  exact jH (by simpa using hl) r2 (en.set (w := .d x) r1) q
 | [], _ :: _, _, _, _, hl, _, _, _ => by simp at hl
 | _ :: _, [], _, _, _, hl, _, _, _ => by simp at hl
theorem F8 {pos} (hK : X.K = Γ.K) (hc : X.calm = true) (hN : X.N.Nodup) (h : mR X is es) : PG X (.Tuple es k pos) (tG Γ (.tp is)) := by
 obtain ⟨a, b, c⟩ := ic hN h
 refine L2.PG.imp (pN hK hc a b c) ?_
 rintro v σ H Q ⟨φ, st, ρ, w, ρ', en, rl, rw1, hb, q⟩
 cases w with
 | ref k => cases hb
 | d t =>
  cases t with
  | tup xs =>
   obtain ⟨⟨h1, h2⟩, rfl⟩ := aH hb
   obtain ⟨p, vs, rfl, h3, h4⟩ := rw1
   exact ⟨p, vs, rfl, h3.sq, by rw [h4.length, h1], jH h1 h4 en q⟩
  | _ => cases hb
end
def Wk (Γ : Gm) (J : L2.It) (xs : List T) (gs : List (Nat × List T)) (φ0 : List Addr) (st0 : ae) (H0 : Hp) : Prop :=
 ∀ φ st H, Pt Γ φ0 st0 H0 φ st H → dv gs st = true → (∀ (i : Nat) t, xs[i]? = some t → J.go i H ∧ ∀ v H', J.yld i H v H' → Pt Γ φ st H φ st H' ∧ Rp Γ.K (ay φ st) H' t v) ∧ J.stop xs.length H
mutual
theorem yg : ∀ {a b}, BB a b = true → a = b
 | .non, .non, _ => rfl
 | .bl a, .bl b, h => by rw [eq_of_beq (h)]
 | .int a, .int b, h => by rw [eq_of_beq (h)]
 | .str a, .str b, h => by rw [eq_of_beq (show (a == b) = true from h)]
 | .tup a, .tup b, h => by rw [eQ h]
 | .lst a, .lst b, h => by rw [eQ h]
 | .ins a, .ins b, h => by rw [of_decide_eq_true (h)]
 | .non, .bl _, h => by cases h
 | .non, .int _, h => by cases h
 | .non, .str _, h => by cases h
 | .non, .tup _, h => by cases h
 | .non, .lst _, h => by cases h
 | .bl _, .non, h => by cases h
 | .bl _, .int _, h => by cases h
 | .bl _, .str _, h => by cases h
 | .bl _, .tup _, h => by cases h
 | .bl _, .lst _, h => by cases h
 | .int _, .non, h => by cases h
 | .int _, .bl _, h => by cases h
 | .int _, .str _, h => by cases h
 | .int _, .tup _, h => by cases h
 | .int _, .lst _, h => by cases h
 | .str _, .non, h => by cases h
 | .str _, .bl _, h => by cases h
 | .str _, .int _, h => by cases h
 | .str _, .tup _, h => by cases h
 | .str _, .lst _, h => by cases h
 | .tup _, .non, h => by cases h
 | .tup _, .bl _, h => by cases h
 | .tup _, .int _, h => by cases h
 | .tup _, .str _, h => by cases h
 | .tup _, .lst _, h => by cases h
 | .lst _, .non, h => by cases h
 | .lst _, .bl _, h => by cases h
 | .lst _, .int _, h => by cases h
 | .lst _, .str _, h => by cases h
 | .lst _, .tup _, h => by cases h
 | .non, .ins _, h => by cases h
 | .ins _, .non, h => by cases h
 | .bl _, .ins _, h => by cases h
 | .ins _, .bl _, h => by cases h
 | .int _, .ins _, h => by cases h
 | .ins _, .int _, h => by cases h
 | .str _, .ins _, h => by cases h
 | .ins _, .str _, h => by cases h
 | .tup _, .ins _, h => by cases h
 | .ins _, .tup _, h => by cases h
 | .lst _, .ins _, h => by cases h
 | .ins _, .lst _, h => by cases h
theorem eQ : ∀ {a b}, gw a b = true → a = b
 | [], [], _ => rfl
 | x :: xs, y :: ys, h => by
  have h := Bool.and_eq_true_iff.mp h
  rw [yg h.1, eQ h.2]
 | [], _ :: _, h => by cases h
 | _ :: _, [], h => by cases h
end
mutual
theorem qL : ∀ t : T, BB t t = true
 | .non => rfl
 | .bl b => beq_self_eq_true b
 | .int b => beq_self_eq_true b
 | .str b => beq_self_eq_true b
 | .tup xs => ck xs
 | .lst xs => ck xs
 | .ins q => decide_eq_true rfl
theorem ck : ∀ ts : List T, gw ts ts = true
 | [] => rfl
 | t :: ts => Bool.and_eq_true_iff.mpr ⟨qL t, ck ts⟩
end
theorem xv {st} (h : dv gs st = true) {k} {xs} (hm : (k, xs) ∈ gs) : st[k]? = some (some xs) := by
 have := List.all_eq_true.mp h _ hm
 split at this
 · rename_i ys e
   rw [e, eQ this]
 · cases this
inductive Sq (Γ : Gm) (φ : List Addr) (st : ae) (H : Hp) : W → V → List T → List (Nat × List T) → Prop
 | tup {xs a vs} (h : TupAt Γ.K (ay φ st) H a vs) (r : aF Γ.K (ay φ st) H xs vs) : Sq Γ φ st H (.d (.tup xs)) (.ref a) xs []
 | lst {xs a vs} (h : LstAt Γ.K (ay φ st) H a vs) (r : aF Γ.K (ay φ st) H xs vs) : Sq Γ φ st H (.d (.lst xs)) (.ref a) xs []
 | ref {k : Nat} {xs a} (h : φ[k]? = some a) (e : st[k]? = some (some xs)) : Sq Γ φ st H (.ref k) (.ref a) xs [(k, xs)]
section
variable {Γ : Gm} {φ φ1 : List Addr} {st st1 : ae} {H H1 : Hp}
theorem lD (rl : Rl Γ φ st H) (r : RW Γ φ st H w v) (h : cD w st = some p) : Sq Γ φ st H w v p.1 p.2 := by
 cases w with
 | d t =>
  cases t with
  | tup xs => cases h; obtain ⟨a, vs, rfl, h1, h2⟩ := r; exact .tup h1 h2
  | lst xs => cases h; obtain ⟨a, vs, rfl, h1, h2⟩ := r; exact .lst h1 h2
  | _ => cases h
 | ref k =>
  obtain ⟨a, e, rfl⟩ := r
  cases q : st[k]? with
  | none => simp [cD, q] at h
  | some o =>
   cases o with
   | none => simp [cD, q] at h
   | some xs =>
    simp only [cD, q, Option.some.injEq] at h
    subst h
    exact .ref e q
theorem Sq.now {gs} (q : Sq Γ φ st H w (.ref a) xs gs) (p : Pt Γ φ st H φ1 st1 H1) (hs : dv gs st1 = true) :
 ∃ vs, (if aT w then et Γ.K H1 a vs else cO Γ.K H1 a vs) ∧ aF Γ.K (ay φ1 st1) H1 xs vs := by
 cases q with
 | tup h r => exact ⟨_, (h.step p.stp).sq, r.step p.stp⟩
 | lst h r => exact ⟨_, (h.step p.stp).sq, r.step p.stp⟩
 | ref h e =>
  obtain ⟨vs, h1, h2⟩ := p.rl.at_ _ _ a (p.pre _ _ h) (xv hs (List.mem_singleton.mpr rfl))
  exact ⟨vs, cO.of h1, h2⟩
end
theorem bJ {α β : Type} {f : α → β} {xs : List α} {i : Nat} {b} (h : (xs.map f)[i]? = some b) : ∃ a, xs[i]? = some a ∧ f a = b := by simp_all
section
variable {Γ : Gm} {φ : List Addr} {st : ae} {H : Hp}
theorem pH {lo} {n i} {t} (h : (rng lo n)[i]? = some t) : i < n ∧ t = .int (lo + i) := by
 obtain ⟨a, h1, rfl⟩ := bJ h
 obtain ⟨h2, h3⟩ := List.getElem?_eq_some_iff.mp h1
 rw [List.length_range] at h2
 simp_all
theorem mG (lo : Int) (n : Nat) : Wk Γ (DQ lo n) (rng lo n) [] φ st H := fun φ1 st1 H1 p _ => by
 refine ⟨fun i t h => ?_, ?_⟩
 · obtain ⟨h1, rfl⟩ := pH h
   refine ⟨h1, fun v H' y => ?_⟩
   obtain ⟨rfl, rfl⟩ := y
   exact ⟨Pt.refl p.rl, rfl⟩
 · show n ≤ (rng lo n).length
   simp [rng]
end
theorem ve {st} {H} {w} {a} {xs} {gs} (q : Sq Γ φ st H w (.ref a) xs gs) : Wk Γ (if aT w then HC Γ.K a else Ix Γ.K a) xs gs φ st H := fun φ1 st1 H1 p hs => by
 obtain ⟨vs, h1, h2⟩ := q.now p hs
 cases hw : aT w with
 | true =>
  rw [hw] at h1
  refine ⟨fun i t h => ?_, ⟨vs, h1, by rw [h2.length]; exact Nat.le_refl _⟩⟩
  obtain ⟨v, e, r⟩ := h2.get h
  refine ⟨⟨vs, v, h1, e⟩, fun u H' y => ?_⟩
  obtain ⟨rfl, y⟩ := y
  have := y vs h1
  rw [e] at this; cases this
  exact ⟨Pt.refl p.rl, r⟩
 | false =>
  rw [hw] at h1
  refine ⟨fun i t h => ?_, ⟨vs, h1, by rw [h2.length]; exact Nat.le_refl _⟩⟩
  obtain ⟨v, e, r⟩ := h2.get h
  refine ⟨⟨vs, v, h1, e⟩, fun u H' y => ?_⟩
  obtain ⟨rfl, y⟩ := y
  have := y vs h1
  rw [e] at this; cases this
  exact ⟨Pt.refl p.rl, r⟩
theorem pX {st} {H} {x y} {v u} {p} (rl : Rl Γ φ st H) (hp : H p = none) (r1 : Rp Γ.K (ay φ st) H x v) (r2 : Rp Γ.K (ay φ st) H y u) :
 Pt Γ φ st H φ st (bq H p (.tup [v, u])) ∧ Rp Γ.K (ay φ st) (bq H p (.tup [v, u])) (.tup [x, y]) (.ref p) := by
 have b := rl.beside (o := .tup [v, u]) hp
 refine ⟨b, p, _, rfl, .inl ⟨.inl bD, ?_⟩, v, [u], rfl, Rp.step b.stp r1, u, [], rfl, Rp.step b.stp r2, rfl⟩
 rintro ⟨k, ys, e1, e2⟩
 obtain ⟨_, h1, _⟩ := rl.at_ k ys p e1 e2
 rw [hp] at h1; cases h1
theorem wU {Γ : Gm} {φ : List Addr} {st : ae} {H : Hp} {w : W} {a : Addr} {xs : List T} {gs : List (Nat × List T)} (q : Sq Γ φ st H w (.ref a) xs gs) : Wk Γ (Ht fun H xs => sx Γ.K (aT w) H a xs) (xs.zipIdx.map fun q => .tup [.int q.2, q.1]) gs φ st H := fun φ1 st1 H1 p hs => by
 obtain ⟨vs, h1, h2⟩ := q.now p hs
 refine ⟨fun i t h => ?_, ⟨vs, h1, by rw [h2.length]; simp⟩⟩
 obtain ⟨⟨x, j⟩, e1, rfl⟩ := bJ h
 rw [List.getElem?_zipIdx] at e1
 cases e2 : xs[i]? with
 | none => rw [e2] at e1; cases e1
 | some y =>
  rw [e2] at e1
  simp only [Option.map_some, Option.some.injEq, Prod.mk.injEq, Nat.zero_add] at e1
  obtain ⟨rfl, rfl⟩ := e1
  obtain ⟨v, e, r⟩ := h2.get e2
  refine ⟨⟨vs, v, h1, e⟩, fun u H' y => ?_⟩
  obtain ⟨b, v', hb, rfl, hv, rfl⟩ := y
  have := hv vs h1
  rw [e] at this; cases this
  exact pX p.rl hb rfl r
theorem Bb {Γ : Gm} {φ : List Addr} {st : ae} {H : Hp} {w w' : W} {a b : Addr} {xs ys : List T} {gs gs' : List (Nat × List T)} (q : Sq Γ φ st H w (.ref a) xs gs) (q' : Sq Γ φ st H w' (.ref b) ys gs') (hw : aT w = aT w') :
 Wk Γ (Hz (fun H xs => sx Γ.K (aT w) H a xs) (fun H ys => sx Γ.K (aT w) H b ys)) ((xs.zip ys).map fun z => .tup [z.1, z.2]) (gs ++ gs') φ st H := fun φ1 st1 H1 p hs => by
 have hs1 : dv gs st1 = true := by unfold dv at hs ⊢; rw [List.all_append, Bool.and_eq_true] at hs; exact hs.1
 have hs2 : dv gs' st1 = true := by unfold dv at hs ⊢; rw [List.all_append, Bool.and_eq_true] at hs; exact hs.2
 obtain ⟨vs, h1, h2⟩ := q.now p hs1
 obtain ⟨us, g1, g2⟩ := q'.now p hs2
 rw [← hw] at g1
 refine ⟨fun i t h => ?_, ⟨vs, us, h1, g1, by rw [h2.length, g2.length, List.length_map, List.length_zip]; omega⟩⟩
 obtain ⟨⟨x, y⟩, e1, rfl⟩ := bJ h
 rw [List.getElem?_zip_eq_some] at e1
 obtain ⟨e1, e2⟩ := e1
 obtain ⟨v, e3, r⟩ := h2.get e1
 obtain ⟨u, e4, r'⟩ := g2.get e2
 refine ⟨⟨vs, v, us, u, h1, e3, g1, e4⟩, fun z H' y => ?_⟩
 obtain ⟨pp, v', u', hb, rfl, hv, hu, rfl⟩ := y
 have z1 := hv vs h1
 have z2 := hu us g1
 rw [e3] at z1; cases z1
 rw [e4] at z2; cases z2
 exact pX p.rl hb r r'
end I
end
section
namespace I
open PySem L2 PySem.Spec PyProof.Rows
def yy (Γ : Gm) (φ : List Addr) (st : ae) (H : Hp) (k : Ik) (r : ai (List W)) (R : L2.It → Hp → Prop) : Prop :=
 match r with
 | .ok ws st' => match ag k ws st' with
  | some p => ∀ J H' φ', Pt Γ φ st H φ' st' H' → Wk Γ J p.1 p.2 φ' st' H' → R J H'
  | none => False
 | _ => False
def tI (Γ : Gm) (F : FT) (k : Ik) (src : List E) : TI := fun σ H R => ∃ φ st ρ, En Γ φ st H ρ σ ∧ Rl Γ φ st H ∧ yy Γ φ st H k (aW F Γ.G src ρ st) R
section
variable {Γ : Gm} {F : FT} {X : Cx}
theorem t5 {st} {G} : aW F G [e] ρ st = (aj F G e ρ st).bind fun w st => .ok [w] st := rfl
theorem iG {st} {H} {w} {v} {xs} {gs} (q : Sq Γ φ st H w v xs gs) : ∃ a, v = .ref a := by
 cases q <;> exact ⟨_, rfl⟩
theorem Sq.isB {φ : List Addr} {st : ae} {H : Hp} {w : W} {a : Addr} {xs : List T} {gs : List (Nat × List T)} (rl : Rl Γ φ st H) (q : Sq Γ φ st H w (.ref a) xs gs) : ∃ vs, sx Γ.K (aT w) H a vs := by
 cases q with
 | tup h r => exact ⟨_, h.sq⟩
 | lst h r => exact ⟨_, h.sq⟩
 | ref h e => obtain ⟨vs, z, _⟩ := rl.at_ _ _ a h e; exact ⟨vs, cO.of z⟩
theorem Eb {tg x : Expr} {e : E} (hK : X.K = Γ.K) (h : PE X x (tE Γ F e)) : PI X tg x (tI Γ F .seq [e]) := by
 rintro pins s σ H R I ⟨φ, st, ρ, en, rl, af⟩
 rw [t5] at af
 cases h1 : aj F Γ.G e ρ st with
 | ok w st1 =>
  rw [h1] at af
  have af : yy Γ φ st H .seq (.ok [w] st1) R := af
  unfold yy at af
  simp only at af
  cases h2 : ag .seq [w] st1 with
  | none => rw [h2] at af; exact af.elim
  | some p =>
   rw [h2] at af
   have h3 : cD w st1 = some p := h2
   · cases hw : aT w with
     | true =>
      refine Ci h pins s σ H R I ⟨φ, st, ρ, en, rl, ?_⟩
      rw [h1]
      intro v H1 φ1 rw1 pt
      have q := lD pt.rl rw1 h3
      obtain ⟨a, rfl⟩ := iG q
      have wk := ve q
      have ib := q.isB pt.rl
      rw [hw] at ib
      rw [hw, if_pos rfl, ← hK] at wk
      exact ⟨a, rfl, by rw [hK]; exact ib, af _ H1 φ1 pt wk⟩
     | false =>
      refine vO h pins s σ H R I ⟨φ, st, ρ, en, rl, ?_⟩
      rw [h1]
      intro v H1 φ1 rw1 pt
      have q := lD pt.rl rw1 h3
      obtain ⟨a, rfl⟩ := iG q
      have wk := ve q
      have ib := q.isB pt.rl
      rw [hw] at ib
      rw [hw, if_neg Bool.false_ne_true, ← hK] at wk
      exact ⟨a, rfl, by rw [hK]; exact ib, af _ H1 φ1 pt wk⟩
 | _ => rw [h1] at af; exact af.elim
theorem nW {st} {q} (h : ag .rng1 ws st = some q) : ∃ n : Int, ws = [.d (.int n)] ∧ (-aS ≤ n ∧ n ≤ aS) ∧ q = (rng 0 n.toNat, []) := by
 rcases ws with _ | ⟨w, _ | ⟨u, _ | ⟨_, _⟩⟩⟩ <;> first | (cases h) | skip
 cases w with
 | ref k => cases h
 | d t =>
  cases t with
  | int n => obtain ⟨hn, rfl⟩ := aH h; exact ⟨n, rfl, hn, rfl⟩
  | _ => cases h
theorem A6 {tg x} {e} {p pos} (hg : Gl X "range") (hm : X.mg "range" = none) (ha : PA X [x] (tA Γ F [e])) (hs : starEach [x] X.env = [(false, eval x X.env)]) : PI X tg (.Call (.Name "range" p) [x] [] pos) (tI Γ F .rng1 [e]) := by
 rintro pins s σ H R I ⟨φ, st, ρ, en, rl, af⟩
 refine qw hg hm ha hs _ s σ H R I ⟨φ, st, ρ, en, rl, ?_⟩
 cases h1 : aW F _ _ ρ st with
 | ok ws st1 =>
  rw [h1] at af
  unfold yy at af
  simp only at af
  cases h2 : ag .rng1 ws st1 with
  | none => simp_all
  | some q =>
   rw [h2] at af
   obtain ⟨n, rfl, hn, rfl⟩ := nW h2
   intro vs H1 φ1 rws pt
   obtain ⟨v, r, rfl, rv, rr⟩ := rws
   cases rr
   cases rv
   have hb : aS = 1000000 := rfl
   exact ⟨n, rfl, by omega, by omega, af _ H1 _ pt (mG 0 _)⟩
 | _ => rw [h1] at af; exact af.elim
theorem nZ {ws : List W} {st : ae} {q : List T × List (Nat × List T)} (h : ag .rng2 ws st = some q) : ∃ a b : Int, ws = [.d (.int a), .d (.int b)] ∧ (-(aS : Int) ≤ a ∧ a ≤ (aS : Int) ∧ -(aS : Int) ≤ b ∧ b ≤ (aS : Int)) ∧ q = (rng a (b - a).toNat, []) := by
 rcases ws with _ | ⟨w, _ | ⟨u, _ | ⟨_, _⟩⟩⟩ <;> first | (cases h; done) | skip
 cases w with
 | ref k => cases h
 | d t =>
  cases t with
  | int a =>
   cases u with
   | ref k => cases h
   | d t' =>
    cases t' with
    | int b => obtain ⟨hn, rfl⟩ := aH (show (if _ then some _ else none) = some q from h); exact ⟨a, b, rfl, hn, rfl⟩
    | _ => cases h
  | _ => cases h
theorem Ca {tg x y : Expr} {e e' : E} {p pos : Pos} (hg : Gl X "range") (hm : X.mg "range" = none) (ha : PA X [x, y] (tA Γ F [e, e'])) (hs : starEach [x, y] X.env = [(false, eval x X.env), (false, eval y X.env)]) (hs2 : starEach [y] X.env = [(false, eval y X.env)]) :
 PI X tg (.Call (.Name "range" p) [x, y] [] pos) (tI Γ F .rng2 [e, e']) := by
 rintro pins s σ H R I ⟨φ, st, ρ, en, rl, af⟩
 refine qY hg hm ha hs hs2 pins s σ H R I ⟨φ, st, ρ, en, rl, ?_⟩
 cases h1 : aW F Γ.G [e, e'] ρ st with
 | ok ws st1 =>
  rw [h1] at af
  unfold yy at af
  simp only at af
  cases h2 : ag .rng2 ws st1 with
  | none => rw [h2] at af; exact af.elim
  | some q =>
   rw [h2] at af
   obtain ⟨a, b, rfl, hn, rfl⟩ := nZ h2
   intro vs H1 φ1 rws pt
   obtain ⟨v, r, rfl, rv, v', r', rfl, rv', rr⟩ := rws
   cases (show r' = [] from rr)
   cases (show v = .int a from rv)
   cases (show v' = .int b from rv')
   have hb : (aS : Int) = 1000000 := rfl
   exact ⟨a, b, rfl, ⟨by omega, by omega, by omega, by omega⟩, af _ H1 φ1 pt (mG a (b - a).toNat)⟩
 | _ => rw [h1] at af; exact af.elim
theorem qM : ∀ {ws} {st} {q}, ag .enm ws st = some q → ∃ w p, ws = [w] ∧ cD w st = some p ∧ q = (p.1.zipIdx.map fun q => .tup [.int q.2, q.1], p.2)
 | [], _, _, h => by cases h
 | [_, _], _, _, h => by cases h
 | _ :: _ :: _ :: _, _, _, h => by cases h
 | [w], st, q, h => by
  have h : (cD w st).map _ = some q := h
  cases h1 : cD w st with
  | none => rw [h1] at h; cases h
  | some p => rw [h1] at h; cases h; exact ⟨w, p, rfl, h1, rfl⟩
theorem D1 {elts : List Expr} {x1} {pt0 : Pos} {x : Expr} {e : E} {p pos : Pos} (hK : X.K = Γ.K) (hg : Gl X "enumerate") (hm : X.mg "enumerate" = none) (ha : PA X [x] (tA Γ F [e])) (hs : starEach [x] X.env = [(false, eval x X.env)]) :
 PI X (.Tuple elts x1 pt0) (.Call (.Name "enumerate" p) [x] [] pos) (tI Γ F .enm [e]) := by
 rintro pins s σ H R I ⟨φ, st, ρ, en, rl, af⟩
 cases h1 : aW F Γ.G [e] ρ st with
 | ok ws st1 =>
  rw [h1] at af
  unfold yy at af
  simp only at af
  cases h2 : ag .enm ws st1 with
  | none => rw [h2] at af; exact af.elim
  | some q =>
   rw [h2] at af
   obtain ⟨w, q, rfl, h3, rfl⟩ := qM h2
   refine yx (aT w) hg hm ha hs pins s σ H R I ⟨φ, st, ρ, en, rl, ?_⟩
   rw [h1]
   intro vs H1 φ1 rws pt
   obtain ⟨v, r, rfl, rv, rr⟩ := rws
   cases (show r = [] from rr)
   have sq := lD pt.rl rv h3
   obtain ⟨a, rfl⟩ := iG sq
   rw [hK]
   exact ⟨a, rfl, sq.isB pt.rl, af _ H1 φ1 pt (wU sq)⟩
 | _ => rw [h1] at af; exact af.elim
theorem tP : ∀ {ws} {st} {q}, ag .zp ws st = some q → ∃ w u p p', ws = [w, u] ∧ aT w = aT u ∧ cD w st = some p ∧ cD u st = some p' ∧ q = ((p.1.zip p'.1).map fun z => .tup [z.1, z.2], p.2 ++ p'.2)
 | [], _, _, h => by cases h
 | [_], _, _, h => by cases h
 | _ :: _ :: _ :: _, _, _, h => by cases h
 | [w, u], st, q, h => by
  have h : (match cD w st, cD u st with
   | some p, some q => if aT w = aT u then some _ else none
   | _, _ => none) = some q := h
  cases h1 : cD w st with
  | none => rw [h1] at h; simp at h
  | some p =>
   cases h2 : cD u st with
   | none => simp_all
   | some p' =>
    rw [h1, h2] at h
    obtain ⟨hn, rfl⟩ := aH h
    exact ⟨w, u, p, p', rfl, hn, h1, h2, rfl⟩
theorem Jl {elts : List Expr} {x1} {pt0 : Pos} {x y : Expr} {e e' : E} {p pos : Pos} (hK : X.K = Γ.K) (hg : Gl X "zip") (hm : X.mg "zip" = none) (ha : PA X [x, y] (tA Γ F [e, e'])) (hs : starEach [x, y] X.env = (false, eval x X.env) :: starEach [y] X.env) (hpl : (backTo pos (starEach [y] X.env)).any (·.1) = false) :
 PI X (.Tuple elts x1 pt0) (.Call (.Name "zip" p) [x, y] [] pos) (tI Γ F .zp [e, e']) := by
 rintro pins s σ H R I ⟨φ, st, ρ, en, rl, af⟩
 cases h1 : aW F Γ.G [e, e'] ρ st with
 | ok ws st1 =>
  rw [h1] at af
  unfold yy at af
  simp only at af
  cases h2 : ag .zp ws st1 with
  | none => rw [h2] at af; exact af.elim
  | some q =>
   rw [h2] at af
   obtain ⟨w, u, q, q', rfl, hwu, h3, h4, rfl⟩ := tP h2
   refine Aj (aT w) hg hm ha hs hpl pins s σ H R I ⟨φ, st, ρ, en, rl, ?_⟩
   rw [h1]
   intro vs H1 φ1 rws pt
   obtain ⟨v, r, rfl, rv, v', r', rfl, rv', rr⟩ := rws
   cases (show r' = [] from rr)
   have sq := lD pt.rl rv h3
   have sq' := lD pt.rl rv' h4
   obtain ⟨a, rfl⟩ := iG sq
   obtain ⟨b, rfl⟩ := iG sq'
   rw [hK]
   exact ⟨a, b, rfl, sq.isB pt.rl, hwu ▸ sq'.isB pt.rl, af _ H1 φ1 pt (Bb sq sq' hwu)⟩
 | _ => rw [h1] at af; exact af.elim
end
def fA (Γ : Gm) (φ : List Addr) (st : ae) (H : Hp) (r : ai (Fl × aD)) (D : nN) : Prop :=
 match r with
 | .ok p st' => ∀ σ' H' φ', En Γ φ' st' H' p.2 σ' → Pt Γ φ st H φ' st' H' → (match p.1 with
  | .nx => D.nx σ' H'
  | .bk => D.bk σ' H'
  | .ct => D.ct σ' H'
  | .rt w => ∀ v, RW Γ φ' st' H' w v → D.rt v H')
 | _ => False
def tS (Γ : Gm) (F : FT) (s : S) : TS := fun D σ H => ∃ φ st ρ, En Γ φ st H ρ σ ∧ Rl Γ φ st H ∧ fA Γ φ st H (jk F Γ.G s ρ st) D
def Ay (Γ : Gm) (F : FT) (s : List S) : TS := fun D σ H => ∃ φ st ρ, En Γ φ st H ρ σ ∧ Rl Γ φ st H ∧ fA Γ φ st H (cC F Γ.G s ρ st) D
theorem _root_.L2.PS.imp (h : PS X e t) (i : ∀ D σ H, u D σ H → t D σ H) : PS X e u := fun pins s σ H D I q => h _ s σ H D I (i D σ H q)
theorem _root_.L2.fK.imp (h : fK X e t) (i : ∀ D σ H, u D σ H → t D σ H) : fK X e u := fun pins s σ H D I q => h _ s σ H D I (i D σ H q)
section
variable {Γ : Gm} {φ φ1 : List Addr} {st st1 : ae} {H H1 : Hp} {F : FT} {X : Cx}
theorem fA.re (a : fA Γ φ st H r D) (p : Pt Γ φ st H φ1 st1 H1) : fA Γ φ1 st1 H1 r D := by
 cases r with
 | ok w st' => exact fun σ' H' φ' en pt => a _ H' _ en (p.trans pt)
 | _ => exact a
theorem fA.bind {D} (a : fA Γ φ st H (r.bind f) D) :
 Af Γ φ st H r fun v H1 => ∃ w st1 φ1, RW Γ φ1 st1 H1 w v ∧ Pt Γ φ st H φ1 st1 H1 ∧ fA Γ φ1 st1 H1 (f w st1) D := by
 cases r with
 | ok w st' => exact fun v H' φ' rw pt => ⟨w, st', φ', rw, pt, fA.re a pt⟩
 | _ => exact a
theorem Dg : fK X [] (Ay Γ F []) := L2.fK.imp wa fun D σ H ⟨φ, st, ρ, en, rl, af⟩ => af σ H φ en (Pt.refl rl)
theorem Cm {s} {ss} (h : PS X x (tS Γ F s)) (hs : fK X xs (Ay Γ F ss)) : fK X (x :: xs) (Ay Γ F (s :: ss)) := by
 refine L2.fK.imp (t4 h hs) ?_
 rintro D σ H ⟨φ, st, ρ, en, rl, af⟩
 refine ⟨φ, st, ρ, en, rl, ?_⟩
 simp only [cC] at af
 cases h1 : jk F _ s ρ st with
 | ok p st1 =>
  rw [h1] at af
  obtain ⟨f, ρ'⟩ := p
  intro σ' H' φ' en' pt
  cases f with
  | nx => exact ⟨φ', st1, ρ', en', pt.rl, fA.re af pt⟩
  | bk => exact af _ H' _ en' pt
  | ct => exact af _ H' _ en' pt
  | rt w => exact af _ H' _ en' pt
 | _ => rw [h1] at af; exact af.elim
theorem zr {tg x} {t} {e} {pos} (h : PE X x (tE Γ F e)) (hg : PG X tg (tG Γ t)) (hs : swapsWithSole [tg] x pos.line X.env = pure false) (hw : swappedStores [tg] x X.env = pure none)
 (h1 : (assignEach [tg] X.env).map (·.2) = [assign tg X.env]) : PS X (.Assign [tg] x pos) (tS Γ F (.asg t e)) := by
 refine L2.PS.imp (mX h hg hs hw h1) ?_
 rintro D σ H ⟨φ, st, ρ, en, rl, af⟩
 refine ⟨φ, st, ρ, en, rl, af.bind.mono fun v H1 ⟨w, st1, φ1, rw1, pt, af1⟩ => ?_⟩
 cases hb : bg t w ρ with
 | none => rw [hb] at af1; exact af1.elim
 | some ρ' =>
  rw [hb] at af1
  exact ⟨φ1, st1, ρ, w, ρ', en.step pt, pt.rl, rw1, hb, fun σ' en' => af1 _ H1 _ en' (Pt.refl pt.rl)⟩
theorem IC (h : PE X x (tE Γ F e)) (hs : swapsWith x none pos.line X.env = pure false) : PS X (.Expr x pos) (tS Γ F (.ex e)) := by
 refine L2.PS.imp (yh h hs) ?_
 rintro D σ H ⟨φ, st, ρ, en, rl, af⟩
 simp only [jk] at af
 refine ⟨φ, st, ρ, en, rl, ?_⟩
 cases h1 : aj F _ e ρ st with
 | ok w st1 =>
  rw [h1] at af
  intro v H1 φ1 rw1 pt
  have p2 := pt.cut rl.len
  exact af σ H1 _ (en.step p2) p2
 | _ => rw [h1] at af; exact af.elim
theorem EH (h : PE X x (tE Γ F e)) : PS X (.Return (some x) pos) (tS Γ F (.ret e)) := by
 refine L2.PS.imp (zT h) ?_
 rintro D σ H ⟨φ, st, ρ, en, rl, af⟩
 refine ⟨φ, st, ρ, en, rl, af.bind.mono fun v H1 ⟨w, st1, φ1, rw1, pt, af1⟩ => ?_⟩
 exact af1 σ H1 _ (en.step pt) (Pt.refl pt.rl) v rw1
theorem CM : PS X (.Return none pos) (tS Γ F .retN) := L2.PS.imp wn fun D σ H ⟨φ, st, ρ, en, rl, af⟩ => af σ H φ en (Pt.refl rl) _ rfl
theorem BP : PS X (.Pass pos) (tS Γ F .pass) := L2.PS.imp wm fun D σ H ⟨φ, st, ρ, en, rl, af⟩ => af σ H φ en (Pt.refl rl)
theorem E8 : PS X (.Break pos) (tS Γ F .brk) := L2.PS.imp sy fun D σ H ⟨φ, st, ρ, en, rl, af⟩ => af σ H φ en (Pt.refl rl)
theorem DD : PS X (.Continue pos) (tS Γ F .cnt) := L2.PS.imp mI fun D σ H ⟨φ, st, ρ, en, rl, af⟩ => af σ H φ en (Pt.refl rl)
theorem DH {j} {p pos} : PS X (.Expr (.Constant (.str z) j p) pos) (tS Γ F .pass) := L2.PS.imp Bn fun D σ H ⟨φ, st, ρ, en, rl, af⟩ => af σ H φ en (Pt.refl rl)
theorem G9 {sa sb} {pos} (h : PT X x (tT Γ F c)) (ha : fK X a (Ay Γ F sa)) (hb : fK X b (Ay Γ F sb)) : PS X (.If x a b pos) (tS Γ F (.ifs c sa sb)) := by
 refine L2.PS.imp (EW h ha hb) ?_
 rintro D σ H ⟨φ, st, ρ, en, rl, af⟩
 simp only [jk] at af
 refine ⟨φ, st, ρ, en, rl, ?_⟩
 unfold lq
 cases h1 : aj F _ c ρ st with
 | ok w st1 =>
  rw [h1] at af
  simp only [ai.bind] at af ⊢
  cases h2 : aR w _ with
  | none => simp only [h2] at af; exact af.elim
  | some k =>
   simp only [h2] at af ⊢
   intro H1 φ1 pt
   have p2 := pt.cut rl.len
   cases k with
   | true => exact ⟨_, _, ρ, en.step p2, p2.rl, fA.re af p2⟩
   | false => exact ⟨_, _, ρ, en.step p2, p2.rl, fA.re af p2⟩
 | _ => rw [h1] at af; exact af.elim
theorem Eo {tg it : Expr} {body : List Stmt} {t : Tg} {k : Ik} {src : List E} {sb : List S} {pos : Pos} (hp : PassesOwn (model X.prog X.w) X.A X.env X.xe) (hc : X.calm = true) (hi : PI X tg it (tI Γ F k src)) (hg : PG X tg (tG Γ t)) (hb : fK X body (Ay Γ F sb))
 (hs : ∀ x, foldedSetIterable it X.env x = pure x) : PS X (.For tg it body [] pos) (tS Γ F (.for t k src sb)) := by
 refine L2.PS.imp (Ax hp hc hi hg hb hs) ?_
 rintro D σ H ⟨φ, st, ρ, en, rl, af⟩
 simp only [jk] at af
 refine ⟨φ, st, ρ, en, rl, ?_⟩
 unfold yy
 cases h1 : aW F Γ.G src ρ st with
 | ok ws st1 =>
  rw [h1] at af
  simp only [ai.bind] at af ⊢
  cases h2 : ag k ws st1 with
  | none => simp only [h2] at af; exact af.elim
  | some q =>
   obtain ⟨xs, gs⟩ := q
   simp only [h2] at af ⊢
   intro J H1 φ1 pt wk
   have af := fA.re af pt
   generalize hstep : (fun (x : T) (ρ : aD) (st : ae) => match bg t (.d x) ρ with | some ρ' => cC F Γ.G sb ρ' st | none => (ai.bad : ai (Fl × aD))) = step at af
   refine ⟨fun i m σ H => m = xs.length - i ∧ i ≤ xs.length ∧ ∃ φ st ρ, En Γ φ st H ρ σ ∧ Pt Γ φ1 st1 H1 φ st H ∧ fA Γ φ st H (am gs step (xs.drop i) ρ st) D, ⟨xs.length, by simp, Nat.zero_le _, φ1, st1, ρ, en.step pt, Pt.refl pt.rl, by simpa using af⟩, ?_⟩
   rintro i m σ2 H2 ⟨rfl, hi2, φ2, st2, ρ2, en2, pt2, af2⟩
   by_cases hlt : i < xs.length
   · have ed : xs.drop i = xs[i] :: xs.drop (i + 1) := List.drop_eq_getElem_cons hlt
     rw [ed] at af2
     simp only [am] at af2
     split at af2
     · rename_i hst
       obtain ⟨go, _⟩ := wk φ2 st2 H2 pt2 hst
       obtain ⟨g1, g2⟩ := go i xs[i] (List.getElem?_eq_getElem hlt)
       refine .inr ⟨g1, fun σ' H' => ∃ φ' st' ρ', En Γ φ' st' H' ρ' σ' ∧ Pt Γ φ1 _ H1 _ _ H' ∧ fA Γ _ _ H' _ D, fun σ' H' h' => ⟨_, by omega, rfl, hlt, h'⟩, fun v H3 y => ?_⟩
       obtain ⟨pt3, r3⟩ := g2 v H3 y
       have af3 := fA.re af2 pt3
       rw [← hstep] at af3
       simp only at af3
       cases hbd : bg t _ _ with
       | none => rw [hbd] at af3; exact af3.elim
       | some ρ3 =>
        rw [hbd] at af3
        simp only at af3
        refine ⟨φ2, st2, ρ2, .d _, ρ3, en2.step pt3, pt3.rl, r3, hbd, fun σ3 en3 => ⟨φ2, st2, ρ3, en3, pt3.rl, ?_⟩⟩
        cases h4 : cC F _ sb _ _ with
        | ok p st4 =>
         rw [h4] at af3
         obtain ⟨f, ρ4⟩ := p
         intro σ4 H4 φ4 en4 pt4
         cases f with
         | nx => rw [← hstep]; exact ⟨φ4, st4, ρ4, en4, (pt2.trans pt3).trans pt4, fA.re af3 pt4⟩
         | ct => rw [← hstep]; exact ⟨φ4, st4, ρ4, en4, (pt2.trans pt3).trans pt4, fA.re af3 pt4⟩
         | bk => exact af3 _ H4 _ en4 pt4
         | rt w => exact af3 _ H4 _ en4 pt4
        | _ => rw [h4] at af3; exact af3.elim
     · exact af2.elim
   · have ei : i = xs.length := by omega
     subst ei
     rw [List.drop_length] at af2
     simp only [am] at af2
     split at af2
     · rename_i hst
       obtain ⟨_, stop⟩ := wk _ _ H2 pt2 hst
       exact .inl ⟨stop, af2 _ H2 _ en2 (Pt.refl pt2.rl)⟩
     · exact af2.elim
 | _ => rw [h1] at af; exact af.elim
end
end I
end
section
namespace I
open PySem L2 PySem.Spec PyProof.Rows
section
variable {Γ : Gm} {F : FT} {X : Cx}
theorem HG (hN : X.N[i]? = some x) (hv : yO X.env.scope x) (hd : (x == "__debug__") = false) (hcd : (x == "__classdict__") = false) : PE X (.Name x pos) (tE Γ F (.v i)) := by
 refine L2.PE.imp (ue hN hv hd hcd) ?_
 rintro σ H Q ⟨φ, st, ρ, en, rl, af⟩
 simp only [aj] at af
 cases h : ρ[i]? with
 | none => rw [h] at af; exact af.elim
 | some o =>
  cases o with
  | none => rw [h] at af; exact af.elim
  | some w =>
   rw [h] at af
   obtain ⟨v, e, r⟩ := en.at_ i w h
   exact ⟨v, e, af.now rl r⟩
theorem fj {v} {x} (h : PE X x (tC v)) (r : ∀ φ st H, Rp Γ.K (ay φ st) H t v) : PE X x (tE Γ F (.c t)) :=
 L2.PE.imp h fun σ H Q ⟨φ, st, ρ, en, rl, af⟩ => Af.now af rl (r φ st H)
structure Fq (Γ : Gm) : Prop where
 gl : ∀ (j : Nat) (x : Str), Γ.gn j = some x → ∃ u v t, Γ.mg x = some u ∧ RelV v u ∧ Γ.G[j]? = some t ∧ ∀ L H, Rp Γ.K L H t v
theorem Jq (hG : Fq Γ) {j} {x} {pos} (hm : X.mg = Γ.mg) (hg : Gl X x) (hj : Γ.gn j = some x) (hd : (x == "__debug__") = false) : PE X (.Name x pos) (tE Γ F (.g j)) := by
 obtain ⟨u, v, t, h1, h2, h3, h4⟩ := hG.gl j x hj
 refine L2.PE.imp (oQ hg (by rw [hm]; exact h1) h2 hd) ?_
 rintro σ H Q ⟨φ, st, ρ, en, rl, af⟩
 simp only [aj, h3] at af
 exact af.now rl (h4 _ _)
theorem yY {φ : List Addr} {st : ae} {H : Hp} {w : W} {v : V} (r : RW Γ φ st H w v) : (match (generalizing := false) w with | .d .non => true | _ => false) = decide (v = V.non) ∧ (match (generalizing := false) w with | .d .non => false | _ => true) = !decide (v = V.non) := by
 cases w with
 | ref k => obtain ⟨a, _, rfl⟩ := r; exact ⟨rfl, rfl⟩
 | d t => cases t <;> first | (cases r; exact ⟨rfl, rfl⟩) | (obtain ⟨_, _, rfl, _⟩ := r; exact ⟨rfl, rfl⟩) | (obtain ⟨_, rfl, _⟩ := r; exact ⟨rfl, rfl⟩)
theorem ph {e : E} : ∀ σ H Q, tE Γ F (.isN e) σ H Q → Bg (fun x y H Q => y = .non ∧ Q (.bl (decide (x = .non))) H) (tE Γ F e) (tC .non) σ H Q := by
 rintro σ H Q ⟨φ, st, ρ, en, rl, af⟩
 simp only [aj] at af
 exact ⟨φ, st, ρ, en, rl, af.bind.mono fun v H1 ⟨w, st1, φ1, rw1, pt, af1⟩ => ⟨rfl, af1.now pt.rl (congrArg V.bl (yY rw1).1.symm)⟩⟩
theorem lR {e : E} : ∀ σ H Q, tE Γ F (.notN e) σ H Q → Bg (fun x y H Q => y = .non ∧ Q (.bl (!decide (x = .non))) H) (tE Γ F e) (tC .non) σ H Q := by
 rintro σ H Q ⟨φ, st, ρ, en, rl, af⟩
 simp only [aj] at af
 exact ⟨φ, st, ρ, en, rl, af.bind.mono fun v H1 ⟨w, st1, φ1, rw1, pt, af1⟩ => ⟨rfl, af1.now pt.rl (congrArg V.bl (yY rw1).2.symm)⟩⟩
theorem AD {x : Expr} {e : E} {j : Nat} {p pos : Pos} (h : PE X x (tE Γ F e)) : PE X (.Compare x [.Is] [.Constant .none j p] pos) (tE Γ F (.isN e)) := L2.PE.imp (gS tQ h ie (jT _)) ph
theorem wQ {x : Expr} {e : E} {j : Nat} {p pos : Pos} (h : PE X x (tE Γ F e)) : PE X (.Compare x [.IsNot] [.Constant .none j p] pos) (tE Γ F (.notN e)) := L2.PE.imp (gS oU h ie (jT _)) lR
theorem zG (he : ∀ ρ st, ∃ (e' : E) (f : W → Bool), aj F Γ.G e ρ st = (aj F Γ.G e' ρ st).bind fun x st => .ok (.d (.bl (f x))) st) : ∀ ρ st w st', aj F Γ.G e ρ st = .ok w st' → ∃ b, w = .d (.bl b) := by
 intro ρ st w st' h
 obtain ⟨e', f, he⟩ := he ρ st
 rw [he] at h
 cases h1 : aj F _ e' ρ st with
 | ok w1 st1 => rw [h1] at h; cases h; exact ⟨_, rfl⟩
 | _ => rw [h1] at h; cases h
theorem and_imp : ∀ σ H Q, tE Γ F (.and a b) σ H Q → yW Γ.K (tE Γ F a) (tE Γ F b) σ H Q := by
 rintro σ H Q ⟨φ, st, ρ, en, rl, af⟩
 refine ⟨φ, st, ρ, en, rl, af.bind.mono fun v H1 ⟨w, st1, φ1, rw1, pt, af1⟩ => ?_⟩
 cases h : aR w _ with
 | none => rw [h] at af1; exact af1.elim
 | some k =>
  rw [h] at af1
  refine ⟨k, pZ pt.rl rw1 h, ?_⟩
  cases k with
  | true => exact ⟨φ1, st1, ρ, en.step pt, pt.rl, af1⟩
  | false => exact af1.now pt.rl rw1
theorem or_imp : ∀ σ H Q, tE Γ F (.or a b) σ H Q → Em Γ.K (tE Γ F a) (tE Γ F b) σ H Q := by
 rintro σ H Q ⟨φ, st, ρ, en, rl, af⟩
 refine ⟨φ, st, ρ, en, rl, af.bind.mono fun v H1 ⟨w, st1, φ1, rw1, pt, af1⟩ => ?_⟩
 cases h : aR w _ with
 | none => rw [h] at af1; exact af1.elim
 | some k =>
  rw [h] at af1
  refine ⟨k, pZ pt.rl rw1 h, ?_⟩
  cases k with
  | false => exact ⟨φ1, st1, ρ, en.step pt, pt.rl, af1⟩
  | true => exact af1.now pt.rl rw1
theorem v4 : ∀ σ H Q, tE Γ F (.not a) σ H Q → yP Γ.K (tE Γ F a) σ H Q := by
 rintro σ H Q ⟨φ, st, ρ, en, rl, af⟩
 refine ⟨φ, st, ρ, en, rl, af.bind.mono fun v H1 ⟨w, st1, φ1, rw1, pt, af1⟩ => ?_⟩
 cases h : aR w _ with
 | none => rw [h] at af1; exact af1.elim
 | some k => rw [h] at af1; exact ⟨k, pZ pt.rl rw1 h, af1.now pt.rl rfl⟩
theorem iB {st} {ts} (h : cK (w :: ws) st = some ts) : ∃ t r, look w st = some t ∧ cK ws st = some r ∧ ts = t :: r := by
 have h : (match look w st, cK ws st with | some t, some ts => some _ | _, _ => none) = some ts := h
 cases h1 : look w st with
 | none => rw [h1] at h; cases h
 | some t =>
  cases h2 : cK ws st with
  | none => simp_all
  | some r => simp_all
def ze (Γ : Gm) (r : List V → Hp → VK → Prop) (f : Bf) : Prop := ∀ φ st H ws vs Q, Rl Γ φ st H → sC Γ φ st H ws vs → Af Γ φ st H (fJ f ws st) Q → r vs H Q
theorem hJ (h : ze Γ r f) : ∀ σ H Q, tE Γ F (.bf f es) σ H Q → IP r (tA Γ F es) σ H Q := by
 rintro σ H Q ⟨φ, st, ρ, en, rl, af⟩
 simp only [aj] at af
 refine ⟨φ, st, ρ, en, rl, ?_⟩
 cases h1 : aW F _ es ρ st with
 | ok ws st1 =>
  rw [h1] at af
  intro vs H1 φ1 rws pt
  exact h _ _ H1 ws vs Q pt.rl rws (Af.re af pt)
 | _ => rw [h1] at af; exact af.elim
theorem HD (hl : ∀ t u, rO f t u = none)
 (h : ∀ φ st H w v t u Q, Rl Γ φ st H → RW Γ φ st H w v → look w st = some t → qk f t = some u → Af Γ φ st H (fresh u st) Q → r [v] H Q) : ze Γ r f := by
 intro φ st H ws vs Q rl rws af
 unfold fJ at af
 rcases ws with _ | ⟨w, ws⟩
 · exact af.elim
 cases h1 : cK _ st with
 | none => rw [h1] at af; exact af.elim
 | some ts =>
  rw [h1] at af
  obtain ⟨t, ts, h2, h3, rfl⟩ := iB h1
  rcases ws with _ | ⟨w', ws⟩
  · cases h3
    obtain ⟨v, rs, rfl, rv, rr⟩ := rws
    cases rr
    have af : Af Γ φ st H (match qk f t with | some t => fresh t st | none => .bad) Q := af
    cases h4 : qk f t with
    | none => rw [h4] at af; exact af.elim
    | some u => rw [h4] at af; exact h φ st H w v t u Q rl rv h2 h4 af
  · obtain ⟨t', ts, _, h5, rfl⟩ := iB h3
    rcases ts with _ | ⟨_, _⟩
    · have af : Af Γ φ st H (match rO f t t' with | some t => fresh t st | none => .bad) Q := af
      rw [hl] at af
      exact af.elim
    · exact af.elim
theorem Jy (hl : ∀ t, qk f t = none)
 (h : ∀ φ st H w v t w' v' t' u Q, Rl Γ φ st H → RW Γ φ st H w v → look w st = some t → RW Γ φ st H w' v' → look w' st = some t' → rO f t t' = some u → Af Γ φ st H (fresh u st) Q → r [v, v'] H Q) : ze Γ r f := by
 intro φ st H ws vs Q rl rws af
 unfold fJ at af
 rcases ws with _ | ⟨w, ws⟩
 · exact af.elim
 cases h1 : cK _ st with
 | none => rw [h1] at af; exact af.elim
 | some ts =>
  rw [h1] at af
  obtain ⟨t, ts, h2, h3, rfl⟩ := iB h1
  rcases ws with _ | ⟨w', ws⟩
  · cases h3
    have af : Af Γ φ st H (match qk f t with | some t => fresh t st | none => .bad) Q := af
    rw [hl] at af
    exact af.elim
  · obtain ⟨t', ts, h4, h5, rfl⟩ := iB h3
    rcases ws with _ | ⟨w'', ws⟩
    · cases h5
      obtain ⟨v, rs, rfl, rv, v', rs', rfl, rv', rr⟩ := rws
      cases rr
      have af : Af Γ φ st H (match rO f t t' with | some t => fresh t st | none => .bad) Q := af
      cases h6 : rO f t t' with
      | none => rw [h6] at af; exact af.elim
      | some u => rw [h6] at af; exact h φ st H w v t w' v' t' u Q rl rv h2 rv' h4 h6 af
    · obtain ⟨t'', ts, _, _, rfl⟩ := iB h5
      exact af.elim
def yZ (K : PySem.W.Frag) : List V → Hp → VK → Prop := fun xs H Q => zh K xs H Q ∨ ∃ z, xs = [.str z] ∧ z.length ≤ sizeLine ∧ Q (.int z.length) H
theorem EK (hK : X.K = Γ.K) : bC X (.builtin "len") (yZ Γ.K) := (tV hK).or kU
theorem Dj : ze Γ (yZ Γ.K) .len := HD (fun _ _ => rfl) fun φ st H w v t u Q rl rw1 h1 h2 af => by
 cases t with
 | tup xs =>
  cases h2
  obtain ⟨a, vs, rfl, q1, r1⟩ := rw1.tup rl h1
  refine .inl ⟨a, vs, rfl, .inr q1, ?_⟩
  rw [r1.length]
  exact Af.now af rl rfl
 | lst xs =>
  cases h2
  obtain ⟨a, vs, rfl, q1, r1⟩ := rw1.lst rl h1
  refine .inl ⟨a, vs, rfl, .inl q1, ?_⟩
  rw [r1.length]
  exact Af.now af rl rfl
 | str z =>
  obtain ⟨hz, rfl⟩ := aH h2
  exact .inr ⟨z, by rw [rw1.str rl h1], Nat.le_trans hz bB, Af.now af rl rfl⟩
 | _ => cases h2
theorem w6 : ze Γ (l3 Γ.K) .tuple := HD (fun _ _ => rfl) fun φ st H w v t u Q rl rw1 h1 h2 af => by
 cases t with
 | tup xs =>
  cases h2
  obtain ⟨a, vs, rfl, q1, r1⟩ := rw1.tup rl h1
  refine ⟨a, vs, rfl, .inr ⟨q1, ?_⟩⟩
  rcases rw1.look rl h1 with q | ⟨_, _, _, _, _, e2, _⟩
  · exact Af.now af rl q
  · cases e2
 | lst xs =>
  cases h2
  obtain ⟨a, vs, rfl, q1, r1⟩ := rw1.lst rl h1
  exact ⟨a, vs, rfl, .inl ⟨q1, Af.tup af rl r1⟩⟩
 | _ => cases h2
def yI : List V → Hp → VK → Prop := fun xs H Q => (∃ i, xs = [.int i] ∧ Q (.int i) H) ∨ ∃ k, xs = [.bl k] ∧ Q (.int (if k then 1 else 0)) H
theorem FQ : bC X (.type "int") yI := qi
theorem DP : ze Γ yI .int := HD (fun _ _ => rfl) fun φ st H w v t u Q rl rw1 h1 h2 af => by
 cases t with
 | int i => cases h2; exact .inl ⟨i, by rw [rw1.int rl h1], Af.now af rl rfl⟩
 | bl k => cases h2; exact .inr ⟨k, by rw [rw1.bl rl h1], Af.now af rl rfl⟩
 | _ => cases h2
theorem lx : ∀ {xs} {ns}, cx xs = some ns → xs = ns.map T.int
 | [], ns, h => by cases h; rfl
 | x :: xs, ns, h => by
  cases x with
  | int i =>
   have h : (cx xs).map _ = some ns := h
   cases q : cx xs with
   | none => rw [q] at h; cases h
   | some ms => rw [q] at h; cases h; rw [lx q]; rfl
  | _ => cases h
theorem aF.ints_eq {K} {L} {H} : ∀ {ns : List _} {vs}, aF K L H (ns.map T.int) vs → vs = ns.map V.int
 | [], _, r => r
 | n :: ns, _, r => by
  obtain ⟨v, rs, rfl, r1, r2⟩ := r
  rw [r1, aF.ints_eq r2]; rfl
theorem i3 (y : Int) : ∀ ns, y ∈ iz ns ↔ y ∈ ns
 | [] => Iff.rfl
 | x :: r => by
  have ins : ∀ l, y ∈ insI x l ↔ y = x ∨ y ∈ l := by
   intro l
   induction l with
   | nil => exact List.mem_singleton.trans (by simp)
   | cons z r ih =>
    unfold insI
    split
    · exact List.mem_cons
    · split
      · next h => rw [h]; simp
      · rw [List.mem_cons, ih, List.mem_cons]
        exact ⟨fun h => h.elim (fun e => .inr (.inl e)) fun h => h.elim .inl fun h => .inr (.inr h), fun h => h.elim (fun e => .inr (.inl e)) fun h => h.elim .inl fun h => .inr (.inr h)⟩
  show y ∈ insI x _ ↔ _
  rw [ins, i3 y r, List.mem_cons]
theorem mM (x y : Int) : ∀ l, y ∈ insI x l → y = x ∨ y ∈ l
 | [], h => .inl (List.mem_singleton.mp h)
 | z :: r, h => by
  unfold insI at h
  split at h
  · grind
  · split at h
    · exact .inr h
    · rcases List.mem_cons.mp h with e | h
      · grind
      · exact (mM x y r h).imp_right (List.mem_cons_of_mem _)
theorem jD (x : Int) : ∀ l, l.Pairwise (· < ·) → (insI x l).Pairwise (· < ·)
 | [], _ => List.pairwise_singleton _ _
 | z :: r, h => by
  unfold insI
  have h' := List.pairwise_cons.mp h
  split
  · next q =>
    refine List.pairwise_cons.mpr ⟨fun y hy => ?_, h⟩
    rcases List.mem_cons.mp hy with e | e
    · rw [e]; exact q
    · exact Int.lt_trans q (h'.1 y e)
  · split
    · exact h
    · refine List.pairwise_cons.mpr ⟨fun y hy => ?_, jD x r h'.2⟩
      rcases mM x y r hy with e | e
      · omega
      · exact h'.1 y e
theorem dY : ∀ ns, (iz ns).Pairwise (· < ·)
 | [] => .nil
 | x :: r => jD x _ (dY r)
theorem Dn {a} {p1 p2 q1 q2} (hK : X.K = Γ.K) (hr : X.A.handled = none) (hg1 : Gl X "sorted") (hg2 : Gl X "set") (hm1 : X.mg "sorted" = none) (hm2 : X.mg "set" = none) (hx : starEach [x] X.env = [(false, eval x X.env)]) (h : PE X x (tE Γ F a)) : PE X (.Call (.Name "sorted" p1) [.Call (.Name "set" p2) [x] [] q2] [] q1) (tE Γ F (.ss a)) := by
 refine L2.PE.imp (nj hr hg1 hg2 hm1 hm2 h hx) ?_
 rintro σ H Q ⟨φ, st, ρ, en, rl, af⟩
 refine ⟨φ, st, ρ, en, rl, af.bind.mono fun v H1 hh => ?_⟩
 obtain ⟨w, st1, φ1, rw1, pt, af1⟩ := hh
 unfold GB at af1
 cases h2 : look w _ with
 | none => rw [h2] at af1; exact af1.elim
 | some t =>
  rw [h2] at af1
  cases t with
  | lst xs =>
   have af2 : Af Γ _ _ H1 (match cx xs with | some ns => if ns.length < 63 then fresh _ _ else .bad | none => .bad) Q := af1
   cases h3 : cx xs with
   | none => rw [h3] at af2; exact af2.elim
   | some ns =>
    rw [h3] at af2
    have af3 : Af Γ _ _ H1 (if ns.length < 63 then fresh _ _ else .bad) Q := af2
    by_cases hz : ns.length < 63
    · rw [if_pos hz] at af3
      cases lx h3
      obtain ⟨b, vs, rfl, q, r⟩ := rw1.lst pt.rl h2
      cases aF.ints_eq r
      exact ⟨b, ns, _, rfl, by rw [hK]; exact q, hz, dY ns, fun y => i3 y ns, Af.lst af3 pt.rl (aF.ofInts _)⟩
    · rw [if_neg hz] at af3
      exact af3.elim
  | _ => exact af1.elim
theorem CN : ze Γ (fun xs H Q => ∃ i j, xs = [.int i, .int j] ∧ Q (.int (if j < i then j else i)) H) .min2 := Jy (fun _ => rfl) fun φ st H w v t w' v' t' u Q rl rw1 h1 rw2 h2 h3 af => by
 cases t with
 | int i =>
  cases t' with
  | int j =>
   cases h3
   exact ⟨i, j, by rw [rw1.int rl h1, rw2.int rl h2], Af.now af rl rfl⟩
  | _ => cases h3
 | _ => cases h3
theorem Br : ze Γ (fun xs H Q => ∃ i j, xs = [.int i, .int j] ∧ Q (.int (if j > i then j else i)) H) .max2 := Jy (fun _ => rfl) fun φ st H w v t w' v' t' u Q rl rw1 h1 rw2 h2 h3 af => by
 cases t with
 | int i =>
  cases t' with
  | int j =>
   cases h3
   exact ⟨i, j, by rw [rw1.int rl h1, rw2.int rl h2], Af.now af rl rfl⟩
  | _ => cases h3
 | _ => cases h3
end
end I
end
section
namespace I
open PySem L2 PySem.Spec PyProof.Rows
section
variable {Γ : Gm} {F : FT} {X : Cx}
def GM (Γ : Gm) (r : V → List V → Hp → VK → Prop) (m : Mt) : Prop := ∀ (φ : List Addr) (st : ae) (H : Hp) (k : Nat) (a : Addr) (xs ys ts : List T) (t : T) (vs us : List V) (Q : VK), Rl Γ φ st H → φ[k]? = some a → st[k]? = some (some xs) → H a = some (.lst vs) → aF Γ.K (ay φ st) H xs vs → aF Γ.K (ay φ st) H ts us →
 wI m xs ts = some (ys, t) → Af Γ φ st H (.ok (.d t) (st.set k (some ys))) Q → r (.ref a) us H Q
theorem Af.write {st} {H} {k} {a} {xs ys} {ws} {t} {v} {Q} (af : Af Γ φ st H (.ok (.d t) (st.set k (some ys))) Q) (rl : Rl Γ φ st H) (e1 : φ[k]? = some a) (e2 : st[k]? = some (some xs)) (r : aF Γ.K (ay φ st) H ys ws)
 (rt : Rp Γ.K (ay φ (st.set k (some ys))) (bq H a (.lst ws)) t v) : Q v (bq H a (.lst ws)) := af v _ φ rt (rl.write (vs := []) e1 e2 r)
theorem vt : GM Γ o9 .append := fun φ st H k a xs ys ts t vs us Q rl e1 e2 h r rs hm af => by
 match ts, hm with
 | [x], hm =>
  obtain ⟨hz, e⟩ := aH hm
  cases e
  obtain ⟨u, rr, rfl, ru, rn⟩ := rs
  cases rn
  exact ⟨a, vs, u, rfl, rfl, h, by rw [r.length]; exact Nat.lt_of_lt_of_le hz bB, af.write rl e1 e2 (r.append (.one ru)) rfl⟩
 | [], hm => cases hm
 | _ :: _ :: _, hm => cases hm
theorem rN : GM Γ lu .reverse := fun φ st H k a xs ys ts t vs us Q rl e1 e2 h r rs hm af => by
 match ts, hm with
 | [], hm =>
  cases hm
  cases rs
  exact ⟨a, vs, rfl, rfl, h, af.write rl e1 e2 r.reverse rfl⟩
 | _ :: _, hm => cases hm
theorem vN {r : V → List V → Hp → VK → Prop} {m : Mt} {o : E} {es : List E} (hm : GM Γ r m) (hj : ∀ t ts, xr m t ts = none) : ∀ σ H Q, tE Γ F (.meth m o es) σ H Q → GK Γ.K "list" r (tE Γ F o) (tD Γ F es) σ H Q := by
 rintro σ H Q ⟨φ, st, ρ, en, rl, af⟩
 simp only [aj] at af
 refine ⟨φ, st, ρ, en, rl, af.bind.mono fun v H1 ⟨w, st1, φ1, rw1, pt, af1⟩ => ?_⟩
 split at af1
 · exact af1.elim
 rename_i hl
 cases w with
 | d t =>
  cases h2 : dj F Γ.G es ρ st1 with
  | ok ts st2 => rw [h2] at af1; simp only [ai.bind, hj] at af1; exact af1.elim
  | _ => rw [h2] at af1; exact af1.elim
 | ref k =>
  cases h1 : look (.ref k) st1 with
  | none => simp_all
  | some t =>
   have : ∃ xs, t = .lst xs := by
    unfold look at h1
    simp only at h1
    split at h1
    · cases h1; exact ⟨_, rfl⟩
    · cases h1
   obtain ⟨xs0, rfl⟩ := this
   obtain ⟨a, vs, rfl, q1, r1⟩ := rw1.lst pt.rl h1
   refine ⟨.inl ⟨rfl, vs, q1⟩, φ1, st1, ρ, en.step pt, pt.rl, ?_⟩
   cases h2 : dj F Γ.G es ρ st1 with
   | ok ts st2 =>
    rw [h2] at af1
    intro us H2 φ2 rs pt2
    have af2 := Af.re af1 pt2
    simp only [ai.bind] at af2
    cases h3 : st2[k]? with
    | none => simp only [h3] at af2; exact af2.elim
    | some o =>
     cases o with
     | none => simp only [h3] at af2; exact af2.elim
     | some xs =>
      simp only [h3] at af2
      cases h4 : wI m xs ts with
      | none => simp only [h4] at af2; exact af2.elim
      | some p =>
       obtain ⟨ys, t⟩ := p
       simp only [h4] at af2
       obtain ⟨b, e, eb⟩ := rw1
       cases eb
       have e2 := pt2.pre k a e
       obtain ⟨ws, h5, r5⟩ := pt2.rl.at_ k xs a e2 h3
       exact hm φ2 st2 H2 k a xs ys ts t ws us Q pt2.rl e2 h3 h5 r5 rs h4 af2
   | _ => rw [h2] at af1; exact af1.elim
theorem si (hm : GM Γ r m) (hj : ∀ t ts, xr m t ts = none) : ∀ σ H Q, tE Γ F (.meth m o []) σ H Q → Cj Γ.K "list" r (tE Γ F o) σ H Q := by
 rintro σ H Q ⟨φ, st, ρ, en, rl, af⟩
 refine ⟨φ, st, ρ, en, rl, af.bind.mono fun v H1 ⟨w, st1, φ1, rw1, pt, af1⟩ => ?_⟩
 split at af1
 · exact af1.elim
 simp only [dj, ai.bind] at af1
 cases w with
 | d t => simp only [hj] at af1; exact af1.elim
 | ref k =>
  cases h3 : st1[k]? with
  | none => simp only [h3] at af1; exact af1.elim
  | some o =>
   cases o with
   | none => simp only [h3] at af1; exact af1.elim
   | some xs =>
    simp only [h3] at af1
    cases h4 : wI m xs [] with
    | none => simp only [h4] at af1; exact af1.elim
    | some p =>
     obtain ⟨ys, t⟩ := p
     simp only [h4] at af1
     obtain ⟨a, e, rfl⟩ := rw1
     obtain ⟨ws, h5, r5⟩ := pt.rl.at_ k xs a e h3
     exact ⟨.inl ⟨rfl, ws, cO.of h5⟩, hm _ _ H1 k a xs ys [] t ws [] Q pt.rl e h3 h5 r5 .nil h4 af1⟩
theorem lS : ∀ {xs} {ys}, cV xs = some ys → xs = ys.map T.str
 | [], _, h => by cases h; rfl
 | .str x :: xs, ys, h => by
  simp only [cV] at h
  cases q : cV xs with
  | none => rw [q] at h; cases h
  | some zs => rw [q] at h; cases h; rw [lS q]; rfl
 | .non :: _, _, h => by cases h
 | .bl _ :: _, _, h => by cases h
 | .int _ :: _, _, h => by cases h
 | .tup _ :: _, _, h => by cases h
 | .lst _ :: _, _, h => by cases h
def vi (K : PySem.W.Frag) : V → List V → Hp → VK → Prop := fun x vs H Q => zq K x vs H Q ∨ uT K x vs H Q
theorem CO (hK : X.K = Γ.K) : sf X "str.join" (vi Γ.K) := by rw [← hK]; exact xC.or ur
theorem sk (h3 : xr .join t ts = some u) : ∃ sep zs ys, t = .str sep ∧ (ts = [.lst zs] ∨ ts = [.tup zs]) ∧ cV zs = some ys ∧ (ys.map (·.length)).sum + ys.length * sep.length ≤ aS ∧ u = .str (Txt.join sep ys) := by
 cases t with
 | str sep =>
  match ts, h3 with
  | [.lst zs], h3 =>
   simp only [xr] at h3
   cases q : cV zs with
   | none => simp_all
   | some ys => simp_all
  | [.tup zs], h3 =>
   simp only [xr] at h3
   cases q : cV zs with
   | none => simp_all
   | some ys => simp_all
  | [], h3 => cases h3
  | [.non], h3 => cases h3
  | [.bl _], h3 => cases h3
  | [.int _], h3 => cases h3
  | [.str _], h3 => cases h3
  | .non :: _ :: _, h3 => cases h3
  | .bl _ :: _ :: _, h3 => cases h3
  | .int _ :: _ :: _, h3 => cases h3
  | .str _ :: _ :: _, h3 => cases h3
  | .tup _ :: _ :: _, h3 => cases h3
  | .lst _ :: _ :: _, h3 => cases h3
 | _ => cases h3
theorem u6 : ∀ σ H Q, tE Γ F (.meth .join o [e]) σ H Q → GK Γ.K "str" (vi Γ.K) (tE Γ F o) (tD Γ F [e]) σ H Q := by
 rintro σ H Q ⟨φ, st, ρ, en, rl, af⟩
 refine ⟨φ, st, ρ, en, rl, af.bind.mono fun v H1 ⟨w, st1, φ1, rw1, pt, af1⟩ => ?_⟩
 split at af1
 · exact af1.elim
 cases h2 : dj F _ _ ρ _ with
 | ok ts st2 =>
  rw [h2] at af1
  simp only [ai.bind] at af1
  cases w with
  | ref k =>
   cases h3 : st2[k]? with
   | none => simp only [h3] at af1; exact af1.elim
   | some o =>
    cases o with
    | none => simp only [h3] at af1; exact af1.elim
    | some xs => simp only [h3] at af1; cases ts <;> exact af1.elim
  | d t =>
   cases h3 : xr .join t ts with
   | none => simp only [h3] at af1; exact af1.elim
   | some u =>
    simp only [h3] at af1
    obtain ⟨sep, zs, ys, rfl, hk, hs, hz, rfl⟩ := sk h3
    cases rw1
    have hL : aS ≤ 16777216 := by decide
    refine ⟨rfl, φ1, st1, ρ, en.step pt, pt.rl, ?_⟩
    rw [h2]
    intro vs H2 φ2 rs pt2
    have af2 := Af.re af1 pt2
    cases lS hs
    rcases hk with rfl | rfl
    · obtain ⟨u, rr, rfl, ru, rn⟩ := rs
      cases show rr = [] from rn
      obtain ⟨a, us, rfl, h5, h6⟩ := ru
      cases aF.strs h6
      exact .inl ⟨sep, a, ys, rfl, rfl, h5.sq, Nat.le_trans hz hL, af2.now pt2.rl rfl⟩
    · obtain ⟨u, rr, rfl, ru, rn⟩ := rs
      cases show rr = [] from rn
      obtain ⟨a, us, rfl, h5, h6⟩ := ru
      cases aF.strs h6
      exact .inr ⟨sep, a, ys, rfl, rfl, h5.sq, Nat.le_trans hz hL, af2.now pt2.rl rfl⟩
 | _ => rw [h2] at af1; exact af1.elim
def tF (Γ : Gm) (F : FT) (es : List E) : TT := fun σ H Q => ∃ φ st ρ, En Γ φ st H ρ σ ∧ Rl Γ φ st H ∧ jc Γ φ st H (cy F Γ.G es ρ st) Q
theorem _root_.L2.PF.imp (h : PF X es t) (i : ∀ σ H Q, u σ H Q → t σ H Q) : PF X es u := fun pins s σ H Q I q => h _ s σ H Q I (i σ H Q q)
theorem F9 : PF X [] (tF Γ F []) := L2.PF.imp zZ fun σ H Q ⟨φ, st, ρ, en, rl, af⟩ => af.now rl
theorem nA {ρ} {st} : cy F G (e :: es) ρ st = (lq F G e ρ st).bind fun c st => if c then cy F G es ρ st else .ok false st := by
 unfold lq
 simp only [cy]
 cases aj F G e ρ st with
 | ok w st' =>
  simp only [ai.bind]
  cases h : aR w _ with
  | none => rfl
  | some c => cases c <;> rfl
 | _ => rfl
theorem BY {e} {es} (h : PT X x (tT Γ F e)) (hs : PF X xs (tF Γ F es)) : PF X (x :: xs) (tF Γ F (e :: es)) := by
 refine L2.PF.imp (wv h hs) ?_
 rintro σ H Q ⟨φ, st, ρ, en, rl, af⟩
 rw [nA] at af
 refine ⟨φ, st, ρ, en, rl, af.bindB.mono fun c H1 ⟨st1, φ1, pt, af1⟩ => ?_⟩
 cases c with
 | true => exact ⟨φ1, st1, ρ, en.step pt, pt.rl, af1⟩
 | false => exact af1.now pt.rl
def Tg.slots : Tg → List Nat
 | .nm i => [i]
 | .tp is => is
 | .nt i is => i :: is
def vJ (Γ : Gm) (t : Tg) : TG := fun v σ H Q => ∃ φ st ρ w ρ', En Γ φ st H ρ σ ∧ Rl Γ φ st H ∧ RW Γ φ st H w v ∧ bg t w ρ = some ρ' ∧ (∀ i ∈ t.slots, σ[i]? = some none) ∧ t.slots.Nodup ∧ ∀ σ', En Γ φ st H ρ' σ' → L2.Sub σ σ' → Q σ' H
theorem wb (hN : X.N.Nodup) (hi : X.N[i]? = some x) (hx : Loc X.env.scope x) (hf : X.fn x = true ∨ X.env.scope.names.lookup x = some .local) : PG X (.Name x pos) (vJ Γ (.nm i)) := by
 refine L2.PG.imp (gI hN hi hx hf) ?_
 rintro v σ H Q ⟨φ, st, ρ, w, ρ', en, rl, rw1, hb, hs, _, q⟩
 obtain ⟨_, rfl⟩ := aH hb
 exact q _ (en.set rw1) (Sub.set (hs i (List.mem_singleton.mpr rfl)))
theorem iS {st} {H} {Q} : ∀ {is} {xs} {vs} {ρ} {σ}, is.length = xs.length → aF Γ.K (ay φ st) H xs vs → En Γ φ st H ρ σ → (∀ i ∈ is, σ[i]? = some none) → is.Nodup →
 (∀ σ', En Γ φ st H ((is.zip xs).foldl (fun ρ p => ρ.set p.1 (some (.d p.2))) ρ) σ' → L2.Sub σ σ' → Q σ' H) → kK is vs σ H Q
 | [], [], vs, ρ, σ, _, r, en, _, _, q => ⟨r, q σ en (L2.Sub.refl _)⟩
 | i :: is, x :: xs, vs, ρ, σ, hl, r, en, hs, hn, q => by
  obtain ⟨v, rs, rfl, r1, r2⟩ := r
  refine ⟨v, rs, rfl, ?_⟩
  have s1 : L2.Sub σ (σ.set i (some v)) := Sub.set (hs i List.mem_cons_self)
  refine iS (by simpa using hl) r2 (en.set (w := .d x) r1) (fun j hj => ?_) (List.nodup_cons.mp hn).2 fun σ' en' s' => q _ en' (s1.trans s')
  grind
 | [], _ :: _, _, _, _, hl, _, _, _, _, _ => by simp at hl
 | _ :: _, [], _, _, _, hl, _, _, _, _, _ => by simp at hl
theorem Ad {pos} (hK : X.K = Γ.K) (hc : X.calm = true) (hN : X.N.Nodup) (h : mR X is es) : PG X (.Tuple es k pos) (vJ Γ (.tp is)) := by
 obtain ⟨a, b, c⟩ := ic hN h
 refine L2.PG.imp (pN hK hc a b c) ?_
 rintro v σ H Q ⟨φ, st, ρ, w, ρ', en, rl, rw1, hb, hs, hn, q⟩
 cases w with
 | ref k => cases hb
 | d t =>
  cases t with
  | tup xs =>
   obtain ⟨⟨h1, h2⟩, rfl⟩ := aH hb
   obtain ⟨p, vs, rfl, h3, h4⟩ := rw1
   exact ⟨p, vs, rfl, h3.sq, by rw [h4.length, h1], iS h1 h4 en hs hn q⟩
  | _ => cases hb
theorem En.pick {st} {H} {ρ} {σ} (ix : List _) (en : En Γ φ st H ρ σ) : En Γ φ st H (cI ix ρ) (L2.bV ix σ) := by
 refine ⟨by simp [cI, L2.bV], fun i w h => ?_⟩
 unfold cI at h
 unfold L2.bV
 rw [List.getElem?_map] at h ⊢
 cases q : ix[i]? with
 | none => rw [q] at h; cases h
 | some o =>
  rw [q] at h
  cases o with
  | none => cases h
  | some j =>
   simp only [Option.map_some, Option.some.injEq] at h ⊢
   cases q2 : ρ[j]? with
   | none => rw [q2] at h; cases h
   | some o2 =>
    rw [q2] at h
    subst h
    obtain ⟨v, e, r⟩ := en.at_ j w q2
    simp_all
def bY (F : FT) (G : List T) (ix : List (Option Nat)) (tg : Tg) (ifs : List E) (el : E) (ρ : aD) : T → ae → ai (Option T) := fun x st => match bg tg (.d x) (cI ix ρ) with
 | some ρ' => (cy F G ifs ρ' st).bind fun b st' => if b then (aj F G el ρ' st').bind fun w st' => (aO st.length w st').bind fun t st => .ok (some t) st else .ok none (st'.take st.length)
 | none => .bad
theorem yo {ix : List (Option Nat)} {tg : Tg} {ifs : List E} {el : E} {ρ : aD} {σ : L2.St} {φ} {st} {H} {x} {v} {N : Option V → Hp → Prop} {o} {st'} (en : En Γ φ st H ρ σ) (rl : Rl Γ φ st H) (rx : Rp Γ.K (ay φ st) H x v)
 (hs : ∀ i ∈ tg.slots, ix[i]? = some none) (hn : tg.slots.Nodup) (hstep : bY F Γ.G ix tg ifs el ρ x st = .ok o st')
 (h : match o with
  | some t => ∀ u H' φ', Rp Γ.K (ay φ' st') H' t u → Pt Γ φ st H φ' st' H' → N (some u) H'
  | none => ∀ H' φ', Pt Γ φ st H φ' st' H' → N none H') :
 vJ Γ tg v (L2.bV ix σ) H fun σ2 H3 => L2.Sub (L2.bV ix σ) σ2 ∧ tF Γ F ifs σ2 H3 fun ok H4 => if ok = true then tE Γ F el σ2 H4 fun y H5 => N (some y) H5 else N none H4 := by
 unfold bY at hstep
 cases hb : bg tg _ _ with
 | none => rw [hb] at hstep; cases hstep
 | some ρ' =>
  rw [hb] at hstep
  simp only at hstep
  refine ⟨φ, st, _, .d x, ρ', en.pick ix, rl, rx, hb, fun i hi => ?_, hn, fun σ2 en2 sub => ⟨sub, φ, st, ρ', en2, rl, ?_⟩⟩
  · unfold L2.bV
    simp_all
  · cases h1 : cy F _ _ _ st with
    | ok b st1 =>
     rw [h1] at hstep
     simp only [ai.bind] at hstep
     intro H4 φ4 pt4
     cases b with
     | true =>
      refine ⟨φ4, st1, ρ', en2.step pt4, pt4.rl, ?_⟩
      cases h2 : aj F _ el _ _ with
      | ok w st2 =>
       rw [h2] at hstep
       simp only at hstep
       intro u H5 φ5 rw5 pt5
       cases h3 : aO _ w _ with
       | ok t st3 =>
        rw [h3] at hstep
        cases hstep
        obtain ⟨φ6, p6, r6⟩ := ig rl.len (pt4.trans pt5) rw5 h3
        exact h u H5 _ r6 p6
       | _ => simp_all
      | _ => simp_all
     | false =>
      cases hstep
      exact h H4 _ (pt4.cut rl.len)
    | _ => rw [h1] at hstep; cases hstep
theorem fY {step} : ∀ {xs acc ts} {st st'}, ao gs step xs acc st = .ok ts st' → acc <+: ts
 | [], acc, ts, st, st', h => by
  simp only [ao] at h
  grind
 | x :: xs, acc, ts, st, st', h => by
  simp only [ao] at h
  split at h
  · cases hs : step x st with
    | ok o st2 =>
     rw [hs] at h
     cases o with
     | none => exact fY h
     | some t => exact (List.prefix_append _ _).trans (fY h)
    | exc c fs st2 => rw [hs] at h; cases h
    | bad => rw [hs] at h; cases h
  · cases h
theorem qj {OkL : List V → Prop} {ix : List (Option Nat)} {tg : Tg} {ifs : List E} {el : E} {ρ : aD} {σ : L2.St} {φ1 : List Addr} {st1 : ae} {H1 : Hp} {J : L2.It} {xs : List T} {gs : List (Nat × List T)} {ts acc0 : List T} {vs0 : List V} {st' : ae} {Q : List V → Hp → Prop} (en : En Γ φ1 st1 H1 ρ σ) (rl : Rl Γ φ1 st1 H1) (wk : Wk Γ J xs gs φ1 st1 H1) (r0 : aF Γ.K (ay φ1 st1) H1 acc0 vs0)
 (hs : ∀ i ∈ tg.slots, ix[i]? = some none) (hn : tg.slots.Nodup) (hz : xs.length + acc0.length ≤ aS) (hc : ao gs (bY F Γ.G ix tg ifs el ρ) xs acc0 st1 = .ok ts st')
 (hQ : ∀ vs H' φ', aF Γ.K (ay φ' st') H' ts vs → Pt Γ φ1 st1 H1 φ' st' H' → Q vs H')
 (hO : ∀ acc ys φ st H, acc <+: ts → aF Γ.K (ay φ st) H acc ys → OkL ys) :
 jw OkL (fun ys => ys.length ≤ sizeLine) (fun ys => ys.length < sizeLine) (GU (tE Γ F el)) vs0 J (L2.bV ix σ) (vJ Γ tg) (tF Γ F ifs) Q H1 := by
 have hL := bB
 have l0 := r0.length
 refine ⟨fun i m ys H => m = xs.length - i ∧ i ≤ xs.length ∧ ys.length ≤ acc0.length + i ∧ ∃ φ st acc, Pt Γ φ1 st1 H1 φ st H ∧ aF Γ.K (ay φ st) H acc ys ∧ ao gs (bY F Γ.G ix tg ifs el ρ) (xs.drop i) acc st = .ok ts st', ⟨xs.length, by simp, Nat.zero_le _, by omega, φ1, st1, acc0, Pt.refl rl, r0, by simpa using hc⟩, (fun i m ys H w => by obtain ⟨_, _, _, φ, st, acc, _, r, hev⟩ := w; exact hO acc ys φ st H (fY hev) r), ?_⟩
 rintro i m ys H ⟨rfl, hi, hy, φ, st, acc, pt, r, hev⟩
 by_cases hlt : i < xs.length
 · rw [List.drop_eq_getElem_cons hlt] at hev
   simp only [ao] at hev
   split at hev
   · rename_i hst
     obtain ⟨go, _⟩ := wk φ st H pt hst
     obtain ⟨g1, g2⟩ := go i xs[i] (List.getElem?_eq_getElem hlt)
     refine .inr ⟨g1, by omega, fun ys' H' => ys'.length ≤ acc0.length + (i + 1) ∧ ∃ φ' st2 acc', Pt Γ φ1 st1 H1 φ' st2 H' ∧ aF Γ.K (ay φ' st2) H' acc' ys' ∧ ao gs (bY F Γ.G ix tg ifs el ρ) (xs.drop (i + 1)) acc' st2 = .ok ts st', fun ys' H' h' => ⟨xs.length - (i + 1), by omega, rfl, hlt, h'.1, h'.2⟩, fun v H3 y => ?_⟩
     obtain ⟨pt3, r3⟩ := g2 v H3 y
     cases hstep : bY F Γ.G ix tg ifs el ρ xs[i] st with
     | ok o st2 =>
      rw [hstep] at hev
      refine yo (N := fun o H' => match o with
       | some y => (ys ++ [y]).length ≤ acc0.length + (i + 1) ∧ ∃ φ' st2 acc', Pt Γ φ1 st1 H1 φ' st2 H' ∧ aF Γ.K (ay φ' st2) H' acc' (ys ++ [y]) ∧ ao gs (bY F Γ.G ix tg ifs el ρ) (xs.drop _) acc' st2 = .ok ts _
       | none => ys.length ≤ acc0.length + i + 1 ∧ ∃ φ' st2 acc', Pt Γ _ _ H1 φ' st2 H' ∧ aF _ (ay φ' st2) H' acc' ys ∧ ao gs _ _ acc' st2 = .ok ts _) ((en.step pt).step pt3) pt3.rl r3 hs hn hstep ?_
      cases o with
      | some t =>
       intro u H' φ' ru p'
       exact ⟨by simp; omega, φ', st2, _, (pt.trans pt3).trans p', (r.step (pt3.trans p').stp).append (.one ru), hev⟩
      | none =>
       intro H' φ' p'
       exact ⟨by omega, φ', st2, acc, (pt.trans pt3).trans p', r.step (pt3.trans p').stp, hev⟩
     | _ => rw [hstep] at hev; cases hev
   · cases hev
 · have ei : i = xs.length := by omega
   subst ei
   rw [List.drop_length] at hev
   simp only [ao] at hev
   split at hev
   · rename_i hst
     cases hev
     obtain ⟨_, stop⟩ := wk φ _ H pt hst
     exact .inl ⟨stop, by omega, hQ ys H φ r pt⟩
   · cases hev
theorem l6 {el} {ρ} {σ} {φ1} {st1} {H1} {J} {xs} {gs} {ts} {st'} {Q} (en : En Γ φ1 st1 H1 ρ σ) (rl : Rl Γ φ1 st1 H1) (wk : Wk Γ J xs gs φ1 st1 H1)
 (hs : ∀ i ∈ tg.slots, ix[i]? = some none) (hn : tg.slots.Nodup) (hz : xs.length ≤ aS) (hc : ao gs (bY F Γ.G ix tg ifs el ρ) xs [] st1 = .ok ts st')
 (hQ : ∀ vs H' φ', aF Γ.K (ay φ' st') H' ts vs → Pt Γ φ1 st1 H1 φ' st' H' → Q vs H') :
 uA J (L2.bV ix σ) (vJ Γ tg) (tF Γ F ifs) (tE Γ F el) Q H1 :=
 qj en rl wk .nil hs hn hz hc hQ fun _ _ _ _ _ _ _ => trivial
theorem zn {src} {ρ} {c : List T → Prop} [∀ xs, Decidable (c xs)] {ev : List T → List _ → ae → ai α} {f} {σ} {φ} {st} {H} {Q} {R} (en : En Γ φ st H ρ σ) (rl : Rl Γ φ st H)
 (af : Af Γ φ st H ((aW F Γ.G src ρ st).bind fun ws st => match ag k ws st with | some (xs, gs) => if c xs then (ev xs gs st).bind f else .bad | none => .bad) Q)
 (h : ∀ {xs gs st1 φ1 H1 J ts st'}, Pt Γ φ st H φ1 st1 H1 → Wk Γ J xs gs φ1 st1 H1 → c xs → ev xs gs st1 = .ok ts st' → Af Γ φ1 st1 H1 (f ts st') Q → R J H1) : tI Γ F k src σ H R := by
 refine ⟨φ, st, ρ, en, rl, ?_⟩
 unfold yy
 cases h1 : aW F _ _ ρ st with
 | ok ws st1 =>
  rw [h1] at af
  simp only [ai.bind] at af ⊢
  cases h2 : ag k ws _ with
  | none => simp only [h2] at af; exact af.elim
  | some q =>
   obtain ⟨xs, gs⟩ := q
   simp only [h2] at af ⊢
   split at af
   · intro J H1 φ1 pt wk
     have af := Af.re af pt
     cases hc : ev xs gs _ with
     | ok ts st' => rw [hc] at af; exact h pt wk ‹_› hc af
     | _ => rw [hc] at af; exact af.elim
   · exact af.elim
 | _ => rw [h1] at af; exact af.elim
theorem lE {ix} {tg} {k} {src ifs} {el} (hs : ∀ i ∈ tg.slots, ix[i]? = some none) (hn : tg.slots.Nodup) : ∀ σ H Q, tE Γ F (.comp N' ix tg k src ifs el) σ H Q → lv ix (tI Γ F k src) (vJ Γ tg) (tF Γ F ifs) (tE Γ F el) σ H Q := by
 rintro σ H Q ⟨φ, st, ρ, en, rl, af⟩
 exact zn en rl af fun pt wk hz hc af => l6 (en.step pt) pt.rl wk hs hn hz hc fun vs H' φ' r p => Af.lst (Af.re af p) p.rl r
theorem Bx {o i x : Expr} {eo ei e : E} {p pos : Pos} (ho : PE X o (tE Γ F eo)) (hi : PE X i (tE Γ F ei)) (h : PE X x (tE Γ F e)) (hpl : ∀ v, assign (.Subscript o i p) X.env v = (do
 let ov ← holding [v] (eval o X.env)
 let iv ← holding [v, ov] (eval i X.env)
 standAt p
 holding [v, ov, iv] (setItem ov iv v)
 release [v, ov, iv] [])) (hs : swapsWithSole [.Subscript o i p] x pos.line X.env = pure false) (hw : swappedStores [.Subscript o i p] x X.env = pure none)
 (h1 : (assignEach [.Subscript o i p] X.env).map (·.2) = [assign (.Subscript o i p) X.env]) : PS X (.Assign [.Subscript o i p] x pos) (tS Γ F (.setx eo ei e)) := by
 refine L2.PS.imp (mX h (A5 ho hi uP hpl) hs hw h1) ?_
 rintro D σ H ⟨φ, st, ρ, en, rl, af⟩
 simp only [jk] at af
 refine ⟨φ, st, ρ, en, rl, ?_⟩
 cases q1 : aj F Γ.G e ρ st with
 | ok w st1 =>
  rw [q1] at af
  intro v H1 φ1 rw1 pt
  simp only [ai.bind] at af
  cases q2 : aO st.length w st1 with
  | ok t st2 =>
   rw [q2] at af
   simp only at af
   obtain ⟨φ2, p2, r2⟩ := ig rl.len pt rw1 q2
   refine ⟨φ2, st2, ρ, en.step p2, p2.rl, ?_⟩
   have af := fA.re af p2
   cases q3 : aj F _ eo ρ _ with
   | ok x3 st3 =>
    rw [q3] at af
    intro u H3 φ3 rw3 p3
    simp only at af
    refine ⟨φ3, st3, ρ, (en.step p2).step p3, p3.rl, ?_⟩
    have af := fA.re af p3
    cases q4 : aj F _ ei ρ _ with
    | ok y4 st4 =>
     rw [q4] at af
     intro z H4 φ4 rw4 p4
     simp only at af
     have af := fA.re af p4
     cases x3 with
     | d _ => cases q5 : look y4 st4 <;> exact af.elim
     | ref k =>
      cases q5 : look y4 _ with
      | none => rw [q5] at af; exact af.elim
      | some ty =>
       rw [q5] at af
       cases ty with
       | int n =>
        cases q6 : st4[k]? with
        | none => simp only [q6] at af; exact af.elim
        | some oo =>
         cases oo with
         | none => simp only [q6] at af; exact af.elim
         | some xs =>
          simp only [q6] at af
          cases q7 : rR xs.length n with
          | none => simp only [q7] at af; exact af.elim
          | some j =>
           simp only [q7] at af
           obtain ⟨a, e3, rfl⟩ := rw3
           have e4 := p4.pre k a e3
           obtain ⟨vs, h5, r5⟩ := p4.rl.at_ k xs a e4 q6
           refine ⟨a, vs, n, j, rfl, rw4.int p4.rl q5, h5, by rw [r5.length]; exact q7, ?_⟩
           have rt := Rp.step (p3.trans p4).stp r2
           have pw := p4.rl.write (vs := []) e4 q6 (r5.set rt j)
           exact af σ _ _ ((((en.step p2).step p3).step p4).step pw) pw
       | _ => exact af.elim
    | _ => rw [q4] at af; exact af.elim
   | _ => rw [q3] at af; exact af.elim
  | _ => rw [q2] at af; exact af.elim
 | _ => rw [q1] at af; exact af.elim
end
end I
end
section
namespace L2
section
variable {X : Cx} {m : Str} {apos pos : Pos} {e o : Expr} {es : List Expr} {ta : TE} {t : TA}
def Hk (X : Cx) (m : Str) (ta : TE) (t : TA) : TE := fun σ H Q => ta σ H fun x H1 => ∃ a C dx fs f fd k ps sp, x = .ref a ∧ H1 a = some (.ins C dx fs) ∧ fs.lookup m = none ∧ j4 X.K C ∧ xT X.K C m f ∧ fG X.prog X.w X.K X.mg X.base mn k f fd ps sp ∧ bh k X.A ∧ Binds X.K fd ps [] ∧
 t σ H1 fun vs H2 => sp (x :: vs) H2 Q E0
theorem DZ (he : PE X o ta) (ha : PA X (e :: es) t) (hbase : attributeBase o m X.env (eval o X.env) = eval o X.env)
 (hfew : ((backTo pos (starEach (e :: es) X.env)).all (fun x => !x.1) && (backToKw pos (keywordEach [] X.env)).all (fun x => x.1.isSome)
  && decide ((e :: es).length + ([] : List Keyword).length + (if ([] : List Keyword).isEmpty then 0 else 1) < 30)) = true)
 (hline : (apos.endLine == pos.line) = true) (hst : starEach (e :: es) X.env = (false, eval e X.env) :: starEach es X.env) (hpl : (backTo pos (starEach es X.env)).any (·.1) = false) :
 PE X (.Call (.Attribute o m apos) (e :: es) [] pos) (Hk X m ta t) := by
 intro pins s σ H Q I h
 have hform : methodCallForm _ _ _ = true := hfew
 have hpos : methodCallPos true o X.env apos pos = pure pos := by unfold methodCallPos; simp [hline]
 rw [arm_eval_Call, hbase]
 refine wpAny_bind (aU (he _ s σ H _ I h) fun u s1 ⟨x, H1, I1, rx, a, C, dx, fs, f, fd, k, ps, sp, ex, ea, l, c, hm, F, hr, hb, q⟩ => ?_)
 refine wpAny_bind (wpAny_standAt ?_)
 subst ex
 obtain rfl : u = Value.ref a := rx
 unfold methodCall calleeOf
 rw [hform]
 refine wpAny_bind (wpAny_holding (gW I1 ea c hm l ?_))
 refine wpAny_bind (wpAny_of_eq hpos ?_)
 refine PySem.W.callWith_K I.ok.mod.kin hm.kp (aU (ha _ _ s1 σ H1 _ I1 q) fun us s2 ⟨vs, H2, I2, r, q2⟩ => ⟨I2.kIn, ?_⟩) hst hpl
 exact kZ (vs := .ref a :: vs) F hr hb .nil o1 I2 (.cons rfl r) (by simp_all)
theorem B4 (he : PE X o ta) (hbase : attributeBase o m X.env (eval o X.env) = eval o X.env) (hline : (apos.endLine == pos.line) = true) :
 PE X (.Call (.Attribute o m apos) [] [] pos) (Hk X m ta CJ) := by
 intro pins s σ H Q I h
 have hpos : methodCallPos true o X.env apos pos = pure pos := by unfold methodCallPos; simp [hline]
 rw [arm_eval_Call, hbase]
 refine wpAny_bind (aU (he _ s σ H _ I h) fun u s1 ⟨x, H1, I1, rx, a, C, dx, fs, f, fd, k, ps, sp, ex, ea, l, c, hm, F, hr, hb, q⟩ => ?_)
 refine wpAny_bind (wpAny_standAt ?_)
 subst ex
 obtain rfl : u = Value.ref a := rx
 refine wpAny_bind (wpAny_holding (gW I1 ea c hm l ?_))
 refine wpAny_bind (wpAny_of_eq hpos ?_)
 exact PySem.W.callWith_K0 I1.kIn hm.kp (kZ (vs := [.ref a]) F hr hb .nil o1 I1 (.cons rfl .nil) q)
end
end L2
namespace I
open PySem L2 PySem.Spec PyProof.Rows
section
variable {Γ : Gm} {F : FT} {X : Cx} {n : Nat}
theorem mF : ∀ (es : List E) (ρ : aD) (st st1 : ae) (ws : List W), aW F G es ρ st = .ok ws st1 → ws.length = es.length
 | [], ρ, st, st1, ws, h => by cases h; rfl
 | e :: es, ρ, st, st1, ws, h => by
  simp only [aW] at h
  cases h1 : aj F G e ρ st with
  | ok w st2 =>
   rw [h1] at h
   simp only [ai.bind] at h
   cases h2 : aW F G es ρ _ with
   | ok ws2 st3 =>
    rw [h2] at h
    cases h
    rw [List.length_cons, List.length_cons, mF es ρ _ _ _ h2]
   | _ => rw [h2] at h; cases h
  | _ => rw [h1] at h; cases h
def yH (Γ : Gm) (n : Nat) (F : FT) (X : Cx) (q m : Str) (f j : Nat) : Prop := ∃ C ps, ps.length = j ∧ be Γ.K C q ∧ j4 X.K C ∧ A9 X.prog X.w X.K X.mg X.base n C m ps (rQ Γ F f j)
theorem sv {m} (hr : bh n X.A) (h : ∀ q f, tab.lookup q = some f → yH Γ n F X q m f (es.length + 1)) : ∀ σ H Q, tE Γ F (.mc tab o es) σ H Q → Hk X m (tE Γ F o) (tA Γ F es) σ H Q := by
 rintro σ H Q ⟨φ, st, ρ, en, rl, af⟩
 refine ⟨φ, st, ρ, en, rl, af.bind.mono fun v H1 ⟨w, st1, φ1, rw1, pt, af1⟩ => ?_⟩
 cases w with
 | ref k => exact af1.elim
 | d t =>
  cases t with
  | ins q =>
   obtain ⟨a, rfl, C0, dx, h1, h2, hq⟩ := id rw1
   simp only at af1
   cases h3 : tab.lookup q with
   | none => rw [h3] at af1; exact af1.elim
   | some f =>
    rw [h3] at af1
    obtain ⟨C, ps, hl, hC, cl, hm⟩ := h q f h3
    obtain rfl := hC.one hq
    obtain ⟨g, fd, F', mt, hb⟩ := hm.ex
    refine ⟨a, C, dx, [], g, fd, n, ps, _, rfl, h1, rfl, cl, mt, F', hr, hb, φ1, st1, ρ, en.step pt, pt.rl, ?_⟩
    cases h4 : aW F _ es ρ _ with
    | ok ws st2 =>
     rw [h4] at af1
     intro vs H2 φ2 rws pt2
     exact ⟨φ2, st2, .d _ :: ws, pt2.rl, ⟨_, vs, rfl, rw1.step pt2, rws⟩, by rw [List.length_cons, mF es ρ _ _ ws h4], Af.re af1 pt2⟩
    | _ => rw [h4] at af1; exact af1.elim
  | _ => exact af1.elim
theorem sM {st} {H} {x} (rl : Rl Γ φ st H) (h : H x = none) : ¬ ay φ st x := by
 rintro ⟨k, xs, e1, e2⟩
 obtain ⟨vs, e, _⟩ := rl.at_ k xs x e1 e2
 rw [h] at e
 cases e
theorem yw {C} (hC : be Γ.K C q) : ∀ σ H Q, tE Γ F (.new q) σ H Q → As C σ H Q := by
 rintro σ H Q ⟨φ, st, ρ, en, rl, af⟩
 intro x dx hx hd hne
 have p1 := rl.beside (o := .own x) hd
 have hx1 : bq H dx (.own x) x = none := by rw [az (Ne.symm hne)]; exact hx
 have p2 := p1.rl.beside (o := .ins C dx []) hx1
 exact af _ _ φ ⟨x, rfl, C, dx, bD, sM rl hx, hC⟩ (p1.trans p2)
theorem xg {C'} (h : ∀ q b, tab.lookup q = some b → ∃ C, be Γ.K C q ∧ j4 Γ.K C ∧ xO Γ.K C C' b) : ∀ σ H Q, tE Γ F (.isc tab q' o) σ H Q → tE Γ F o σ H fun v H1 => uF Γ.K [v, .ref C'] H1 Q := by
 rintro σ H Q ⟨φ, st, ρ, en, rl, af⟩
 refine ⟨φ, st, ρ, en, rl, af.bind.mono fun v H1 ⟨w, st1, φ1, rw1, pt, af1⟩ => ?_⟩
 cases w with
 | ref k => exact af1.elim
 | d t =>
  cases t with
  | ins q =>
   obtain ⟨a, rfl, C0, dx, h1, h2, hq⟩ := id rw1
   simp only at af1
   cases e : tab.lookup q with
   | none => rw [e] at af1; exact af1.elim
   | some b =>
    rw [e] at af1
    obtain ⟨C, hC, cl, hi⟩ := h q b e
    obtain rfl := hC.one hq
    exact ⟨a, C', C, dx, [], b, rfl, h1, cl, hi, af1.now pt.rl rfl⟩
  | _ => exact af1.elim
end
end I
end
section
namespace I
open PySem L2 PySem.Spec PyProof.Rows
def zO (K : PySem.W.Frag) : R2 := fun x y H Q => ∃ (L : Addr → Prop) (t : T) (p : Addr) (ys : List T) (vs : List V), y = .ref p ∧ cO K H p vs ∧ Rp K L H t x ∧ aF K L H ys vs ∧ b9 t ≤ 60 ∧ bw ys ≤ 59 ∧ Q (.bl (!ys.any fun y => eqT y t)) H
theorem xt {X : Cx} {K : PySem.W.Frag} (hK : X.K = K) (hu : X.A.units + 64 < cLine) : cA X (compareOp .NotIn) (zO K) := by
 subst hK
 intro pins s σ H x y v u Q I rx ry h
 obtain ⟨L, t, p, ys, vs, rfl, sq, r1, r2, d1, d2, q⟩ := h
 cases ry
 obtain ⟨its, r, pl, hz⟩ := I.list sq
 classical
 have at_ : ∀ (i : Nat) (w : Value), its[i]? = some w → ∃ (c : T) (k : V), ys[i]? = some c ∧ Rp X.K L H c k ∧ RelV k w := fun i w hi => by
  obtain ⟨hl, _⟩ := List.getElem?_eq_some_iff.mp hi
  have hv : i < vs.length := by rw [r.length]; exact hl
  obtain ⟨w', e1, e2⟩ := r.get (List.getElem?_eq_getElem hv)
  rw [hi] at e1
  cases e1
  obtain ⟨c, e3, e4⟩ := r2.getV (List.getElem?_eq_getElem hv)
  exact ⟨c, _, e3, e4, e2⟩
 have zU : ∀ (i j : Nat) (w : Value) (c c' : T), its[i]? = some w → its[j]? = some w → ys[i]? = some c → ys[j]? = some c' → c = c' := fun i j w c c' h1 h2 h3 h4 => by
  obtain ⟨a, k, a1, a2, a3⟩ := at_ i w h1
  obtain ⟨b, l, b1, b2, b3⟩ := at_ j w h2
  rw [h3] at a1; cases a1
  rw [h4] at b1; cases b1
  obtain rfl := RelV.inj a3 b3
  exact Rp.inj rfl I a2 b2
 let f : Value → Bool := fun w => decide (∃ (i : Nat) (c : T), its[i]? = some w ∧ ys[i]? = some c ∧ eqT c t = true)
 have fe : ∀ (i : Nat) (w : Value) (c : T), its[i]? = some w → ys[i]? = some c → f w = eqT c t := fun i w c h1 h2 => by
  cases e : eqT c t with
  | true => exact decide_eq_true ⟨i, c, h1, h2, e⟩
  | false =>
   refine decide_eq_false ?_
   rintro ⟨j, c', h3, h4, e'⟩
   rw [zU i j w c c' h1 h3 h2 h4, e'] at e
   cases e
 have key : its.toArray.any f = ys.any fun y => eqT y t := by
  rw [Bool.eq_iff_iff, List.any_toArray, List.any_eq_true, List.any_eq_true]
  constructor
  · rintro ⟨w, hw, h⟩
    obtain ⟨i, c, _, h2, e⟩ := of_decide_eq_true h
    exact ⟨c, List.mem_of_getElem? h2, e⟩
  · rintro ⟨c, hc, e⟩
    obtain ⟨i, hi⟩ := List.mem_iff_getElem?.mp hc
    have hl : i < its.length := by rw [← r.length, r2.length]; exact (List.getElem?_eq_some_iff.mp hi).1
    exact ⟨its[i], List.getElem_mem hl, decide_eq_true ⟨i, c, List.getElem?_eq_getElem hl, hi, e⟩⟩
 refine SeqAt.notIn_listAt f pl.isList (fun w hw => ?_) ⟨.bl _, H, I, rfl, by rw [key]; exact q⟩
 obtain ⟨i, hi⟩ := List.mem_iff_getElem?.mp (show w ∈ its by simpa using hw)
 obtain ⟨c, k, e1, e2, e3⟩ := at_ i w hi
 rw [fe i w c hi e1]
 have hd : b9 c ≤ 59 := Nat.le_trans (eZ (List.mem_of_getElem? e1)) d2
 exact jq rfl I e2 r1 e3 rx (uc rfl I 60 c t X.A.in1 w v (by omega) (by show X.A.units + 1 + 60 < cLine; omega) (gv rfl I (by omega) e2 e3) (gv rfl I d1 r1 rx))
theorem FE {Γ : Gm} : pA Γ (zO Γ.K) m7 := by
 intro φ st H x y v u Q rl rx ry af
 unfold m7 at af
 obtain ⟨t, t', h1, h2, af⟩ := Af.looks2 af
 cases t' with
 | lst ys =>
  simp only at af
  split at af
  · rename_i hz
    obtain ⟨a, vs, rfl, q1, q2⟩ := ry.lst rl h2
    exact ⟨fun _ => False, t, a, ys, vs, rfl, q1, rx.rp rl h1, aF.weak q2, hz.1, hz.2, af.now rl rfl⟩
  · exact af.elim
 | _ => exact af.elim
end I
end
section
namespace I
open PySem L2 PySem.Spec PyProof.Rows
end I
end
section
namespace I
open PySem L2 PySem.Spec PyProof.Rows
end I
end
section
namespace I
open PySem L2 PySem.Spec PyProof.Rows
section
variable {Γ : Gm} {F : FT} {X : Cx}
theorem z9 {a} {p1 p2 q1 q2} (hr : X.A.handled = none) (hg1 : Gl X "tuple") (hg2 : Gl X "range") (hm1 : X.mg "tuple" = none) (hm2 : X.mg "range" = none) (hx : starEach [x] X.env = [(false, eval x X.env)]) (h : PE X x (tE Γ F a)) : PE X (.Call (.Name "tuple" p1) [.Call (.Name "range" p2) [x] [] q2] [] q1) (tE Γ F (.trg a)) := by
 refine L2.PE.imp (wg hr hg1 hg2 hm1 hm2 h hx) ?_
 rintro σ H Q ⟨φ, st, ρ, en, rl, af⟩
 refine ⟨φ, st, ρ, en, rl, af.bind.mono fun v H1 hh => ?_⟩
 obtain ⟨w, st1, φ1, rw1, pt, af1⟩ := hh
 unfold wX at af1
 cases h2 : look w _ with
 | none => rw [h2] at af1; exact af1.elim
 | some t =>
  rw [h2] at af1
  cases t with
  | int n =>
   have af2 : Af Γ _ _ H1 (if 0 ≤ n ∧ n ≤ 1000 then .ok _ _ else .bad) Q := af1
   by_cases hz : 0 ≤ n ∧ n ≤ 1000
   · rw [if_pos hz] at af2
     obtain ⟨m, rfl⟩ : ∃ m : Nat, n = m := ⟨n.toNat, by omega⟩
     have e1 : rng 0 (m : Int).toNat = ((List.range m).map fun (i : Nat) => (i : Int)).map T.int := by
      rw [List.map_map]
      exact List.map_congr_left fun i _ => by rw [Int.zero_add]; rfl
     have e2 : ((List.range m).map fun (i : Nat) => V.int i) = ((List.range m).map fun (i : Nat) => (i : Int)).map V.int := by rw [List.map_map]; rfl
     rw [e1] at af2
     exact ⟨m, rw1.int pt.rl h2, by omega, e2 ▸ Af.tup af2 pt.rl (aF.ofInts _)⟩
   · rw [if_neg hz] at af2
     exact af2.elim
  | _ => exact af1.elim
end
end I
end
section
namespace L2
end L2
namespace I
open PySem L2 PySem.Spec PyProof.Rows
end I
end
section
namespace L2
end L2
end
section
namespace I
open PySem L2 PySem.Spec PyProof.Rows
end I
end
section
namespace I
open PySem L2 PySem.Spec PyProof.Rows
end I
end
section
namespace I
open PySem L2 PySem.Spec PyProof.Rows
theorem ba {a b : Bool} (h : (a && b) = true) : a = true ∧ b = true := Bool.and_eq_true_iff.mp h
structure Sg where
 gn : Nat → Option Str
 fns : Nat → Option (Str × List Str)
 mth : Nat → Option (Str × Str × List Str)
 cls : Str → Bool
 sub : Str → Str → Bool → Bool
set_option genInjectivity false in
structure Ck where
 N : List Str
 sc : Scope
 own : Bool
 gx : Bool
def Bs (sc : Scope) (x : Str) : Bool := match sc.names.lookup x with
 | some .local => true
 | some .cell => true
 | some .free => true
 | _ => false
def jI (sc : Scope) (x : Str) : Bool := sc.names.lookup x == some .globalImplicit
def zd (C : Ck) (x : Str) : Bool := match C.sc.names.lookup x with
 | some .local => true
 | some .cell => C.own
 | _ => false
def cq : Expr → Bool
 | .Starred _ _ => false
 | _ => true
def sY : Expr → Bool
 | .UnaryOp .Not _ _ => false
 | .BoolOp _ _ _ => false
 | .IfExp _ _ _ _ => false
 | .Compare _ _ _ _ => false
 | _ => true
def kd : Expr → Bool
 | .Slice _ _ _ _ => false
 | _ => true
def tU : Expr → Bool
 | .Set _ _ _ => false
 | _ => true
def zw : Expr → Bool
 | .List _ _ => false
 | .Set _ _ _ => false
 | _ => true
def yX (sc : Scope) : Bool := !sc.isCoroutine && sc.names.lookup (".0" : Str) == some .local
def dN : Expr → Bool
 | .ListComp _ _ _ _ => false
 | .SetComp _ _ _ _ => false
 | .DictComp _ _ _ _ _ => false
 | _ => true
def G1 : Expr → Bool
 | .ListComp _ _ _ _ => true
 | _ => false
def n5 : Expr → Bool
 | .Tuple _ _ _ => true
 | _ => false
def gk : Expr → Bool
 | .Call (.Name x _) [] [] _ => !(x == ("super" : Str))
 | _ => true
def gT : T → Const → Bool
 | .int i, .int j => i == j
 | .str x, .str y => x == y
 | .bl a, .bool b => a == b
 | .non, .none => true
 | _, _ => false
def eL : Ty → String
 | .int => "int"
 | .bool => "bool"
 | .str => "str"
 | .tuple => "tuple"
 | .list => "list"
def tX : Bf → Option Str
 | .len => some "len"
 | .tuple => some "tuple"
 | .int => some "int"
 | .min2 => some "min"
 | .max2 => some "max"
 | _ => none
def sT : Mt → Option Str
 | .append => some "append"
 | .reverse => some "reverse"
 | .join => some "join"
 | _ => none
def yA : Mt → List Expr → Bool
 | .append, [_] => true
 | .reverse, [] => true
 | .clear, [] => true
 | .join, [_] => true
 | .insert, [_, _] => true
 | .remove, [_] => true
 | _, _ => false
theorem vx {m : Mt} {ys : List Expr} (h : yA m ys = true) : ys.length < 30 := by
 unfold yA at h
 split at h <;> first | (cases h; done) | simp
def mf (f : Str) (n : Nat) (it : Expr) : Option (List Expr) := match it with
 | .Call (.Name g _) ys [] _ => if g == f && ys.length == n then some ys else none
 | _ => none
theorem eW {ys} (h : mf f n it = some ys) : ∃ p pos, it = .Call (.Name f p) ys [] pos ∧ ys.length = n := by
 cases it <;> first | (cases h) | skip
 rename_i fn zs kw pos
 cases fn <;> first | (cases h) | skip
 cases kw with
 | cons _ _ => cases h
 | nil =>
  obtain ⟨h1, rfl⟩ := aH h
  simp_all
def gV (k : Ik) (it : Expr) : Option (List Expr) := match k with
 | .seq => some [it]
 | .rng1 => mf "range" 1 it
 | .rng2 => mf "range" 2 it
 | .enm => mf "enumerate" 1 it
 | .zp => mf "zip" 2 it
def k5 : Ik → Option Str
 | .seq => none
 | .rng1 => some "range"
 | .rng2 => some "range"
 | .enm => some "enumerate"
 | .zp => some "zip"
def wC : Ik → Expr → Bool
 | .enm, t => n5 t
 | .zp, t => n5 t
 | _, _ => true
def nG (C : Ck) (i : Nat) (x : Str) : Bool := C.N[i]? == some x && zd C x
def mW (C : Ck) : List Nat → List Expr → Bool
 | [], [] => true
 | i :: is, .Name x _ :: es => nG C i x && mW C is es
 | _, _ => false
def Ii : Gq → Str → Bool
 | .tuple, f => f == ("tuple" : Str)
 | _, _ => false
def qK (C : Ck) : Tg → Expr → Bool
 | .nm i, .Name x _ => nG C i x
 | .tp is, .Tuple es _ _ => mW C is es
 | _, _ => false
def C3 (scope sc : Scope) : Scope := { scope with names := scope.names.map fun (n, k) => if (k == .free && sc.kind == .function && sc.names.lookup n == some .cell) then (n, .cell) else (n, k) }
def namesOk (N : List Str) : Bool := N.all fun x => !(x == ("__debug__" : Str)) && !(x == ("__classdict__" : Str))
def jB (ix : List (Option Nat)) (t : Tg) : Bool := t.slots.all (fun i => ix[i]? == some none) && decide t.slots.Nodup
def tN (C : Ck) (scope : Scope) (N' : List Str) (ix : List (Option Nat)) (t : Tg) : Bool := aZ C.sc C.N scope N' ix && decide N'.Nodup && namesOk N' && jB ix t
theorem wV {ix : List (Option Nat)} {t : Tg} (h : jB ix t = true) : (∀ i ∈ t.slots, ix[i]? = some none) ∧ t.slots.Nodup :=
 have h := ba h
 ⟨fun i hi => eq_of_beq (List.all_eq_true.mp h.1 i hi), of_decide_eq_true h.2⟩
theorem oy {C : Ck} {scope : Scope} {N' : List Str} {ix : List (Option Nat)} {t : Tg} (h : tN C scope N' ix t = true) : aZ C.sc C.N scope N' ix = true ∧ decide N'.Nodup = true ∧ namesOk N' = true ∧ (∀ i ∈ t.slots, ix[i]? = some none) ∧ t.slots.Nodup :=
 have h := ba h
 have h1 := ba h.1
 have h2 := ba h1.1
 ⟨h2.1, h2.2, h1.2, wV h.2⟩
def rW (S : Sg) (m : Str) (n : Nat) (r : Str × Nat) : Bool := match S.mth r.2 with
 | some (q, m', ps) => q == r.1 && m' == m && ps.length == n
 | none => false
section
variable (S : Sg)
mutual
def dC : E → Ck → Expr → Bool
 | .v i, C, .Name x _ => C.N[i]? == some x && Bs C.sc x
 | .c t, _, .Constant c _ _ => gT t c
 | .c t, _, .UnaryOp .USub (.Constant (.int j) _ _) _ => gT t (.int (-j))
 | .g j, C, .Name x _ => S.gn j == some x && jI C.sc x && !(x == ("__debug__" : Str))
 | .bin o a b, C, .BinOp x op y _ => lC op == some o && dC a C x && dC b C y
 | .cmp o a b, C, .Compare x [op] [y] _ => zI op == some o && !behindInMarks op y && dC a C x && dC b C y
 | .isN a, C, .Compare x [.Is] [.Constant .none _ _] _ => dC a C x
 | .notN a, C, .Compare x [.IsNot] [.Constant .none _ _] _ => dC a C x
 | .and a b, C, .BoolOp .And (x :: y :: r) pos => dC a C x && dC b C (match r with | [] => y | _ :: _ => .BoolOp .And (y :: r) pos)
 | .or a b, C, .BoolOp .Or (x :: y :: r) pos => dC a C x && dC b C (match r with | [] => y | _ :: _ => .BoolOp .Or (y :: r) pos)
 | .not a, C, .UnaryOp .Not x _ => dC a C x
 | .tup es, C, .Tuple xs _ _ => eH es C xs
 | .lst es, C, .List xs _ => eH es C xs
 | .ix a b, C, .Subscript x y _ => kd y && dC a C x && dC b C y
 | .sl a lo hi, C, .Subscript x (.Slice l h none _) _ => dC a C x && HV lo C l && HV hi C h
 | .trg a, C, .Call (.Name f _) [.Call (.Name g _) [x] [] _] [] _ => f == ("tuple" : Str) && g == ("range" : Str) && jI C.sc f && jI C.sc g && cq x && dC a C x
 | .ss a, C, .Call (.Name f _) [.Call (.Name g _) [x] [] _] [] _ => f == ("sorted" : Str) && g == ("set" : Str) && jI C.sc f && jI C.sc g && cq x && dC a C x
 | .call f es, C, .Call (.Name x _) (y :: ys) [] _ => (match S.fns f with
  | some (z, ps) => x == z && ps.length == es.length
  | none => false) && jI C.sc x && !(x == ("__debug__" : Str)) && eH es C (y :: ys)
 | .call f es, C, .Call (.Name x _) [] [] _ => es.isEmpty && (match S.fns f with
  | some (z, ps) => x == z && ps.length == 0
  | none => false) && jI C.sc x && !(x == ("__debug__" : Str))
 | .bf f es, C, .Call (.Name x _) (y :: ys) [] _ => tX f == some x && jI C.sc x && eH es C (y :: ys)
 | .meth m o es, C, .Call (.Attribute x a ap) ys [] cp => sT m == some a && gk x && ap.endLine == cp.line && yA m ys && dC o C x && eH es C ys
 | .isi t a, C, .Call (.Name f _) [x, .Name y _] [] _ => f == ("isinstance" : Str) && y == Str.ofString (eL t) && jI C.sc f && jI C.sc y && cq x && dC a C x
 | .new q, C, .Call (.Name x _) [] [] _ => x == q && S.cls q && jI C.sc x && !(x == ("__debug__" : Str))
 | .nin a b, C, .Compare x [.NotIn] [y] _ => !behindInMarks .NotIn y && dC a C x && dC b C y
 | .mc tab o es, C, .Call (.Attribute x a ap) ys [] cp => gk x && ap.endLine == cp.line && decide (ys.length < 30) && tab.all (fun r => rW S a (es.length + 1) r) && dC o C x && eH es C ys
 | .isc tab q o, C, .Call (.Name f _) [x, .Name y _] [] _ => f == ("isinstance" : Str) && y == q && jI C.sc f && jI C.sc y && !(y == ("__debug__" : Str)) && cq x && !tab.isEmpty && tab.all (fun z => S.sub z.1 q z.2) && dC o C x
 | .frz e, C, x => dC e C x
 | .tr e, C, x => dC e C x
 | .comp N' ix t k src ifs el, C, .ListComp x [⟨tg, it, fs, n⟩] scope _ => n == 0 && tN C scope N' ix t && tU it && wC k tg && (match k5 k with | some f => jI C.sc f | none => true) && (match gV k it with
  | some ys => eH src C ys
  | none => false) && qK ⟨N', C3 scope C.sc, false, false⟩ t tg && eH ifs ⟨N', C3 scope C.sc, false, false⟩ fs && dC el ⟨N', C3 scope C.sc, false, false⟩ x
 | .gen q N' ix t k src ifs el, C, .Call (.Name f _) [.GeneratorExp x [⟨tg, it, fs, n⟩] scope _] [] _ => Ii q f && C.gx && jI C.sc f && n == 0 && tN C scope N' ix t && yX scope && zw it && wC k tg && (match k5 k with | some f => jI C.sc f | none => true) && (match gV k it with
  | some ys => eH src C ys
  | none => false) && qK ⟨N', scope, false, false⟩ t tg && eH ifs ⟨N', scope, false, false⟩ fs && dC el ⟨N', scope, false, false⟩ x
 | _, _, _ => false
def eH : List E → Ck → List Expr → Bool
 | [], _, [] => true
 | e :: es, C, x :: xs => cq x && dC e C x && eH es C xs
 | _, _, _ => false
def HV : Option E → Ck → Option Expr → Bool
 | none, _, none => true
 | some e, C, some x => dC e C x
 | _, _, _ => false
end
end
structure Gd (Γ : Gm) (n : Nat) (C : Ck) (X : Cx) : Prop where
 prog : X.prog = Γ.P
 w : X.w = Γ.w
 K : X.K = Γ.K
 mg : X.mg = Γ.mg
 base : X.base = Γ.base
 calm : X.calm = true
 N : X.N = C.N
 sc : X.env.scope = C.sc
 room : bh (2 * n) X.A
 nd : C.N.Nodup
 nm : namesOk C.N = true
 own : C.own = true → ∀ x, X.fn x = true
 xe : X.xe = fun _ _ => False
 cd : C.gx = true → Bm X.mg X.base ∧ bh (2 * n + 1) X.A ∧ ∃ c P, X.env.code = .ref c ∧ PySem.W.CodeHd X.base c P ∧ P ∈ Γ.tabs
structure Fk (Γ : Gm) (S : Sg) (n : Nat) (F : FT) : Prop where
 gn : S.gn = Γ.gn
 has : ∀ (j : Nat) (x : Str) (ps : List Str), S.fns j = some (x, ps) → GJ Γ.P Γ.w Γ.K Γ.mg Γ.base (2 * n) x ps (rQ Γ F j ps.length)
 mth : ∀ (j : Nat) (q m : Str) (ps : List Str), S.mth j = some (q, m, ps) → ∃ C, be Γ.K C q ∧ j4 Γ.K C ∧ A9 Γ.P Γ.w Γ.K Γ.mg Γ.base (2 * n) C m ps (rQ Γ F j ps.length)
 cls : ∀ q, S.cls q = true → ∃ C, be Γ.K C q ∧ Γ.mg q = some (.ref C) ∧ zu Γ.K C
 sub : ∀ q q' b, S.sub q q' b = true → ∃ C C', be Γ.K C q ∧ Γ.mg q' = some (.ref C') ∧ j4 Γ.K C ∧ xO Γ.K C C' b
 g : Fq Γ
 blt : ∀ x ∈ ([("len" : Str), "tuple", "list", "int", "str", "min", "max", "all", "range", "enumerate", "zip", "any", "sum", "sorted", "set", "isinstance", "bool", "reversed"] : List Str), Γ.mg x = none
theorem nB (h : namesOk N = true) {i : Nat} {x} (e : N[i]? = some x) : (x == "__debug__") = false ∧ (x == "__classdict__") = false := by
 have := List.all_eq_true.mp h x (List.mem_of_getElem? e)
 simpa using this
section
variable {Γ : Gm} {S : Sg} {n : Nat} {F : FT} {X : Cx} {C : Ck}
theorem Bv (h : Bs C.sc x = true) (hs : X.env.scope = C.sc) : yO X.env.scope x := by
 unfold Bs at h
 unfold yO
 split at h <;> simp_all
theorem a8 (h : jI C.sc x = true) (hs : X.env.scope = C.sc) : Gl X x := by
 unfold Gl Env.kindOf
 rw [hs]
 unfold jI at h
 simpa using h
theorem iw (G : Gd Γ n C X) {i} {x} (h : nG C i x = true) : X.N[i]? = some x ∧ Loc X.env.scope x ∧ (X.fn x = true ∨ X.env.scope.names.lookup x = some .local) := by
 unfold nG at h
 simp only [Bool.and_eq_true, beq_iff_eq] at h
 obtain ⟨h1, h2⟩ := h
 rw [G.N, G.sc]
 refine ⟨h1, ?_⟩
 unfold zd at h2
 unfold L2.Loc
 split at h2
 · simp_all
 · rename_i e; exact ⟨.inr e, .inl (G.own h2 x)⟩
 · cases h2
theorem mZ (G : Gd Γ n C X) : ∀ {is} {es}, mW C is es = true → mR X is es
 | [], [], _ => trivial
 | i :: is, .Name x _ :: es, h => by
  have h := Bool.and_eq_true_iff.mp h
  exact ⟨iw G h.1, mZ G h.2⟩
 | [], _ :: _, h => by cases h
 | _ :: _, [], h => by cases h
 | i :: is, .BoolOp .. :: es, h => by cases h
 | i :: is, .NamedExpr .. :: es, h => by cases h
 | i :: is, .BinOp .. :: es, h => by cases h
 | i :: is, .UnaryOp .. :: es, h => by cases h
 | i :: is, .Lambda .. :: es, h => by cases h
 | i :: is, .IfExp .. :: es, h => by cases h
 | i :: is, .Dict .. :: es, h => by cases h
 | i :: is, .Set .. :: es, h => by cases h
 | i :: is, .ListComp .. :: es, h => by cases h
 | i :: is, .SetComp .. :: es, h => by cases h
 | i :: is, .DictComp .. :: es, h => by cases h
 | i :: is, .GeneratorExp .. :: es, h => by cases h
 | i :: is, .Await .. :: es, h => by cases h
 | i :: is, .Yield .. :: es, h => by cases h
 | i :: is, .YieldFrom .. :: es, h => by cases h
 | i :: is, .Compare .. :: es, h => by cases h
 | i :: is, .Call .. :: es, h => by cases h
 | i :: is, .FormattedValue .. :: es, h => by cases h
 | i :: is, .JoinedStr .. :: es, h => by cases h
 | i :: is, .Constant .. :: es, h => by cases h
 | i :: is, .Attribute .. :: es, h => by cases h
 | i :: is, .Subscript .. :: es, h => by cases h
 | i :: is, .Starred .. :: es, h => by cases h
 | i :: is, .List .. :: es, h => by cases h
 | i :: is, .Tuple .. :: es, h => by cases h
 | i :: is, .Slice .. :: es, h => by cases h
theorem vh (G : Gd Γ n C X) {t : Tg} {x : Expr} (h : qK C t x = true) : PG X x (tG Γ t) := by
 cases t with
 | nm i =>
  cases x <;> first | (cases h; done) | skip
  obtain ⟨a, b, c⟩ := iw G h
  exact CS (by rw [G.N]; exact G.nd) a b c
 | tp is =>
  cases x <;> first | (cases h; done) | skip
  exact F8 G.K G.calm (by rw [G.N]; exact G.nd) (mZ G h)
 | nt i is =>
  cases x <;> cases h
theorem nv (G : Gd Γ n C X) {t : Tg} {x : Expr} (h : qK C t x = true) : PG X x (vJ Γ t) := by
 cases t with
 | nm i =>
  cases x <;> first | (cases h; done) | skip
  obtain ⟨a, b, c⟩ := iw G h
  exact wb (by rw [G.N]; exact G.nd) a b c
 | tp is =>
  cases x <;> first | (cases h; done) | skip
  exact Ad G.K G.calm (by rw [G.N]; exact G.nd) (mZ G h)
 | nt i is =>
  cases x <;> cases h
theorem au (h : cq x = true) : starEach (x :: xs) env = (false, eval x env) :: starEach xs env := by
 cases x <;> first | rfl | cases h
theorem rK (h : sY x = true) : ∀ whole, isTrue x env whole = (do let v ← whole; standAt x.pos; holding [v] (truthy v)) := by
 intro whole
 cases x <;> first | rfl | (cases h) | skip
 rename_i op _ _
 cases op <;> first | rfl | (cases h)
theorem ny (h : kd x = true) : jY x := by
 intro o i
 cases x <;> first | rfl | (cases h)
theorem fv (h : tU x = true) : ∀ v, foldedSetIterable x env v = pure v := by
 intro v
 cases x <;> first | rfl | (cases h)
theorem Gd.comp (G : Gd Γ n C X) {scope} {N'} (hn : decide N'.Nodup = true) (hm : namesOk N' = true) (cl : List _) (D : Addr) (ex : List _) (s : Shared) (H : Hp) : Gd Γ n ⟨N', C3 scope C.sc, false, false⟩ (bj X N' scope cl D ex s H) :=
 ⟨G.prog, G.w, G.K, G.mg, G.base, G.calm, rfl, by show relabel _ _ = C3 _ _; unfold relabel C3 Env.kindOf; rw [G.sc], G.room, of_decide_eq_true hn, hm, nofun, rfl, nofun⟩
theorem tx (h : zw x = true) : ∀ v, genFold x env v = pure v := by
 intro v
 cases x <;> first | rfl | (cases h)
theorem Gd.gen (hd4 : d ≤ 4) (G : Gd Γ n C X) (hx : C.gx = true) {scope} {N'} (hn : decide N'.Nodup = true) (hm : namesOk N' = true) (elt : Expr) (gs : List _) (pos : Pos) (cl : List _) (D : Addr) (code : Value) (it : Addr) (ex : List _) (s : Shared) (H : Hp) : Gd Γ n ⟨N', scope, false, false⟩ (dq d X N' elt gs scope pos cl D code it ex s H) :=
 ⟨G.prog, G.w, G.K, G.mg, G.base, G.calm, rfl, rfl, (G.cd hx).2.1.gen4 hd4, of_decide_eq_true hn, hm, nofun, rfl, nofun⟩
end
end I
end
section
namespace I
open PySem L2 PySem.Spec PyProof.Rows
theorem aA {P : Prop} (h : false = true) : P := nomatch h
section
variable {Γ : Gm} {S : Sg} {n : Nat} {F : FT} {X : Cx} {C : Ck}
theorem yL {t} (h : PT X (.BoolOp op vs pos) t) : PW X (.BoolOp op vs pos) t := by
 intro whole pins s σ H Q I q
 have := h _ s σ H Q I q
 exact this
def Ok (Γ : Gm) (F : FT) (X : Cx) (e : E) (x : Expr) : Prop := PE X x (tE Γ F e) ∧ PT X x (tT Γ F e)
theorem Ok.plain (hK : X.K = Γ.K) {e} {x} (h : PE X x (tE Γ F e)) (p : sY x = true) : Ok Γ F X e x := ⟨h, xu hK h (rK p)⟩
def CY (Γ : Gm) (F : FT) (X : Cx) (es : List E) (xs : List Expr) : Prop := PA X xs (tA Γ F es) ∧ PA X xs (tD Γ F es) ∧ PF X xs (tF Γ F es) ∧ xs.all cq = true ∧ es.length = xs.length ∧ ∀ e x, es = [e] → xs = [x] → PE X x (tE Γ F e)
theorem cZ : ∀ {xs}, xs.all cq = true → (backTo pos (starEach xs env)).any (·.1) = false
 | [], _ => rfl
 | x :: xs, h => by
  simp only [List.all_cons, Bool.and_eq_true] at h
  rw [au h.1]
  show (false || (backTo _ _).any _) = false
  rw [cZ h.2]
  rfl
theorem i4 : ∀ {xs}, xs.all cq = true → (backTo pos (starEach xs env)).all (fun x => !x.1) = true
 | [], _ => rfl
 | x :: xs, h => by
  simp only [List.all_cons, Bool.and_eq_true] at h
  rw [au h.1]
  show (true && (backTo _ _).all _) = true
  rw [i4 h.2]
  rfl
theorem c9 (h : gk x = true) : attributeBase x a env (eval x env) = eval x env := by
 unfold attributeBase
 split
 · have := by
    unfold gk at h
    simpa using h
   simp [this]
 · rfl
theorem um {pos} (h : gT t c = true) : PE X (.Constant c j pos) (tE Γ F (.c t)) := by
 cases t <;> cases c <;> first | (cases h; done) | skip
 · exact fj ie fun _ _ _ => rfl
 · have h := eq_of_beq h
   subst h
   exact fj Dr fun _ _ _ => rfl
 · have h := eq_of_beq h
   subst h
   exact fj uq fun _ _ _ => rfl
 · have h := eq_of_beq h
   subst h
   exact fj zW fun _ _ _ => rfl
theorem Cf {p pos} (h : gT t (.int (-i)) = true) : PE X (.UnaryOp .USub (.Constant (.int i) j p) pos) (tE Γ F (.c t)) := by
 cases t <;> first | (cases h) | skip
 have h := eq_of_beq h
 subst h
 refine L2.PE.imp (Eu Am uq) ?_
 rintro σ H Q ⟨φ, st, ρ, en, rl, af⟩
 exact ⟨i, rfl, Af.now af rl rfl⟩
theorem Ew (G : Gd Γ n C X) (hF : Fk Γ S n F) {f : Bf} {x : Str} {p pos : Pos} {y : Expr} {ys : List Expr} {es : List E} (hf : tX f = some x) (hg : Gl X x) (hs : CY Γ F X es (y :: ys)) : PE X (.Call (.Name x p) (y :: ys) [] pos) (tE Γ F (.bf f es)) := by
 obtain ⟨ha, _, _, st, _, zU⟩ := hs
 have h1 : starEach (y :: ys) X.env = (false, eval y X.env) :: starEach ys X.env := au (by simp only [List.all_cons, Bool.and_eq_true] at st; exact st.1)
 have h2 : (backTo pos (starEach ys X.env)).any (·.1) = false := cZ (by simp only [List.all_cons, Bool.and_eq_true] at st; exact st.2)
 have bm : ∀ {z : Str}, Γ.mg z = none → X.mg z = none := fun h => by rw [G.mg]; exact h
 cases f <;> first | (cases hf; done) | skip
 · cases hf; exact L2.PE.imp (dS (EK G.K) hg (bm (hF.blt "len" (by simp))) boot_len ha (by decide) (by decide) h1 h2) (hJ Dj)
 · cases hf; exact L2.PE.imp (jx (qf G.K) hg (bm (hF.blt "tuple" (by simp))) (by decide +kernel) ha (by decide) (by decide) h1 h2) (hJ w6)
 · cases hf; exact L2.PE.imp (jx FQ hg (bm (hF.blt "int" (by simp))) (by decide +kernel) ha (by decide) (by decide) h1 h2) (hJ DP)
 · cases hf; exact L2.PE.imp (dS (rJ G.calm) hg (bm (hF.blt "min" (by simp))) boot_min ha (by decide) (by decide) h1 h2) (hJ CN)
 · cases hf; exact L2.PE.imp (dS (qN G.calm) hg (bm (hF.blt "max" (by simp))) boot_max ha (by decide) (by decide) h1 h2) (hJ Br)
theorem oB (G : Gd Γ n C X) (hF : Fk Γ S n F) {k : Ik} {tg it : Expr} {src : List E} (ht : wC k tg = true) (hn : (match k5 k with | some f => jI C.sc f | none => true) = true) (h5 : (match gV k it with | some ys => eH S src C ys | none => false) = true) (hs : ∀ ys, eH S src C ys = true → CY Γ F X src ys) : PI X tg it (tI Γ F k src) := by
 obtain ⟨ys, ha, pa, _, _, st, hl, zU⟩ : ∃ ys, gV k it = some ys ∧ CY Γ F X src ys := by
  split at h5
  · exact ⟨_, ‹_›, hs _ h5⟩
  · cases h5
 have bm : ∀ {z : Str}, Γ.mg z = none → X.mg z = none := fun h => by rw [G.mg]; exact h
 cases k with
 | seq =>
  cases ha
  match src, hl with
  | [e], _ => exact Eb G.K (zU e _ rfl rfl)
 | rng1 =>
  obtain ⟨p, pos, rfl, hy⟩ := eW ha
  match ys, src, hl, hy with
  | [x], [e], _, _ =>
   simp only [List.all_cons, List.all_nil, Bool.and_true] at st
   exact A6 (a8 hn G.sc) (bm (hF.blt "range" (by simp))) pa (by rw [au st]; rfl)
 | rng2 =>
  obtain ⟨p, pos, rfl, hy⟩ := eW ha
  match ys, src, hl, hy with
  | [x, y], [e, e'], _, _ =>
   simp only [List.all_cons, List.all_nil, Bool.and_true, Bool.and_eq_true] at st
   exact Ca (a8 hn G.sc) (bm (hF.blt "range" (by simp))) pa (by rw [au st.1, au st.2]; rfl) (by rw [au st.2]; rfl)
 | enm =>
  obtain ⟨p, pos, rfl, hy⟩ := eW ha
  match ys, src, hl, hy with
  | [x], [e], _, _ =>
   simp only [List.all_cons, List.all_nil, Bool.and_true] at st
   cases tg <;> first | (cases ht; done) | skip
   exact D1 G.K (a8 hn G.sc) (bm (hF.blt "enumerate" (by simp))) pa (by rw [au st]; rfl)
 | zp =>
  obtain ⟨p, pos, rfl, hy⟩ := eW ha
  match ys, src, hl, hy with
  | [x, y], [e, e'], _, _ =>
   simp only [List.all_cons, List.all_nil, Bool.and_true, Bool.and_eq_true] at st
   cases tg <;> first | (cases ht; done) | skip
   exact Jl G.K (a8 hn G.sc) (bm (hF.blt "zip" (by simp))) pa (au st.1) (cZ (by simp [st.2]))
theorem wM {N' : List Str} {ix : List (Option Nat)} {tg : Tg} {k : Ik} {src ifs : List E} {el : E} {P : Addr} (hP : P ∈ Γ.tabs) (hs : ∀ i ∈ tg.slots, ix[i]? = some none) (hn : tg.slots.Nodup) : ∀ σ H Q, tE Γ F (.gen .tuple N' ix tg k src ifs el) σ H Q → zc P ix (tI Γ F k src) (vJ Γ tg) (tF Γ F ifs) (tE Γ F el) σ H Q := by
 rintro σ H Q ⟨φ, st, ρ, en, rl, af⟩
 exact zn (c := (·.length ≤ aS)) (ev := fun xs gs => ao gs (bY F Γ.G ix tg ifs el ρ) xs []) (f := fun ys st => .ok (.d (.tup ys)) st) en rl af fun pt wk hz hc af => ⟨pt.rl.tab P hP, l6 (en.step pt) pt.rl wk hs hn hz hc fun vs H' φ' r p => Af.tup (Af.re af p) p.rl r⟩
inductive zB (K : PySem.W.Frag) (H : Hp) : V → String → Prop
 | non : zB K H .non "NoneType"
 | bl (x : Bool) : zB K H (.bl x) "bool"
 | int (i : Int) : zB K H (.int i) "int"
 | str (x : Str) : zB K H (.str x) "str"
 | lst {a : Addr} {xs : List V} (e : cO K H a xs) : zB K H (.ref a) "list"
 | tup {a : Addr} {xs : List V} (e : et K H a xs) : zB K H (.ref a) "tuple"
def HW (K : PySem.W.Frag) : List V → Hp → VK → Prop := fun xs H Q => ∃ x n t b, xs = [x, .ty n] ∧ zB K H x t ∧ PySem.W.kitOne K (.type t) (.type n) = some b ∧ Q (.bl b) H
theorem Dx (hK : X.K = Γ.K) : bC X (.builtin "isinstance") (HW Γ.K) := by
 rw [← hK]
 intro pins s σ H xs us Q I rv h
 obtain ⟨x, n, t, b, rfl, ty, e, q⟩ := h
 obtain ⟨u, v, rfl, ru, rv'⟩ := rv.two
 cases rv'
 have da : ∀ tk, EP X _ σ Q _ _ := fun tk => ⟨.bl b, H, I.tok tk, rfl, q⟩
 cases ty with
 | non => exact cT I ru .non e da
 | bl y => exact cT I ru (.bl y) e da
 | int y => exact cT I ru (.int y) e da
 | str y => exact cT I ru (.str y) e da
 | @lst a xs ea =>
  cases show u = Value.ref a from ru
  obtain ⟨its, _, p, _⟩ := I.list ea
  obtain ⟨o, h1, h2, _⟩ := p.isList
  exact PySem.W.kia_one PySem.W.kitx_list I.kIn ⟨o, h1, h2⟩ e nofun da
 | @tup a xs ea =>
  cases show u = Value.ref a from ru
  obtain ⟨its, _, p, _⟩ := I.tuple ea
  obtain ⟨o, h1, h2, _⟩ := p
  exact PySem.W.kia_one PySem.W.kitx_tuple I.kIn ⟨o, h1, h2⟩ e nofun da
theorem Ak {st} {H} {w} {v} {t} {n} (hi : eX t = true) (rl : Rl Γ φ st H) (r : RW Γ φ st H w v) (h : look w st = some t) : ∃ s, zB Γ.K H v s ∧ PySem.W.kitOne Γ.K (.type s) (.type (eL n)) = some (Hq n t) := by
 cases t with
 | non =>
  rcases r.look rl h with z | ⟨_, _, _, _, _, e, _⟩
  · cases z; exact ⟨_, .non, by cases n <;> rfl⟩
  · cases e
 | bl b => rw [r.bl rl h]; exact ⟨_, .bl b, by cases n <;> rfl⟩
 | int b => rw [r.int rl h]; exact ⟨_, .int b, by cases n <;> rfl⟩
 | str b => rw [r.str rl h]; exact ⟨_, .str b, by cases n <;> rfl⟩
 | tup xs => obtain ⟨a, vs, rfl, q, _⟩ := r.tup rl h; exact ⟨_, .tup q, by cases n <;> rfl⟩
 | lst xs => obtain ⟨a, vs, rfl, q, _⟩ := r.lst rl h; exact ⟨_, .lst q, by cases n <;> rfl⟩
 | ins _ => cases hi
theorem yf (n : Ty) : bootBuiltins (Str.ofString (eL n)) = some (.type (eL n)) := by cases n <;> decide +kernel
theorem BV (G : Gd Γ n C X) (hF : Fk Γ S n F) {t} {y} {a} {p pz pos} (hf : Gl X "isinstance") (hz : Gl X (Str.ofString (eL t))) (hn : cq y = true) (h : PE X y (tE Γ F a)) : PE X (.Call (.Name "isinstance" p) [y, .Name (Str.ofString (eL t)) pz] [] pos) (tE Γ F (.isi t a)) := by
 have bm : ∀ {z}, Γ.mg z = none → X.mg z = none := fun h => by rw [G.mg]; exact h
 have ht : PE X (.Name _ pz) (tC (.ty _)) := ye hz (bm (hF.blt _ (by cases t <;> simp [eL]))) (yf t) rfl (by cases t <;> decide) (by cases t <;> decide)
 refine L2.PE.imp (dS (Dx G.K) hf (bm (hF.blt _ (by simp))) boot_isinstance (dZ h (dZ ht kx rfl) (au hn)) (by decide) rfl (au hn) rfl) ?_
 rintro σ H Q ⟨φ, st, ρ, en, rl, af⟩
 refine ⟨φ, st, ρ, en, rl, af.bind.mono fun v H1 ⟨w, st1, φ1, rw1, pt, af1⟩ => ?_⟩
 cases h2 : look w _ with
 | none => rw [h2] at af1; exact af1.elim
 | some u =>
  simp only [h2] at af1
  split at af1
  · rename_i hi
    obtain ⟨s, e1, e2⟩ := Ak hi pt.rl rw1 h2
    exact ⟨v, _, s, _, rfl, e1, e2, af1.now pt.rl rfl⟩
  · exact af1.elim
theorem Ae {x y : W} {st st' : ae} {w : W} (h : m7 x y st = .ok w st') : ∃ b, w = .d (.bl b) := by
 unfold m7 at h
 split at h
 · split at h
   · split at h
     · cases h; exact ⟨_, rfl⟩
     · cases h
   · cases h
 · cases h
theorem mem_lookup {α : Type} {tab : List (Str × α)} {q : Str} {f : α} (h : tab.lookup q = some f) : (q, f) ∈ tab := by
 induction tab with
 | nil => cases h
 | cons r tab ih =>
  obtain ⟨q', f'⟩ := r
  rw [List.lookup_cons] at h
  cases e : q == q' with
  | true =>
   rw [e] at h
   cases h
   rw [eq_of_beq e]
   exact List.mem_cons_self
  | false =>
   rw [e] at h
   exact List.mem_cons_of_mem _ (ih h)
theorem EV (G : Gd Γ n C X) (hF : Fk Γ S n F) {tab : List (Str × Nat)} {x : Expr} {a : Str} {ap cp : Pos} {ys : List Expr} {o : E} {es : List E} (hb : gk x = true) (hl : (ap.endLine == cp.line) = true) (h30 : ys.length < 30) (ht : tab.all (fun r => rW S a (es.length + 1) r) = true) (ho : PE X x (tE Γ F o)) (hs : CY Γ F X es ys) : PE X (.Call (.Attribute x a ap) ys [] cp) (tE Γ F (.mc tab o es)) := by
 obtain ⟨pa, _, _, st, hlen, zU⟩ := hs
 have hm : ∀ q f, tab.lookup q = some f → yH Γ (2 * n) F X q a f (es.length + 1) := fun q f h => by
  have hr := List.all_eq_true.mp ht (q, f) (mem_lookup h)
  unfold rW at hr
  cases e : S.mth f with
  | none => simp only [e] at hr; cases hr
  | some z =>
   obtain ⟨q', m', ps⟩ := z
   simp only [e, Bool.and_eq_true, beq_iff_eq] at hr
   obtain ⟨⟨rfl, rfl⟩, hp⟩ := hr
   obtain ⟨A, hC, cl, hm⟩ := hF.mth f _ _ ps e
   rw [hp] at hm
   rw [← G.prog, ← G.w, ← G.K, ← G.mg, ← G.base] at hm
   exact ⟨A, ps, hp, hC, by rw [G.K]; exact cl, hm⟩
 cases ys with
 | nil =>
  have he : es = [] := by cases es with | nil => rfl | cons _ _ => cases hlen
  subst he
  refine L2.PE.imp (B4 ho (c9 hb) hl) fun σ H Q q => ?_
  obtain ⟨φ, st, ρ, en, rl, af⟩ := sv G.room hm σ H Q q
  exact ⟨φ, st, ρ, en, rl, af.mono fun v H1 ⟨a, C, dx, fs, f, fd, k, ps, sp, e1, e2, e3, e4, e5, e6, e7, e8, φ1, st1, ρ1, en1, rl1, af1⟩ => ⟨a, C, dx, fs, f, fd, k, ps, sp, e1, e2, e3, e4, e5, e6, e7, e8, af1 [] H1 φ1 rfl (Pt.refl rl1)⟩⟩
 | cons y zs =>
  have few : ((backTo cp (starEach (y :: zs) X.env)).all (fun x => !x.1) && (backToKw cp (keywordEach [] X.env)).all (fun x => x.1.isSome)
   && decide ((y :: zs).length + ([] : List Keyword).length + (if ([] : List Keyword).isEmpty then 0 else 1) < 30)) = true := by
   rw [i4 st]
   show (true && true && decide ((y :: zs).length + 0 + 0 < 30)) = true
   rw [decide_eq_true (show (y :: zs).length + 0 + 0 < 30 from h30)]
   rfl
  simp only [List.all_cons, Bool.and_eq_true] at st
  exact L2.PE.imp (DZ ho pa (c9 hb) few hl (au st.1) (cZ st.2)) (sv G.room hm)
theorem BD (G : Gd Γ n C X) (hF : Fk Γ S n F) {tab : List (Str × Bool)} {q' : Str} {y : Expr} {o : E} {p pz pos : Pos} (hf : Gl X "isinstance") (hz : Gl X q') (hd : (q' == ("__debug__" : Str)) = false) (hn : cq y = true) (he : tab.isEmpty = false) (hy : tab.all (fun z => S.sub z.1 q' z.2) = true) (h : PE X y (tE Γ F o)) : PE X (.Call (.Name "isinstance" p) [y, .Name q' pz] [] pos) (tE Γ F (.isc tab q' o)) := by
 have bm : ∀ {z : Str}, Γ.mg z = none → X.mg z = none := fun h => by rw [G.mg]; exact h
 have hy := List.all_eq_true.mp hy
 obtain ⟨z, hz'⟩ : ∃ z, z ∈ tab := by
  cases tab with
  | nil => cases he
  | cons z _ => exact ⟨z, List.mem_cons_self⟩
 obtain ⟨_, C', _, hm, _⟩ := hF.sub z.1 q' z.2 (hy z hz')
 have hall : ∀ q b, tab.lookup q = some b → ∃ C, be Γ.K C q ∧ j4 Γ.K C ∧ xO Γ.K C C' b := fun q b hq => by
  obtain ⟨C, C'', h1, h2, h3⟩ := hF.sub q q' b (hy (q, b) (mem_lookup hq))
  rw [hm] at h2
  cases h2
  exact ⟨C, h1, h3⟩
 refine L2.PE.imp (dS (Fe G.K) hf (bm (hF.blt "isinstance" (by simp))) boot_isinstance (dZ h (dZ (oQ (v := .ref C') hz (by rw [G.mg]; exact hm) rfl hd) kx rfl) (au hn)) (by decide) (by decide) (au hn) rfl) ?_
 intro σ H Q q
 exact xg hall σ H Q q
theorem yz (G : Gd Γ n C X) {m : Mt} {x : Expr} {a : Str} {ap cp : Pos} {ys : List Expr} {o : E} {es : List E} (hm : sT m = some a) (hb : gk x = true) (hl : (ap.endLine == cp.line) = true) (har : yA m ys = true) (ho : PE X x (tE Γ F o)) (hs : CY Γ F X es ys) : PE X (.Call (.Attribute x a ap) ys [] cp) (tE Γ F (.meth m o es)) := by
 obtain ⟨_, pd, _, st, hlen, zU⟩ := hs
 have few : ∀ {y : Expr} {zs : List Expr}, ys = y :: zs → ((backTo cp (starEach (y :: zs) X.env)).all (fun x => !x.1) && (backToKw cp (keywordEach [] X.env)).all (fun x => x.1.isSome)
  && decide ((y :: zs).length + ([] : List Keyword).length + (if ([] : List Keyword).isEmpty then 0 else 1) < 30)) = true := fun {y zs} e => by
  rw [← e, i4 st]
  show (true && true && decide (ys.length + 0 + 0 < 30)) = true
  rw [decide_eq_true (show ys.length + 0 + 0 < 30 from vx har)]
  rfl
 have h1 : ∀ {y : Expr} {zs : List Expr}, ys = y :: zs → starEach (y :: zs) X.env = (false, eval y X.env) :: starEach zs X.env ∧ (backTo cp (starEach zs X.env)).any (·.1) = false := fun {y zs} e => by
  rw [e] at st
  simp only [List.all_cons, Bool.and_eq_true] at st
  exact ⟨au st.1, cZ st.2⟩
 cases m <;> first | (cases hm; done) | skip
 · cases hm
   match ys, es, hlen with
   | [], [], _ => exact aA har
   | y :: zs, es, _ => exact L2.PE.imp (uD (K := Γ.K) G.K PySem.F.plainAttrs_list PySem.F.slot_list_append PySem.F.type_list_append rh ho pd (c9 hb) (few rfl) hl (h1 rfl).1 (h1 rfl).2) (vN vt fun _ _ => rfl)
 · cases hm
   match ys, es, hlen with
   | [], [], _ => exact L2.PE.imp (ww (K := Γ.K) G.K PySem.F.plainAttrs_list PySem.F.slot_list_reverse PySem.F.type_list_reverse nI ho (c9 hb) hl) (si rN fun _ _ => rfl)
   | y :: zs, es, _ => exact aA har
 · cases hm
   match ys, es, hlen with
   | [y], [e], _ => exact L2.PE.imp (uD (K := Γ.K) G.K PySem.F.plainAttrs_str PySem.F.slot_str_join PySem.F.type_str_join (CO G.K) ho pd (c9 hb) (few rfl) hl (h1 rfl).1 (h1 rfl).2) u6
   | [], [], _ => exact aA har
   | _ :: _ :: _, _ :: _ :: _, _ => exact aA har
end
mutual
theorem aM {Γ : Gm} {S : Sg} {n : Nat} {F : FT} (hF : Fk Γ S n F) : ∀ (e : E) (C : Ck) (x : Expr) (X : Cx), dC S e C x = true → Gd Γ n C X → Ok Γ F X e x
 | .v i, C, x, X, h, G => by
  cases x <;> try exact aA h
  replace h := ba h
  simp only [Bool.and_eq_true, beq_iff_eq] at h
  obtain ⟨a, b⟩ := nB G.nm h.1
  exact .plain G.K (HG (by rw [G.N]; exact h.1) (Bv h.2 G.sc) a b) rfl
 | .c t, C, x, X, h, G => by
  cases x <;> try exact aA h
  · rename_i op e pos
    cases op <;> try exact aA h
    cases e <;> try exact aA h
    rename_i c j p
    cases c <;> try exact aA h
    exact .plain G.K (Cf h) rfl
  · exact .plain G.K (um h) rfl
 | .g j, C, x, X, h, G => by
  cases x <;> try exact aA h
  replace h := ba h
  simp only [Bool.and_eq_true, beq_iff_eq, Bool.not_eq_true'] at h
  exact .plain G.K (Jq hF.g G.mg (a8 h.1.2 G.sc) (by rw [← hF.gn]; exact h.1.1) h.2) rfl
 | .bin o a b, C, x, X, h, G => by
  cases x <;> try exact aA h
  replace h := ba h
  simp only [Bool.and_eq_true, beq_iff_eq] at h
  obtain ⟨r, h1, h2⟩ := BJ G.K h.1.1
  exact .plain G.K (L2.PE.imp (DR h1 (aM hF a C _ X h.1.2 G).1 (aM hF b C _ X h.2 G).1) (GD (a := a) (b := b) (fun _ _ => by first | rfl | (simp only [aj]; rfl) | simp only [aj]) h2)) rfl
 | .cmp o a b, C, x, X, h, G => by
  cases x <;> try exact aA h
  rename_i l ops cs pos
  rcases ops with _ | ⟨op, _ | ⟨_, _⟩⟩ <;> rcases cs with _ | ⟨y, _ | ⟨_, _⟩⟩ <;> try exact aA h
  · skip
    replace h := ba h
    simp only [Bool.and_eq_true, beq_iff_eq, Bool.not_eq_true'] at h
    obtain ⟨⟨⟨h1, h2⟩, h3⟩, h4⟩ := h
    obtain ⟨r, k1, k2⟩ := zS G.K G.room.units h1
    have i := GD (F := F) (e := .cmp o a b) (a := a) (b := b) (fun _ _ => by first | rfl | (simp only [aj]; rfl) | simp only [aj]) k2
    refine ⟨L2.PE.imp (gS k1 (aM hF a C _ X h3 G).1 (aM hF b C _ X h4 G).1 h2) i, gQ (gH k1 (aM hF a C _ X h3 G).1 (aM hF b C _ X h4 G).1 h2) i fun ρ st w st' q => ?_⟩
    simp only [aj] at q
    cases q1 : aj F Γ.G a ρ st with
    | ok w1 st1 =>
     rw [q1] at q
     simp only [ai.bind] at q
     cases q2 : aj F Γ.G b ρ st1 with
     | ok w2 st2 => rw [q2] at q; exact let ⟨b, e, _⟩ := Ba q; ⟨b, e⟩
     | _ => rw [q2] at q; cases q
    | _ => rw [q1] at q; cases q
 | .isN a, C, x, X, h, G => by
  cases x <;> try exact aA h
  rename_i l ops cs pos
  rcases ops with _ | ⟨op, _ | ⟨_, _⟩⟩ <;> (try exact aA h) <;> cases op <;> (try exact aA h) <;> rcases cs with _ | ⟨y, _ | ⟨_, _⟩⟩ <;> (try exact aA h) <;> cases y <;> (try exact aA h) <;> rename_i cn _ _ <;> cases cn <;> (try exact aA h)
  · skip
    have ih := (aM hF a C _ X h G).1
    exact ⟨AD ih, gQ (gH tQ ih ie (jT _)) ph (zG fun ρ st => ⟨a, _, by first | rfl | (simp only [aj]; rfl) | simp only [aj]⟩)⟩
 | .notN a, C, x, X, h, G => by
  cases x <;> try exact aA h
  rename_i l ops cs pos
  rcases ops with _ | ⟨op, _ | ⟨_, _⟩⟩ <;> (try exact aA h) <;> cases op <;> (try exact aA h) <;> rcases cs with _ | ⟨y, _ | ⟨_, _⟩⟩ <;> (try exact aA h) <;> cases y <;> (try exact aA h) <;> rename_i cn _ _ <;> cases cn <;> (try exact aA h)
  · skip
    have ih := (aM hF a C _ X h G).1
    exact ⟨wQ ih, gQ (gH oU ih ie (jT _)) lR (zG fun ρ st => ⟨a, _, by first | rfl | (simp only [aj]; rfl) | simp only [aj]⟩)⟩
 | .and a b, C, x, X, h, G => by
  cases x <;> try exact aA h
  rename_i op vs pos
  rcases vs with _ | ⟨y, _ | ⟨z, _ | ⟨w, r⟩⟩⟩ <;> cases op <;> try exact aA h
  · skip
    replace h := ba h
    have ha := aM hF a C _ X h.1 G
    have hb := aM hF b C _ X h.2 G
    refine ⟨L2.PE.imp (oF ha.1 (vm hb.1)) fun σ H Q q => ?_, L2.PT.imp (PW.pt (sI ha.2 (vL hb.2))) E9⟩
    rw [G.K]
    exact and_imp σ H Q q
  · skip
    replace h := ba h
    have ha := aM hF a C _ X h.1 G
    have hb := aM hF b C _ X h.2 G
    refine ⟨L2.PE.imp (oF ha.1 hb.1) fun σ H Q q => ?_, L2.PT.imp (PW.pt (sI ha.2 (yL hb.2))) E9⟩
    rw [G.K]
    exact and_imp σ H Q q
 | .or a b, C, x, X, h, G => by
  cases x <;> try exact aA h
  rename_i op vs pos
  rcases vs with _ | ⟨y, _ | ⟨z, _ | ⟨w, r⟩⟩⟩ <;> cases op <;> try exact aA h
  · skip
    replace h := ba h
    have ha := aM hF a C _ X h.1 G
    have hb := aM hF b C _ X h.2 G
    refine ⟨L2.PE.imp (sJ ha.1 (vm hb.1)) fun σ H Q q => ?_, L2.PT.imp (PW.pt (zQ ha.2 (AX hb.2))) JG⟩
    rw [G.K]
    exact or_imp σ H Q q
  · skip
    replace h := ba h
    have ha := aM hF a C _ X h.1 G
    have hb := aM hF b C _ X h.2 G
    refine ⟨L2.PE.imp (sJ ha.1 hb.1) fun σ H Q q => ?_, L2.PT.imp (PW.pt (zQ ha.2 (yL hb.2))) JG⟩
    rw [G.K]
    exact or_imp σ H Q q
 | .not a, C, x, X, h, G => by
  cases x <;> try exact aA h
  rename_i op y pos
  cases op <;> try exact aA h
  have ha := aM hF a C _ X h G
  refine ⟨L2.PE.imp (yD ha.1) fun σ H Q q => ?_, L2.PT.imp (Bj ha.2) Jo⟩
  rw [G.K]
  exact v4 σ H Q q
 | .tup es, C, x, X, h, G => by
  cases x <;> try exact aA h
  exact .plain G.K (AH (cL hF es C _ X h G).2.1) rfl
 | .lst es, C, x, X, h, G => by
  cases x <;> try exact aA h
  exact .plain G.K (Bd (cL hF es C _ X h G).2.1) rfl
 | .ix a b, C, x, X, h, G => by
  cases x <;> try exact aA h
  replace h := ba h
  simp only [Bool.and_eq_true] at h
  exact .plain G.K (BG G.K (aM hF a C _ X h.1.2 G).1 (aM hF b C _ X h.2 G).1 (ny h.1.1)) rfl
 | .sl a lo hi, C, x, X, h, G => by
  cases x <;> try exact aA h
  rename_i y z pos
  cases z <;> try exact aA h
  rename_i l u s p
  cases s with
  | some _ => exact aA h
  | none =>
   replace h := ba h
   simp only [Bool.and_eq_true] at h
   exact .plain G.K (Bc G.K (aM hF a C _ X h.1.1 G).1 (FL hF lo C _ X h.1.2 G) (FL hF hi C _ X h.2 G)) rfl
 | .trg a, C, x, X, h, G => by
  cases x <;> try exact aA h
  rename_i fn ys kw pos
  cases fn <;> try exact aA h
  rename_i f p
  rcases ys with _ | ⟨y, tl⟩ <;> try exact aA h
  cases y <;> try exact aA h
  rename_i gn zs kw2 pos2
  cases gn <;> try exact aA h
  rename_i g p2
  rcases zs with _ | ⟨z, _ | ⟨_, _⟩⟩ <;> try exact aA h
  rcases kw2 with _ | ⟨_, _⟩ <;> rcases tl with _ | ⟨_, _⟩ <;> rcases kw with _ | ⟨_, _⟩ <;> try exact aA h
  · skip
    replace h := ba h
    simp only [Bool.and_eq_true, beq_iff_eq] at h
    obtain ⟨⟨⟨⟨⟨h1, h2⟩, h3⟩, h4⟩, h5⟩, h6⟩ := h
    subst h1 h2
    have bm : ∀ {z : Str}, Γ.mg z = none → X.mg z = none := fun h => by rw [G.mg]; exact h
    exact .plain G.K (z9 G.room.hd (a8 h3 G.sc) (a8 h4 G.sc) (bm (hF.blt "tuple" (by simp))) (bm (hF.blt "range" (by simp))) (au h5) (aM hF a C _ X h6 G).1) rfl
 | .ss a, C, x, X, h, G => by
  cases x <;> try exact aA h
  rename_i fn ys kw pos
  cases fn <;> try exact aA h
  rename_i f p
  rcases ys with _ | ⟨y, tl⟩ <;> try exact aA h
  cases y <;> try exact aA h
  rename_i gn zs kw2 pos2
  cases gn <;> try exact aA h
  rename_i g p2
  rcases zs with _ | ⟨z, _ | ⟨_, _⟩⟩ <;> try exact aA h
  rcases kw2 with _ | ⟨_, _⟩ <;> rcases tl with _ | ⟨_, _⟩ <;> rcases kw with _ | ⟨_, _⟩ <;> try exact aA h
  · skip
    replace h := ba h
    simp only [Bool.and_eq_true, beq_iff_eq] at h
    obtain ⟨⟨⟨⟨⟨h1, h2⟩, h3⟩, h4⟩, h5⟩, h6⟩ := h
    subst h1 h2
    have bm : ∀ {z : Str}, Γ.mg z = none → X.mg z = none := fun h => by rw [G.mg]; exact h
    exact .plain G.K (Dn G.K G.room.hd (a8 h3 G.sc) (a8 h4 G.sc) (bm (hF.blt "sorted" (by simp))) (bm (hF.blt "set" (by simp))) (au h5) (aM hF a C _ X h6 G).1) rfl
 | .call f es, C, x, X, h, G => by
  cases x <;> try exact aA h
  rename_i fn ys kw pos
  cases fn <;> try exact aA h
  rename_i x p
  rcases ys with _ | ⟨y, ys⟩ <;> rcases kw with _ | ⟨_, _⟩ <;> try exact aA h
  · skip
    replace h := ba h
    simp only [Bool.and_eq_true, Bool.not_eq_true', List.isEmpty_iff] at h
    obtain ⟨⟨⟨rfl, h1⟩, h2⟩, h3⟩ := h
    cases q : S.fns f with
    | none => rw [q] at h1; cases h1
    | some z =>
     obtain ⟨z, ps⟩ := z
     rw [q] at h1
     simp only [Bool.and_eq_true, beq_iff_eq] at h1
     obtain ⟨rfl, hl⟩ := h1
     obtain ⟨g, fd, Fn, hm, hk, hb⟩ := (hF.has f x ps q).ex
     rw [← G.prog, ← G.w, ← G.K, ← G.mg, ← G.base] at *
     exact .plain G.K (L2.PE.imp (sO Fn G.room (a8 h2 G.sc) hm hk hb .nil o1 h3) fun σ H Q z => by
      obtain ⟨φ, st, ρ, en, rl, af⟩ := mE (n := 0) rfl trivial σ H Q z
      rw [hl]
      exact af [] H φ rfl (Pt.refl rl)) rfl
  · skip
    replace h := ba h
    simp only [Bool.and_eq_true, Bool.not_eq_true'] at h
    obtain ⟨⟨⟨h1, h2⟩, h3⟩, h4⟩ := h
    cases q : S.fns f with
    | none => rw [q] at h1; cases h1
    | some z =>
     obtain ⟨z, ps⟩ := z
     rw [q] at h1
     simp only [Bool.and_eq_true, beq_iff_eq] at h1
     obtain ⟨rfl, hl⟩ := h1
     have hs := cL hF es C _ X h4 G
     have st := hs.2.2.2.1
     simp only [List.all_cons, Bool.and_eq_true] at st
     have hh := hF.has f x ps q
     rw [← G.prog, ← G.w, ← G.K, ← G.mg, ← G.base] at hh
     exact .plain G.K (L2.PE.imp (B2 hh G.room (a8 h2 G.sc) hs.1 h3 (au st.1) (cZ st.2)) (mE hl.symm trivial)) rfl
 | .bf f es, C, x, X, h, G => by
  cases x <;> try exact aA h
  rename_i fn ys kw pos
  cases fn <;> try exact aA h
  rename_i x p
  rcases ys with _ | ⟨y, ys⟩ <;> rcases kw with _ | ⟨_, _⟩ <;> try exact aA h
  · skip
    replace h := ba h
    simp only [Bool.and_eq_true, beq_iff_eq] at h
    exact .plain G.K (Ew G hF h.1.1 (a8 h.1.2 G.sc) (cL hF es C _ X h.2 G)) rfl
 | .meth m o es, C, x, X, h, G => by
  cases x <;> try exact aA h
  rename_i fn ys kw pos
  cases fn <;> try exact aA h
  rename_i x a ap
  rcases kw with _ | ⟨_, _⟩ <;> try exact aA h
  · skip
    replace h := ba h
    simp only [Bool.and_eq_true, beq_iff_eq] at h
    obtain ⟨⟨⟨⟨⟨h1, h2⟩, h3⟩, h4⟩, h5⟩, h6⟩ := h
    exact .plain G.K (yz G h1 h2 (by simpa using h3) h4 (aM hF o C _ X h5 G).1 (cL hF es C _ X h6 G)) rfl
 | .isi t a, C, x, X, h, G => by
  cases x <;> try exact aA h
  rename_i fn ys kw pos
  cases fn <;> try exact aA h
  rename_i f p
  rcases ys with _ | ⟨y, _ | ⟨y2, _ | ⟨_, _⟩⟩⟩ <;> try exact aA h
  rotate_left
  · cases y2 <;> first | exact aA h | (rcases kw with _ | ⟨_, _⟩ <;> exact aA h)
  cases y2 <;> try exact aA h
  rename_i z pz
  rcases kw with _ | ⟨_, _⟩ <;> try exact aA h
  · skip
    replace h := ba h
    simp only [Bool.and_eq_true, beq_iff_eq] at h
    obtain ⟨⟨⟨⟨⟨h1, h2⟩, h3⟩, h4⟩, h5⟩, h6⟩ := h
    subst h1 h2
    exact .plain G.K (BV G hF (a8 h3 G.sc) (a8 h4 G.sc) h5 (aM hF a C y X h6 G).1) rfl
 | .new q, C, x, X, h, G => by
  cases x <;> try exact aA h
  rename_i fn ys kw pos
  cases fn <;> try exact aA h
  rename_i z p
  rcases ys with _ | ⟨_, _⟩ <;> rcases kw with _ | ⟨_, _⟩ <;> try exact aA h
  · skip
    replace h := ba h
    simp only [Bool.and_eq_true, beq_iff_eq, Bool.not_eq_true'] at h
    obtain ⟨⟨⟨rfl, h2⟩, h3⟩, h4⟩ := h
    obtain ⟨A, hC, hm, mk⟩ := hF.cls _ h2
    exact .plain G.K (L2.PE.imp (AK (C := A) (by rw [G.K]; exact mk) (a8 h3 G.sc) (by rw [G.mg]; exact hm) h4) (yw hC)) rfl
 | .nin a b, C, x, X, h, G => by
  cases x <;> try exact aA h
  rename_i l ops cs pos
  rcases ops with _ | ⟨op, _ | ⟨_, _⟩⟩ <;> rcases cs with _ | ⟨y, _ | ⟨_, _⟩⟩ <;> (try exact aA h) <;> cases op <;> (try exact aA h)
  · skip
    replace h := ba h
    simp only [Bool.and_eq_true, Bool.not_eq_true'] at h
    obtain ⟨⟨h2, h3⟩, h4⟩ := h
    have k1 := xt (X := X) G.K G.room.units
    have i := GD (Γ := Γ) (F := F) (e := .nin a b) (a := a) (b := b) (fun _ _ => by first | rfl | (simp only [aj]; rfl) | simp only [aj]) FE
    refine ⟨L2.PE.imp (gS k1 (aM hF a C _ X h3 G).1 (aM hF b C _ X h4 G).1 h2) i, gQ (gH k1 (aM hF a C _ X h3 G).1 (aM hF b C _ X h4 G).1 h2) i fun ρ st w st' q => ?_⟩
    simp only [aj] at q
    cases q1 : aj F Γ.G a ρ st with
    | ok w1 st1 =>
     rw [q1] at q
     simp only [ai.bind] at q
     cases q2 : aj F Γ.G b ρ st1 with
     | ok w2 st2 => rw [q2] at q; exact Ae q
     | _ => rw [q2] at q; cases q
    | _ => rw [q1] at q; cases q
 | .mc tab o es, C, x, X, h, G => by
  cases x <;> try exact aA h
  rename_i fn ys kw pos
  cases fn <;> try exact aA h
  rename_i y a ap
  rcases kw with _ | ⟨_, _⟩ <;> try exact aA h
  · skip
    replace h := ba h
    simp only [Bool.and_eq_true, decide_eq_true_eq] at h
    obtain ⟨⟨⟨⟨⟨h1, h2⟩, h3⟩, h4⟩, h5⟩, h6⟩ := h
    exact .plain G.K (EV G hF h1 h2 h3 h4 (aM hF o C _ X h5 G).1 (cL hF es C _ X h6 G)) rfl
 | .isc tab q' o, C, x, X, h, G => by
  cases x <;> try exact aA h
  rename_i fn ys kw pos
  cases fn <;> try exact aA h
  rename_i f p
  rcases ys with _ | ⟨y, _ | ⟨y2, _ | ⟨_, _⟩⟩⟩ <;> try exact aA h
  rotate_left
  · cases y2 <;> first | exact aA h | (rcases kw with _ | ⟨_, _⟩ <;> exact aA h)
  cases y2 <;> try exact aA h
  rename_i z pz
  rcases kw with _ | ⟨_, _⟩ <;> try exact aA h
  · skip
    replace h := ba h
    simp only [Bool.and_eq_true, beq_iff_eq, Bool.not_eq_true'] at h
    obtain ⟨⟨⟨⟨⟨⟨⟨⟨h1, h2⟩, h3⟩, h4⟩, h5⟩, h6⟩, h7⟩, h8⟩, h9⟩ := h
    subst h1 h2
    exact .plain G.K (BD G hF (a8 h3 G.sc) (a8 h4 G.sc) h5 h6 h7 h8 (aM hF o C y X h9 G).1) rfl
 | .frz e, C, x, X, h, G => by
  have ih := aM hF e C x X h G
  refine ⟨L2.PE.imp ih.1 fun σ H Q ⟨φ, st, ρ, en, rl, af⟩ => ⟨φ, st, ρ, en, rl, by simp only [aj] at af; exact af.frz rl⟩, L2.PT.imp ih.2 fun σ H Q ⟨φ, st, ρ, en, rl, af⟩ => ⟨φ, st, ρ, en, rl, ?_⟩⟩
  unfold lq at af ⊢
  simp only [aj] at af
  cases h1 : aj F Γ.G e ρ st with
  | ok w st1 =>
   rw [h1] at af
   simp only [ai.bind] at af ⊢
   cases h2 : aO st.length w st1 with
   | ok t st2 =>
    rw [h2] at af
    simp only at af
    have ht : aR w st1 = aR (.d t) st2 := by
     cases w with
     | d u => cases h2; rfl
     | ref k =>
      cases q : st1[k]? with
      | none => simp [aO, q] at h2
      | some o =>
       cases o with
       | none => simp [aO, q] at h2
       | some xs =>
        simp only [aO, q, ai.ok.injEq] at h2
        obtain ⟨rfl, _⟩ := h2
        simp [aR, look, q]
    rw [ht]
    cases h3 : aR (.d t) st2 with
    | none => rw [h3] at af; exact af.elim
    | some b =>
     rw [h3] at af
     intro H1 φ1 pt
     have : ∃ φ2, Pt Γ φ st H φ2 st2 H1 := by
      cases w with
      | d u => cases h2; exact ⟨_, pt.cut rl.len⟩
      | ref k =>
       cases q : st1[k]? with
       | none => simp [aO, q] at h2
       | some o =>
        cases o with
        | none => simp [aO, q] at h2
        | some xs =>
         have hk := (List.getElem?_eq_some_iff.mp q).1
         rw [← pt.rl.len] at hk
         obtain ⟨φ2, p2, _⟩ := ig (w := .ref k) rl.len pt ⟨φ1[k], List.getElem?_eq_getElem hk, rfl⟩ h2
         exact ⟨φ2, p2⟩
     obtain ⟨φ2, p2⟩ := this
     exact af H1 φ2 p2
   | _ => rw [h2] at af; exact af.elim
  | _ => rw [h1] at af; exact af.elim
 | .tr e, C, x, X, h, G => by
  have ih := aM hF e C x X h G
  refine ⟨L2.PE.imp ih.1 fun σ H Q ⟨φ, st, ρ, en, rl, af⟩ => ⟨φ, st, ρ, en, rl, by simp only [aj] at af; exact af.tr rl⟩, L2.PT.imp ih.2 fun σ H Q ⟨φ, st, ρ, en, rl, af⟩ => ⟨φ, st, ρ, en, rl, ?_⟩⟩
  unfold lq at af ⊢
  simp only [aj] at af
  cases h1 : aj F Γ.G e ρ st with
  | ok w st1 =>
   rw [h1] at af
   simp only [ai.bind] at af ⊢
   cases w with
   | d u =>
    simp only [bZ] at af
    have ht : aR (.d u) (st1.take st.length) = aR (.d u) st1 := rfl
    rw [ht] at af
    cases h3 : aR (.d u) st1 with
    | none => rw [h3] at af; exact af.elim
    | some b => rw [h3] at af; exact fun H1 φ1 pt => af H1 _ (pt.cut rl.len)
   | ref k =>
    cases h2 : bZ st.length (.ref k) st1 with
    | ok w' st2 =>
     rw [h2] at af
     simp only at af
     have ht : ∀ b, aR w' st2 = some b → aR (.ref k) st1 = some b := by
      intro b hb
      by_cases hk : k < st.length
      · simp only [bZ, if_pos hk, ai.ok.injEq] at h2
        obtain ⟨rfl, rfl⟩ := h2
        simpa [aR, look, List.getElem?_take, hk] using hb
      · cases q : st1[k]? with
        | none => simp [bZ, hk, q] at h2
        | some o =>
         cases o with
         | none => simp [bZ, hk, q] at h2
         | some xs =>
          simp only [bZ, if_neg hk, q, ai.ok.injEq] at h2
          obtain ⟨rfl, rfl⟩ := h2
          have e1 : (st1.take st.length ++ [some xs])[(st1.take st.length).length]? = some (some xs) := by
           rw [List.getElem?_append_right (Nat.le_refl _), Nat.sub_self]; rfl
          simp only [aR, look, e1, Option.bind_some] at hb
          simp only [aR, look, q, Option.bind_some]
          exact hb
     cases h3 : aR w' st2 with
     | none => rw [h3] at af; exact af.elim
     | some b =>
      rw [h3] at af
      rw [ht b h3]
      intro H1 φ1 pt
      have hk : k < φ1.length := by
       rw [pt.rl.len]
       cases q : st1[k]? with
       | none =>
        have := ht b h3
        simp [aR, look, q] at this
       | some o => exact (List.getElem?_eq_some_iff.mp q).1
      obtain ⟨φ2, p2, _⟩ := vb rl.len pt (w := .ref k) ⟨φ1[k], List.getElem?_eq_getElem hk, rfl⟩ h2
      exact af H1 φ2 p2
    | _ => rw [h2] at af; exact af.elim
  | _ => rw [h1] at af; exact af.elim
 | .comp N' ix t k src ifs el, C, x, X, h, G => by
  cases x <;> try exact aA h
  rename_i elt gs scope pos
  rcases gs with _ | ⟨⟨tg, it, fs, m⟩, _ | ⟨_, _⟩⟩ <;> try exact aA h
  · skip
    replace h := ba h
    simp only [Bool.and_eq_true, beq_iff_eq] at h
    obtain ⟨⟨⟨⟨⟨⟨⟨⟨h0, hb⟩, h2⟩, h3⟩, h4⟩, h5⟩, h6⟩, h7⟩, h8⟩ := h
    subst h0
    obtain ⟨b1, b2, b3, hs, b4⟩ := oy hb
    have hi : PI X tg it (tI Γ F k src) := oB G hF h3 h4 h5 fun ys h => cL hF src C ys X h G
    refine .plain G.K (L2.PE.imp (pQ (N' := N') (ix := ix) G.calm hi (fun _ _ _ _ _ => nv (G.comp b2 b3 ..) h6) (fun _ _ _ _ _ => (cL hF ifs _ fs _ h7 (G.comp b2 b3 ..)).2.2.1) (fun _ _ _ _ _ => (aM hF el _ elt _ h8 (G.comp b2 b3 ..)).1) (by rw [G.sc, G.N]; exact b1) (fv h2)) (lE hs b4)) rfl
 | .gen q N' ix t k src ifs el, C, x, X, h, G => by
  cases x <;> try exact aA h
  rename_i fn ys kw pos
  cases fn <;> try exact aA h
  rename_i f p
  rcases ys with _ | ⟨y, _ | ⟨_, _⟩⟩ <;> try exact aA h
  rotate_left
  · cases y <;> first | exact aA h | (rename_i gs _ _; rcases gs with _ | ⟨⟨_, _, _, _⟩, _ | ⟨_, _⟩⟩ <;> exact aA h)
  cases y <;> try exact aA h
  rename_i elt gs scope gpos
  rcases gs with _ | ⟨⟨tg, it, fs, m⟩, _ | ⟨_, _⟩⟩ <;> try exact aA h
  rcases kw with _ | ⟨_, _⟩ <;> try exact aA h
  · skip
    replace h := ba h
    simp only [Bool.and_eq_true, beq_iff_eq] at h
    obtain ⟨⟨⟨⟨⟨⟨⟨⟨⟨⟨⟨⟨hf, hx⟩, hgl⟩, h0⟩, hb⟩, hgo⟩, h2⟩, h3⟩, h4⟩, h5⟩, h6⟩, h7⟩, h8⟩ := h
    subst h0
    obtain ⟨b1, b2, b3, hs, b4⟩ := oy hb
    unfold yX at hgo
    simp only [Bool.and_eq_true, Bool.not_eq_true', beq_iff_eq] at hgo
    obtain ⟨B, hr, c, P, hc, hd, hP⟩ := G.cd hx
    have hi : PI X tg it (tI Γ F k src) := oB G hF h3 h4 h5 fun ys h => cL hF src C ys X h G
    cases q with
    | tuple =>
     cases eq_of_beq (show (f == ("tuple" : Str)) = true from hf)
     exact .plain G.K (L2.PE.imp (v3 (N' := N') (ix := ix) G.calm hr (a8 hgl G.sc) (by rw [G.mg]; exact hF.blt "tuple" (by simp)) B hd hc hi (fun _ _ _ _ _ _ _ => nv (G.gen (by decide) hx b2 b3 ..) h6) (fun _ _ _ _ _ _ _ => (cL hF ifs _ fs _ h7 (G.gen (by decide) hx b2 b3 ..)).2.2.1) (fun _ _ _ _ _ _ _ => (aM hF el _ elt _ h8 (G.gen (by decide) hx b2 b3 ..)).1) (by rw [G.sc, G.N]; exact b1) hgo.1 hgo.2 (tx h2)) (wM hP hs b4)) rfl
    | _ => cases hf
theorem cL {Γ : Gm} {S : Sg} {n : Nat} {F : FT} (hF : Fk Γ S n F) : ∀ (es : List E) (C : Ck) (xs : List Expr) (X : Cx), eH S es C xs = true → Gd Γ n C X → CY Γ F X es xs
 | [], C, xs, X, h, G => by
  cases xs with
  | nil => exact ⟨xk, wB, F9, rfl, rfl, nofun⟩
  | cons => exact aA h
 | e :: es, C, xs, X, h, G => by
  cases xs with
  | nil => exact aA h
  | cons x xs =>
   replace h := ba h
   simp only [Bool.and_eq_true] at h
   have h1 := aM hF e C x X h.1.2 G
   have h2 := cL hF es C xs X h.2 G
   exact ⟨u3 h1.1 h2.1 (au h.1.1), sR h1.1 h2.2.1 (au h.1.1), BY h1.2 h2.2.2.1, by simp only [List.all_cons, h.1.1, h2.2.2.2.1, Bool.and_self], by rw [List.length_cons, List.length_cons, h2.2.2.2.2.1], fun _ _ a b => by cases a; cases b; exact h1.1⟩
theorem FL {Γ : Gm} {S : Sg} {n : Nat} {F : FT} (hF : Fk Γ S n F) : ∀ (e : Option E) (C : Ck) (x : Option Expr) (X : Cx), HV S e C x = true → Gd Γ n C X → PO X x (tO Γ F e)
 | none, C, x, X, h, G => by
  cases x with
  | none => exact uk
  | some _ => exact aA h
 | some e, C, x, X, h, G => by
  cases x with
  | none => exact aA h
  | some x =>
   exact uQ (aM hF e C x X h G).1
end
end I
end
section
namespace L2
end L2
namespace I
open PySem L2 PySem.Spec PyProof.Rows
section
variable (sg : Sg)
def Fi (C : Ck) (t : Tg) (tg x : Expr) (e : E) : Bool :=
 match tg, x with
 | .Name _ _, .ListComp _ _ _ _ => match e with
  | .comp _ _ _ _ _ _ _ => true
  | .frz (.comp _ _ _ _ _ _ _) => true
  | _ => false
 | .Name _ _, x => dN x
 | .Tuple ts _ _, .Tuple vs _ _ => match e with
  | _ => false
 | .Tuple _ _ _, x => dN x
 | _, _ => false
mutual
def JN : I.S → Ck → Stmt → Bool
 | .asg t e, C, .Assign [tg] x _ => Fi C t tg x e && qK C t tg && dC sg e C x
 | .setx o i e, C, .Assign [.Subscript x y _] z _ => dN z && kd y && dC sg o C x && dC sg i C y && dC sg e C z
 | .aug i o e, C, .AugAssign (.Name x _) op y _ => nG C i x && lC op == some o && dC sg e C y
 | .ex e, C, .Expr x _ => dN x && dC sg e C x
 | .ret e, C, .Return (some x) _ => dC sg e C x
 | .retN, _, .Return none _ => true
 | .pass, _, .Pass _ => true
 | .pass, _, .Expr (.Constant (.str _) _ _) _ => true
 | .brk, _, .Break _ => true
 | .cnt, _, .Continue _ => true
 | .ifs c a b, C, .If x y z _ => dC sg c C x && lT a C y && lT b C z
 | .for t k src body, C, .For tg it bd [] _ => tU it && wC k tg && (match k5 k with | some f => jI C.sc f | none => true) && (match gV k it with
  | some ys => eH sg src C ys
  | none => false) && qK C t tg && lT body C bd
 | _, _, _ => false
def lT : List I.S → Ck → List Stmt → Bool
 | [], _, [] => true
 | s :: ss, C, x :: xs => JN s C x && lT ss C xs
 | _, _, _ => false
end
end
section
variable {Γ : Gm} {S : Sg} {n : Nat} {F : FT} {X : Cx} {C : Ck}
theorem jP {env} (h : dN x = true) : swapsWith x t l env = pure false := by
 cases x <;> first | rfl | (cases h)
theorem dT (h : dN x = true) : swapsWithSole [t] x l env = pure false := jP h
theorem Ct {op : Operator} {o : lZ} (h : lC op = some o) (hx : o = .add ∨ o = .sub ∨ o = .mul) : ∃ C g, Js X op (rI C fun i j => .int (g i j)) ∧ ((o = .add ∧ g = fun i j => i + j) ∨ (o = .sub ∧ g = fun i j => i - j) ∨ (o = .mul ∧ g = fun i j => i * j)) ∧ ∀ i j, (o ≠ .mul ∨ aY i = true ∨ aY j = true) → C i j := by
 cases op <;> first | (cases h; done) | skip
 all_goals cases h
 all_goals first | (rcases hx with z | z | z <;> cases z; done) | skip
 · exact ⟨fun _ _ => True, _, fun pins s σ H x y v u Q I rx ry ⟨i, j, a, b, _, q⟩ => xW pins s σ H x y v u Q I rx ry ⟨i, j, a, b, q⟩, .inl ⟨rfl, rfl⟩, fun _ _ _ => trivial⟩
 · exact ⟨fun _ _ => True, _, fun pins s σ H x y v u Q I rx ry ⟨i, j, a, b, _, q⟩ => yE pins s σ H x y v u Q I rx ry ⟨i, j, a, b, q⟩, .inr (.inl ⟨rfl, rfl⟩), fun _ _ _ => trivial⟩
 · refine ⟨qd, _, yl, .inr (.inr ⟨rfl, rfl⟩), fun i j hh => ?_⟩
   rcases hh with z | z | z
   · exact absurd rfl z
   · exact .inl (fg z)
   · exact .inr (fg z)
def qF (i : Nat) (o : lZ) (ρ : aD) (a : T) (w : W) (st : ae) : ai (Fl × aD) := match a, look w st with
 | .int x, some (.int y) => (match lQ o x y with
  | some z => .ok (.nx, ρ.set i (some (.d (.int z)))) st
  | none => .bad)
 | _, _ => .bad
theorem tZ {φ : List Addr} {st : ae} {H : Hp} {D : nN} {ρ : aD} {i : Nat} {o : lZ} {e : E} (af : fA Γ φ st H (jk F Γ.G (.aug i o e) ρ st) D) : ∃ t, ρ[i]? = some (some (.d t)) ∧ fA Γ φ st H ((aj F Γ.G e ρ st).bind fun w st => qF i o ρ t w st) D := by
 have af : fA Γ φ st H (match ρ[i]? with | some (some (.d a)) => (aj F Γ.G e ρ st).bind fun w st => qF i o ρ a w st | _ => .bad) D := af
 cases h1 : ρ[i]? with
 | none => rw [h1] at af; exact af.elim
 | some w0 =>
  cases w0 with
  | none => rw [h1] at af; exact af.elim
  | some w0 =>
   rw [h1] at af
   cases w0 with
   | ref k => exact af.elim
   | d t => exact ⟨t, rfl, af⟩
theorem oK {φ : List Addr} {st st1 : ae} {H : Hp} {D : nN} {ρ : aD} {i : Nat} {o : lZ} {t : T} {w : W} (af : fA Γ φ st H (qF i o ρ t w st1) D) : ∃ x y z, t = .int x ∧ look w st1 = some (.int y) ∧ lQ o x y = some z ∧ fA Γ φ st H (.ok (.nx, ρ.set i (some (.d (.int z)))) st1) D := by
 unfold qF at af
 cases t with
 | int x =>
  cases h : look w st1 with
  | none => rw [h] at af; exact af.elim
  | some u =>
   rw [h] at af
   cases u with
   | int y =>
    have af : fA Γ φ st H (match lQ o x y with | some z => .ok (.nx, ρ.set i (some (.d (.int z)))) st1 | none => .bad) D := af
    cases hz : lQ o x y with
    | none => rw [hz] at af; exact af.elim
    | some z => rw [hz] at af; exact ⟨x, y, z, rfl, rfl, hz, af⟩
   | _ => exact af.elim
 | _ => exact af.elim
theorem DK (G : Gd Γ n C X) {i : Nat} {x : Str} {p pos : Pos} {y : Expr} {op : Operator} {o : lZ} {e : E} (hi : nG C i x = true) (ho : lC op = some o) (h : PE X y (tE Γ F e)) : PS X (.AugAssign (.Name x p) op y pos) (tS Γ F (.aug i o e)) := by
 obtain ⟨a, b, c⟩ := iw G hi
 by_cases hx : o = .add ∨ o = .sub ∨ o = .mul
 · obtain ⟨Cc, g, hp, hg, hc⟩ := Ct (X := X) ho hx
   refine L2.PS.imp (Cw (by rw [G.N]; exact G.nd) a b h hp c) ?_
   rintro D σ H ⟨φ, st, ρ, en, rl, af⟩
   obtain ⟨t, h1, af⟩ := tZ af
   obtain ⟨v, ev, rv⟩ := en.at_ i _ h1
   refine ⟨v, ev, φ, st, ρ, en, rl, af.bind.mono fun u H1 hh => ?_⟩
   obtain ⟨w, st1, φ1, rw1, pt, af1⟩ := hh
   obtain ⟨i0, j0, z, rfl, h2, hz, af1⟩ := oK af1
   cases (show v = .int i0 from rv)
   have da : D.nx (σ.set i (some (.int z))) H1 := af1 _ H1 φ1 ((en.step pt).set (w := .d (.int z)) rfl) (Pt.refl pt.rl)
   rcases hg with ⟨rfl, rfl⟩ | ⟨rfl, rfl⟩ | ⟨rfl, rfl⟩
   · cases hz; exact ⟨i0, j0, rfl, rw1.int pt.rl h2, hc i0 j0 (.inl nofun), da⟩
   · cases hz; exact ⟨i0, j0, rfl, rw1.int pt.rl h2, hc i0 j0 (.inl nofun), da⟩
   · obtain ⟨hs, rfl⟩ := aH (show (if (aY i0 || aY j0) = true then some _ else none) = some z from hz)
     exact ⟨i0, j0, rfl, rw1.int pt.rl h2, hc i0 j0 (.inr ((Bool.or_eq_true _ _).mp hs)), da⟩
 · rintro pins s σ H D I ⟨φ, st, ρ, en, rl, af⟩
   exfalso
   obtain ⟨t, h1, af⟩ := tZ af
   cases h2 : aj F Γ.G e ρ st with
   | ok w st1 =>
    rw [h2] at af
    obtain ⟨i0, j0, z, rfl, h2, hz, af1⟩ := oK (show fA Γ φ st H (qF i o ρ t w st1) D from af)
    cases o <;> first | (cases hz; done) | exact hx (.inl rfl) | exact hx (.inr (.inl rfl)) | exact hx (.inr (.inr rfl))
   | _ => rw [h2] at af; exact af
theorem tW (hF : Fk Γ S n F) (G : Gd Γ n C X) {i : Nat} {y : Str} {py pos spos : Pos} {elt : Expr} {gs : List Comprehension} {scope : Scope} {N' : List Str} {ix : List (Option Nat)} {t : Tg} {k : Ik} {src ifs : List E} {el e : E} (hi : nG C i y = true) (he : ∀ σ H Q, tE Γ F e σ H Q → tE Γ F (.comp N' ix t k src ifs el) σ H Q)
 (h : dC S (.comp N' ix t k src ifs el) C (.ListComp elt gs scope pos) = true) : PS X (.Assign [.Name y py] (.ListComp elt gs scope pos) spos) (tS Γ F (.asg (.nm i) e)) := by
 obtain ⟨a, b, c⟩ := iw G hi
 rcases gs with _ | ⟨⟨tg, it, fs, m⟩, _ | ⟨_, _⟩⟩ <;> try exact aA h
 · replace h := ba h
   simp only [Bool.and_eq_true, beq_iff_eq] at h
   obtain ⟨⟨⟨⟨⟨⟨⟨⟨h0, hb⟩, h2⟩, h3⟩, h4⟩, h5⟩, h6⟩, h7⟩, h8⟩ := h
   subst h0
   obtain ⟨b1, b2, b3, hs, b4⟩ := oy hb
   have hI : PI X tg it (tI Γ F k src) := oB G hF h3 h4 h5 fun ys h => cL hF src C ys X h G
   have imp : ∀ D σ H, tS Γ F (.asg (.nm i) e) D σ H → xY (lv ix (tI Γ F k src) (vJ Γ t) (tF Γ F ifs) (tE Γ F el)) (mQ i) D σ H := by
    rintro D σ H ⟨φ, st, ρ, en, rl, af⟩
    simp only [jk] at af
    refine lE (N' := N') hs b4 σ H _ (he σ H _ ⟨φ, st, ρ, en, rl, af.bind.mono fun v H1 ⟨w, st1, φ1, rw1, pt, af1⟩ => ?_⟩)
    cases hbd : bg (.nm i) w ρ with
    | none => rw [hbd] at af1; exact af1.elim
    | some ρ' =>
     rw [hbd] at af1
     unfold bg at hbd
     obtain ⟨_, rfl⟩ := aH hbd
     exact af1 _ H1 φ1 ((en.step pt).set rw1) (Pt.refl pt.rl)
   have nd : X.N.Nodup := by rw [G.N]; exact G.nd
   have hok : aZ X.env.scope X.N scope N' ix = true := by rw [G.sc, G.N]; exact b1
   have pg := fun cl D ex s H => nv (G.comp (scope := scope) b2 b3 cl D ex s H) h6
   have pf := fun cl D ex s H => (cL hF ifs _ fs _ h7 (G.comp (scope := scope) b2 b3 cl D ex s H)).2.2.1
   have pe := fun cl D ex s H => (aM hF el _ elt _ h8 (G.comp (scope := scope) b2 b3 cl D ex s H)).1
   have hsw : swapsWith (.ListComp elt [⟨tg, it, fs, 0⟩] scope pos) (some (.Name y py)) spos.line X.env = pure (X.env.blockKind == .function && X.env.kindOf y == some .local && py.line == (Expr.ListComp elt [⟨tg, it, fs, 0⟩] scope pos).pos.line
    && !(scope.names.any fun (n, k) => n == y && (k == .local || k == .cell))) := rfl
   refine L2.PS.imp (t := xY (lv ix (tI Γ F k src) (vJ Γ t) (tF Γ F ifs) (tE Γ F el)) (mQ i)) ?_ imp
   cases hq : (X.env.blockKind == .function && X.env.kindOf y == some .local && py.line == (Expr.ListComp elt [⟨tg, it, fs, 0⟩] scope pos).pos.line
    && !(scope.names.any fun (n, k) => n == y && (k == .local || k == .cell))) with
   | true =>
    rw [hq] at hsw
    simp only [Bool.and_eq_true, beq_iff_eq] at hq
    exact ym nd a hq.1.1.2 G.calm hI pg pf pe hok hsw (fv h2)
   | false =>
    rw [hq] at hsw
    exact mX (pQ G.calm hI pg pf pe hok (fv h2)) (gI nd a b c) hsw rfl rfl
end
mutual
theorem HB {Γ : Gm} {sg : Sg} {n : Nat} {F : FT} (hF : Fk Γ sg n F) : ∀ (s : I.S) (C : Ck) (x : Stmt) (X : Cx), JN sg s C x = true → Gd Γ n C X → PS X x (tS Γ F s)
 | .asg t e, C, x, X, h, G => by
  cases x <;> try exact aA h
  rename_i tgs v pos
  rcases tgs with _ | ⟨tg, _ | ⟨_, _⟩⟩ <;> try exact aA h
  · replace h := ba h
    simp only [Bool.and_eq_true] at h
    obtain ⟨⟨h1, h2⟩, h3⟩ := h
    cases tg <;> try exact aA h1
    · -- a name
      rename_i y py
      cases t with
      | tp is => cases h2
      | nt i is => cases h2
      | nm i =>
       by_cases hl : G1 v = true
       · cases v <;> first | (cases hl; done) | skip
         cases e <;> try exact aA h1
         · rename_i e'
           cases e' <;> try exact aA h1
           exact tW hF G h2 (fun σ H Q ⟨φ, st, ρ, en, rl, af⟩ => ⟨φ, st, ρ, en, rl, by simp only [aj] at af; exact af.frz rl⟩) h3
         · exact tW hF G h2 (fun _ _ _ q => q) h3
       · have hn : dN v = true := by
          cases v <;> first | (exact h1) | (exact absurd rfl hl)
         exact zr (aM hF e C v X h3 G).1 (vh G h2) (dT hn) rfl rfl
    · -- a tuple
      rename_i ts kt p
      by_cases hl : n5 v = true
      · cases v <;> first | (cases hl; done) | skip
        cases e <;> exact aA h1
      · have hn : dN v = true := by
         cases v <;> first | (exact h1) | (exact absurd rfl hl)
        have hw : swappedStores [.Tuple ts kt p] v X.env = pure none := by
         cases v <;> first | rfl | exact absurd rfl hl
        exact zr (aM hF e C v X h3 G).1 (vh G h2) (dT hn) hw rfl
 | .setx o i e, C, x, X, h, G => by
  cases x <;> try exact aA h
  rename_i tgs v pos
  rcases tgs with _ | ⟨tg, _ | ⟨_, _⟩⟩ <;> try exact aA h
  rotate_left
  · cases tg <;> exact aA h
  cases tg <;> try exact aA h
  rename_i a b p
  · replace h := ba h
    simp only [Bool.and_eq_true] at h
    obtain ⟨⟨⟨⟨h1, h2⟩, h3⟩, h4⟩, h5⟩ := h
    refine Bx (aM hF o C a X h3 G).1 (aM hF i C b X h4 G).1 (aM hF e C v X h5 G).1 (fun w => ?_) (dT h1) (by rfl) rfl
    cases b <;> first | rfl | (cases h2; done)
 | .aug i o e, C, x, X, h, G => by
  cases x <;> try exact aA h
  rename_i tg op v pos
  cases tg <;> try exact aA h
  replace h := ba h
  simp only [Bool.and_eq_true, beq_iff_eq] at h
  exact DK G h.1.1 h.1.2 (aM hF e C v X h.2 G).1
 | .ex e, C, x, X, h, G => by
  cases x <;> try exact aA h
  replace h := ba h
  exact IC (aM hF e C _ X h.2 G).1 (jP h.1)
 | .ret e, C, x, X, h, G => by
  cases x <;> try exact aA h
  rename_i v pos
  cases v with
  | none => exact aA h
  | some v => exact EH (aM hF e C v X h G).1
 | .retN, C, x, X, h, G => by
  cases x <;> try exact aA h
  rename_i v pos
  cases v with
  | none => exact CM
  | some v => exact aA h
 | .pass, C, x, X, h, G => by
  cases x <;> first | exact aA h | exact BP | skip
  rename_i v pos
  cases v <;> try exact aA h
  rename_i c k p
  cases c <;> first | exact aA h | exact DH
 | .brk, C, x, X, h, G => by
  cases x <;> first | exact aA h | exact E8
 | .cnt, C, x, X, h, G => by
  cases x <;> first | exact aA h | exact DD
 | .ifs c a b, C, x, X, h, G => by
  cases x <;> try exact aA h
  replace h := ba h
  simp only [Bool.and_eq_true] at h
  exact G9 (aM hF c C _ X h.1.1 G).2 (jr hF a C _ X h.1.2 G) (jr hF b C _ X h.2 G)
 | .for t k src body, C, x, X, h, G => by
  cases x <;> try exact aA h
  rename_i tg it bd el pos
  cases el with
  | cons => exact aA h
  | nil =>
   replace h := ba h
   simp only [Bool.and_eq_true] at h
   obtain ⟨⟨⟨⟨⟨h1, h2⟩, h3⟩, h4⟩, h5⟩, h6⟩ := h
   exact Eo (by rw [G.xe]; exact PassesOwn.never) G.calm (oB G hF h2 h3 h4 fun ys h => cL hF src C ys X h G) (vh G h5) (jr hF body C bd X h6 G) (fv h1)
theorem jr {Γ : Gm} {sg : Sg} {n : Nat} {F : FT} (hF : Fk Γ sg n F) : ∀ (ss : List I.S) (C : Ck) (xs : List Stmt) (X : Cx), lT sg ss C xs = true → Gd Γ n C X → fK X xs (Ay Γ F ss)
 | [], C, xs, X, h, G => by
  cases xs with
  | nil => exact Dg
  | cons => exact aA h
 | s :: ss, C, xs, X, h, G => by
  cases xs with
  | nil => exact aA h
  | cons x xs =>
   replace h := ba h
   exact Cm (HB hF s C x X h.1 G) (jr hF ss C xs X h.2 G)
end
end I
end
section
namespace I
open PySem L2 PySem.Spec PyProof.Rows
structure Fm (Γ : Gm) (sg : Sg) (D : bz) (q m y : Str) (ps : List Str) (st : Stmt) (N : List Str) : Prop where
 df : ∃ C, be Γ.K C q ∧ j4 Γ.K C ∧ C1 Γ.K C m y st
 sc : cf N ps (ah st)
 hb : ∀ (kV doc pm : Value) (an : Option Addr) (cdv ct : Value) (us : List Value), us.length = ps.length → bindArgs (PySem.W.fnOf m y (aL st) (aB st) (ah st) .none kV doc pm an cdv ct) ⟨us, []⟩ = pure (ps.zip us)
 nm : namesOk N = true
 ar : D.ar = ps.length
 sl : D.sl = N.length
 ok : lT sg D.body ⟨N, ah st, true, false⟩ (aB st) = true
structure Fd (Γ : Gm) (sg : Sg) (D : bz) (x : Str) (ps : List Str) (st : Stmt) (N : List Str) (gx : Bool) : Prop where
 df : Df Γ.K Γ.mg x st
 sc : cf N ps (ah st)
 hb : ∀ (kV doc pm : Value) (an : Option Addr) (cdv ct : Value) (us : List Value), us.length = ps.length → bindArgs (PySem.W.fnOf x x (aL st) (aB st) (ah st) .none kV doc pm an cdv ct) ⟨us, []⟩ = pure (ps.zip us)
 nm : namesOk N = true
 ar : D.ar = ps.length
 sl : D.sl = N.length
 ok : lT sg D.body ⟨N, ah st, true, gx⟩ (aB st) = true
 tb : gx = true → ∃ P ∈ Γ.tabs, Tb Γ.K Γ.mg Γ.base x P
section
variable {Γ : Gm} {sg : Sg} {n : Nat} {F : FT}
theorem lB {st} {H} {ws} {vs} {N} {k} (r : sC Γ φ st H ws vs) (hk : k = N.length - ws.length) (hl : ws.length ≤ N.length) : En Γ φ st H (ws.map some ++ List.replicate k none) (start N vs) := by
 have hv := r.length
 unfold L2.start
 refine ⟨by simp; omega, fun i w h => ?_⟩
 by_cases hi : i < ws.length
 · rw [List.getElem?_append_left (by simpa using hi), List.getElem?_map, List.getElem?_eq_getElem hi] at h
   simp only [Option.map_some, Option.some.injEq] at h
   subst h
   obtain ⟨v, e, rv⟩ := r.get (List.getElem?_eq_getElem hi)
   exact ⟨v, by rw [List.getElem?_append_left (by simpa [hv] using hi), List.getElem?_map, e]; rfl, rv⟩
 · rw [List.getElem?_append_right (by simpa using hi), List.getElem?_replicate] at h
   split at h <;> cases h
theorem ug {st} {H} {Q} {r} (rl : Rl Γ φ st H) (af : Af Γ φ st H (da st.length r) Q) : fA Γ φ st H r { nx := fun _ H' => Q .non H', rt := Q } := by
 cases r with
 | ok p st1 =>
  obtain ⟨f, ρ'⟩ := p
  intro σ' H' φ' en pt
  cases f with
  | nx => exact af _ H' _ rfl (pt.cut rl.len)
  | bk => exact af.elim
  | ct => exact af.elim
  | rt w =>
   intro v rv
   have af : Af Γ φ st H (bZ _ w _) Q := af
   cases h : bZ _ w _ with
   | ok w' st2 =>
    rw [h] at af
    obtain ⟨φ2, p2, r2⟩ := vb rl.len pt rv h
    exact af v H' _ r2 p2
   | _ => rw [h] at af; exact af.elim
 | _ => exact af
theorem kG (hF : Fk Γ sg n F) {D} {x} {ps} {st} {N} {gx} (d : Fd Γ sg D x ps st N gx) {j} (f : Addr) (cdv : Value) (hcd : gx = true → Bm Γ.mg Γ.base ∧ ∃ c P, cdv = .ref c ∧ PySem.W.CodeHd Γ.base c P ∧ P ∈ Γ.tabs) (A : Around) (outer : List _) (s : Shared) (H : Hp) (vs : List V) (Q : VK) (E : XK)
 (hr : bh (2 * n + 1) (A.deeper (envOfC x (ah st) s.heap.objs.size f cdv))) (h : rQ Γ (fun _ ws st => ax F Γ.G D ws st) j ps.length vs H Q E) :
 ∃ t, fK (iW mn Γ.P Γ.w Γ.K Γ.mg Γ.base N x (ah st) f cdv A outer s H E).nox (aB st) t ∧ t { nx := fun _ H' => Q .non H', rt := Q } (start N vs) H := by
 refine ⟨_, jr hF _ _ _ _ d.ok ⟨rfl, rfl, rfl, rfl, rfl, rfl, rfl, rfl, hr.mono (Nat.le_succ _), d.sc.nd, d.nm, fun _ _ => rfl, rfl, fun h => ⟨(hcd h).1, hr, (hcd h).2⟩⟩, ?_⟩
 obtain ⟨φ, st0, ws, rl, rws, hl, af⟩ := h
 unfold ax at af
 have hn := by
  have := congrArg List.length d.sc.pre
  rw [List.length_take] at this
  omega
 simp only at af
 rw [if_pos (by rw [hl, d.ar])] at af
 exact ⟨φ, st0, _, lB rws (by rw [d.sl, d.ar, hl]) (by omega), rl, ug rl af⟩
theorem uS (hF : Fk Γ sg n F) {D} {q m x y} {ps} {st} {N} (d : Fm Γ sg D q m y ps st N) {j} (f : Addr) (cdv : Value) (A : Around) (outer : List _) (s : Shared) (H : Hp) (vs : List V) (Q : VK) (E : XK)
 (hr : bh (2 * n + 1) (A.deeper (envOfC x (ah st) s.heap.objs.size f cdv))) (h : rQ Γ (fun _ ws st => ax F Γ.G D ws st) j ps.length vs H Q E) :
 ∃ t, fK (iW mn Γ.P Γ.w Γ.K Γ.mg Γ.base N x (ah st) f cdv A outer s H E).nox (aB st) t ∧ t { nx := fun _ H' => Q .non H', rt := Q } (start N vs) H := by
 refine ⟨_, jr hF _ _ _ _ d.ok ⟨rfl, rfl, rfl, rfl, rfl, rfl, rfl, rfl, hr.mono (Nat.le_succ _), d.sc.nd, d.nm, fun _ _ => rfl, rfl, nofun⟩, ?_⟩
 obtain ⟨φ, st0, ws, rl, rws, hl, af⟩ := h
 unfold ax at af
 have hn := by
  have := congrArg List.length d.sc.pre
  rw [List.length_take] at this
  omega
 simp only at af
 rw [if_pos (by rw [hl, d.ar])] at af
 exact ⟨φ, st0, _, lB rws (by rw [d.sl, d.ar, hl]) (by omega), rl, ug rl af⟩
end
structure Tx (Γ : Gm) (sg : Sg) (Ds : Nat → Option bz) : Prop where
 fd : ∀ (j : Nat) (x : Str) (ps : List Str), sg.fns j = some (x, ps) → ∃ D st N gx, Ds j = some D ∧ Fd Γ sg D x ps st N gx
 fm : ∀ (j : Nat) (q m : Str) (ps : List Str), sg.mth j = some (q, m, ps) → ∃ D y st N, Ds j = some D ∧ Fm Γ sg D q m y ps st N
 cls : ∀ q, sg.cls q = true → ∃ C, be Γ.K C q ∧ Γ.mg q = some (.ref C) ∧ zu Γ.K C
 sub : ∀ q q' b, sg.sub q q' b = true → ∃ C C', be Γ.K C q ∧ Γ.mg q' = some (.ref C') ∧ j4 Γ.K C ∧ xO Γ.K C C' b
 gn : sg.gn = Γ.gn
 g : Fq Γ
 blt : ∀ x ∈ ([("len" : Str), "tuple", "list", "int", "str", "min", "max", "all", "range", "enumerate", "zip", "any", "sum", "sorted", "set", "isinstance", "bool", "reversed"] : List Str), Γ.mg x = none
section
variable {Γ : Gm} {sg : Sg} {Ds : Nat → Option bz}
theorem lj (T : Tx Γ sg Ds) : ∀ n, Fk Γ sg n (run Γ.G Ds n)
 | 0 => ⟨T.gn, fun j x ps h => by
  obtain ⟨D, st, N, gx, _, d⟩ := T.fd j x ps h
  obtain ⟨f, fd, F, m⟩ := d.df.ex
  exact ⟨⟨f, fd, ⟨fun vs H Q E h => by obtain ⟨_, _, _, _, _, _, af⟩ := h; exact af.elim, fun A outer s H args us vs Q E _ _ _ _ h => by obtain ⟨_, _, _, _, _, _, af⟩ := h; exact af.elim⟩, m, F.kp, F.binds d.hb⟩⟩, fun j q m ps h => by
  obtain ⟨D, y, st, N, _, d⟩ := T.fm j q m ps h
  obtain ⟨C, hC, cl, dm⟩ := d.df
  obtain ⟨f, fd, F, mt⟩ := dm.ex
  exact ⟨C, hC, cl, ⟨⟨f, fd, ⟨fun vs H Q E h => by obtain ⟨_, _, _, _, _, _, af⟩ := h; exact af.elim, fun A outer s H args us vs Q E _ _ _ _ h => by obtain ⟨_, _, _, _, _, _, af⟩ := h; exact af.elim⟩, mt, F.binds d.hb⟩⟩⟩, T.cls, T.sub, T.g, T.blt⟩
 | n + 1 => ⟨T.gn, fun j x ps h => by
  obtain ⟨D, st, N, gx, hD, d⟩ := T.fd j x ps h
  have len : ∀ vs H Q E, rQ Γ (run Γ.G Ds (n + 1)) j _ vs H Q E → vs.length = ps.length := fun vs H Q E h => by
   obtain ⟨_, _, ws, _, rws, hl, _⟩ := h
   rw [rws.length, hl]
  have go : ∀ {vs} {H} {Q} {E}, rQ Γ (run Γ.G Ds (n + 1)) j ps.length vs H Q E → rQ Γ (fun _ ws st => ax _ _ D ws st) j _ vs H Q E := fun h => by
   obtain ⟨φ, st0, ws, rl, rws, hl, af⟩ := h
   refine ⟨φ, st0, ws, rl, rws, hl, ?_⟩
   simp only [run, hD] at af
   exact af
  cases gx with
  | false => exact d.df.has d.sc d.hb len (fun f cdv A outer s H vs Q E hr h => kG (lj T n) d f _ nofun A _ s H vs Q E hr (go h))
  | true =>
   obtain ⟨P, hP, tb⟩ := d.tb rfl
   exact d.df.hasT tb d.sc d.hb len (fun f c A outer s H vs Q E hcd bm hr h => kG (lj T n) d f _ (fun _ => ⟨bm, c, P, rfl, hcd, hP⟩) A _ s H vs Q E hr (go h)), fun j q m ps h => by
  obtain ⟨D, y, st, N, hD, d⟩ := T.fm j q m ps h
  obtain ⟨C, hC, cl, dm⟩ := d.df
  have len : ∀ vs H Q E, rQ Γ (run Γ.G Ds (n + 1)) j _ vs H Q E → vs.length = ps.length := fun vs H Q E h => by
   obtain ⟨_, _, ws, _, rws, hl, _⟩ := h
   rw [rws.length, hl]
  refine ⟨C, hC, cl, dm.has d.sc d.hb len fun f cdv A outer s H vs Q E hr h => uS (lj T n) d (j := j) f _ A _ s H vs Q E hr ?_⟩
  obtain ⟨φ, st0, ws, rl, rws, hl, af⟩ := h
  refine ⟨φ, st0, ws, rl, rws, hl, ?_⟩
  simp only [run, hD] at af
  exact af, T.cls, T.sub, T.g, T.blt⟩
theorem CU (T : Tx Γ sg Ds) {n} {D} {st} {N} {x} {f} {fd} (F : vI Γ.K x x st f fd) (p : Str) (d : Fd Γ sg D x [p] st N false) (sp : Sp) (hsp : ∀ vs H Q E, sp vs H Q E → vs.length = 1 ∧ rQ Γ (fun _ ws st => ax (run Γ.G Ds n) Γ.G D ws st) 0 1 vs H Q E) :
 fG Γ.P Γ.w Γ.K Γ.mg Γ.base mn (2 * n + 2) f fd [p] sp :=
 F.ok d.sc (fun vs H Q E h => (hsp vs H Q E h).1) fun cdv A outer s H vs Q E hr h => kG (lj T n) d f _ nofun A _ s H vs Q E hr (hsp vs H Q E h).2
theorem Bt {a} {ns : List _} {H} {Q} {E} (hS : cO Γ.K H a (ns.map V.int)) (ht : ∀ P ∈ Γ.tabs, H P = some (cX P)) (hr : ∃ st', ax (run Γ.G Ds n) Γ.G D [.d (.lst (ns.map T.int))] [] = .ok (.d (.bl true)) st')
 (hq : ∀ H', (∀ P ∈ Γ.tabs, H' P = some (cX P)) → Q (.bl true) H') : rQ Γ (fun _ ws st => ax (run Γ.G Ds n) Γ.G D ws st) 0 1 [.ref a] H Q E := by
 obtain ⟨st', hr⟩ := hr
 have nl : ∀ b, ¬ ay [] [] b := by rintro b ⟨k, xs, e, _⟩; simp at e
 refine ⟨[], [], [.d (.lst _)], ⟨rfl, fun i j a xs ys e => by simp at e, fun k xs a e => by simp at e, ht⟩, ⟨_, [], rfl, ⟨a, _, rfl, hS.elim (fun x => .inl ⟨x, nl a⟩) .inr, aF.ofInts ns⟩, rfl⟩, rfl, ?_⟩
 show Af Γ [] [] H (ax _ _ D _ []) Q
 rw [hr]
 intro v H' φ' rv pt
 cases rv
 exact hq H' pt.rl.tab
end
end I
end
section
namespace I
open PySem L2 PySem.Spec PyProof.Rows
theorem tL {α β : Type} {f g : α → Option β} : ∀ {l : List α}, (∀ x ∈ l, f x = g x) → l.filterMap f = l.filterMap g
 | [], _ => rfl
 | x :: l, h => by rw [List.filterMap_cons, List.filterMap_cons, h x List.mem_cons_self, tL fun y hy => h y (List.mem_cons_of_mem _ hy)]
theorem lG {α : Type} : ∀ {ps : List Str} {us : List α}, us.length = ps.length → ∀ n ∈ ps, ((ps.zip us).lookup n).isSome = true
 | [], _, _, n, h => by cases h
 | p :: ps, [], hl, n, h => by cases hl
 | p :: ps, u :: us, hl, n, h => by
  rw [List.zip_cons_cons, List.lookup_cons]
  cases e : n == p with
  | true => rfl
  | false =>
   rcases List.mem_cons.mp h with z | z
   · rw [z] at e; simp at e
   · exact lG (by simpa using hl) n z
theorem lJ {α : Type} : ∀ {ps : List Str} {us : List α}, us.length = ps.length → ps.Nodup → (ps.filterMap fun n => ((ps.zip us).lookup n).map fun v => (n, v)) = ps.zip us
 | [], us, _, _ => rfl
 | p :: ps, [], hl, _ => by cases hl
 | p :: ps, u :: us, hl, nd => by
  rw [List.nodup_cons] at nd
  simp
  refine Eq.trans (tL fun n hn => ?_) (lJ (by simpa using hl) nd.2)
  rw [List.lookup_cons]
  have : (n == p) = false := by
   cases e : n == p with
   | false => rfl
   | true => grind
  rw [this]
theorem ot (x y : Str) (as : List Arg) (body : List Stmt) (sc : Scope) (kV doc pm : Value) (an : Option Addr) (cdv ct : Value) (us : List Value) (hl : us.length = as.length) (nd : (as.map Arg.arg).Nodup) : bindArgs (PySem.W.fnOf x y ⟨[], as, none, [], [], none, []⟩ body sc .none kV doc pm an cdv ct) ⟨us, []⟩ = pure ((as.map Arg.arg).zip us) := by
 have hl' : us.length = (as.map Arg.arg).length := by simp_all
 have key : ∃ (A B : Sem (List (Str × Value))) (g : Str × Value → List (Str × Value) → Sem (ForInStep (List (Str × Value)))), bindArgs (PySem.W.fnOf x y ⟨[], as, none, [], [], none, []⟩ body sc .none kV doc pm an cdv ct) ⟨us, []⟩ =
  (if (decide (us.length > (as.map Arg.arg).length) && true) = true then A else if (!(((as.map Arg.arg).take ((as.map Arg.arg).length - (([] : List Value).drop (([] : List Value).length - (as.map Arg.arg).length)).length)).filter (fun n => (((as.map Arg.arg).zip us).lookup n).isNone)).isEmpty) = true then B
   else (forIn (((as.map Arg.arg).drop ((as.map Arg.arg).length - (([] : List Value).drop (([] : List Value).length - (as.map Arg.arg).length)).length)).zip (([]).drop (([]).length - (as.map Arg.arg).length))) ((as.map _).zip us) g >>= fun sl => pure ((as.map Arg.arg ++ []).filterMap fun n => (sl.lookup n).map fun v => (n, v)))) := ⟨_, _, _, rfl⟩
 obtain ⟨A, B, g, e⟩ := key
 rw [e]
 generalize as.map _ = ps at *
 have h1 : (ps.take ps.length).filter (fun n => ((ps.zip us).lookup n).isNone) = [] := by
  rw [List.take_length, List.filter_eq_nil_iff]
  intro n hn
  have := lG hl' n hn
  simp_all
 have h3 : (decide (us.length > ps.length) && true) = true ↔ False := by simp; omega
 rw [if_neg fun z => h3.mp z, List.drop_nil, List.length_nil, Nat.sub_zero, h1, List.zip_nil_right, List.append_nil]
 show (pure _ : Sem _) = _
 rw [lJ hl' nd]
set_option genInjectivity false in
structure Rw where
 j : Nat
 x : Str
 ps : List Str
 D : bz
 st : Stmt
 N : List Str
 gx : Bool
 c : Option (Str × Str) := none
abbrev cz (j : Nat) (x : Str) (D : bz) (st : Stmt) (N : List Str) (gx : Bool := false) (c : Option (Str × Str) := none) : Rw := ⟨j, x, N.take D.ar, D, st, N, gx, c⟩
def bx {α : Type} (P : α → Prop) : List α → Prop
 | [] => True
 | r :: l => P r ∧ bx P l
theorem bx.mem : ∀ {l}, bx P l → ∀ r ∈ l, P r
 | [], _, r, h => by cases h
 | x :: l, a, r, h => by
  rcases List.mem_cons.mp h with z | z
  · rw [z]; exact a.1
  · exact bx.mem a.2 r z
def sj (r : Rw) : Option (Str × List Str) := match r.c with
 | none => some (r.x, r.ps)
 | some _ => none
def uw (r : Rw) : Option (Str × Str × List Str) := match r.c with
 | none => none
 | some q => some (q.1, r.x, r.ps)
def u9 (gn : Nat → Option Str) (tb : List Rw) (cs : List Str) (sb : List (Str × Str × Bool)) : Sg := ⟨gn, fun j => (tb.find? fun r => r.j == j).bind sj, fun j => (tb.find? fun r => r.j == j).bind uw, fun q => cs.contains q, fun q q' b => sb.contains (q, q', b)⟩
def eR (tb : List Rw) (j : Nat) : Option bz := (tb.find? fun r => r.j == j).map (·.D)
def pY (a : Arguments) : Bool := a.posonlyargs.isEmpty && a.vararg.isNone && a.kwonlyargs.isEmpty && a.kw_defaults.isEmpty && a.kwarg.isNone && a.defaults.isEmpty
def BN (N ps : List Str) (sc : Scope) : Bool := sc.kind == .function && !sc.isCoroutine && !sc.isGenerator && decide N.Nodup && N.take ps.length == ps && ps.all (fun x => sc.names.lookup x == some .local || sc.names.lookup x == some .cell) && sc.names.all fun y => !(y.2 == .free)
theorem lc (h : BN N ps sc = true) : cf N ps sc := by
 unfold BN at h
 simp only [Bool.and_eq_true, beq_iff_eq, Bool.not_eq_true', decide_eq_true_eq, List.all_eq_true, Bool.or_eq_true] at h
 obtain ⟨⟨⟨⟨⟨⟨h1, h2⟩, h3⟩, h4⟩, h5⟩, h6⟩, h7⟩ := h
 exact ⟨h1, h2, h3, h4, h5, h6, fun y hy z => by have := h7 y hy; grind⟩
def yB (S : Sg) (r : Rw) : Bool := BN r.N r.ps (ah r.st) && pY (aL r.st) && (aL r.st).args.map Arg.arg == r.ps && namesOk r.N && r.D.ar == r.ps.length && r.D.sl == r.N.length && lT S r.D.body ⟨r.N, ah r.st, true, r.gx⟩ (aB r.st)
theorem oj {S} {r} (h : yB S r = true) (y : Str) (kV doc pm : Value) (an : Option _) (cdv ct : Value) (us : List _) (hl : us.length = r.ps.length) : bindArgs (PySem.W.fnOf r.x y (aL r.st) (aB r.st) (ah r.st) .none kV doc pm an cdv ct) ⟨us, []⟩ = pure (r.ps.zip us) := by
 unfold yB at h
 simp only [Bool.and_eq_true, beq_iff_eq] at h
 obtain ⟨⟨⟨⟨⟨⟨h1, h2⟩, h3⟩, h4⟩, h5⟩, h6⟩, h7⟩ := h
 have sc := lc h1
 have nd : r.ps.Nodup := by rw [← sc.pre]; exact sc.nd.sublist (List.take_sublist _ _)
 generalize aL _ = a at *
 obtain ⟨a1, as, a3, a4, a5, a6, a7⟩ := a
 unfold pY at h2
 simp only [Bool.and_eq_true, List.isEmpty_iff, Option.isNone_iff_eq_none] at h2
 obtain ⟨⟨⟨⟨⟨rfl, rfl⟩, rfl⟩, rfl⟩, rfl⟩, rfl⟩ := h2
 rw [← h3] at hl nd ⊢
 exact ot _ _ _ _ _ _ _ _ _ _ _ _ (by simpa using hl) nd
theorem vE {S} {r} (h : yB S r = true) (d : Df Γ.K Γ.mg r.x r.st) (ht : r.gx = true → ∃ P ∈ Γ.tabs, Tb Γ.K Γ.mg Γ.base r.x P) : Fd Γ S r.D r.x r.ps r.st r.N r.gx := by
 have hb := oj h r.x
 unfold yB at h
 simp only [Bool.and_eq_true, beq_iff_eq] at h
 obtain ⟨⟨⟨⟨⟨⟨h1, h2⟩, h3⟩, h4⟩, h5⟩, h6⟩, h7⟩ := h
 exact ⟨d, lc h1, hb, h4, h5, h6, h7, ht⟩
theorem xS {S} {r} {q y} (h : yB S r = true) (hx : r.gx = false) (d : ∃ C, be Γ.K C q ∧ j4 Γ.K C ∧ C1 Γ.K C r.x y r.st) : Fm Γ S r.D q r.x y r.ps r.st r.N := by
 have hb := oj h y
 unfold yB at h
 simp only [Bool.and_eq_true, beq_iff_eq] at h
 obtain ⟨⟨⟨⟨⟨⟨h1, h2⟩, h3⟩, h4⟩, h5⟩, h6⟩, h7⟩ := h
 exact ⟨d, lc h1, hb, h4, h5, h6, hx ▸ h7⟩
def qO (Γ : Gm) (r : Rw) : Prop := match r.c with
 | none => Df Γ.K Γ.mg r.x r.st
 | some q => r.gx = false ∧ ∃ C, be Γ.K C q.1 ∧ j4 Γ.K C ∧ C1 Γ.K C r.x q.2 r.st
theorem FB {Γ : Gm} {tb : List Rw} {gn : Nat → Option Str} {cs : List Str} {sb : List (Str × Str × Bool)} (hc : tb.all (yB (u9 gn tb cs sb)) = true) (hd : bx (qO Γ) tb) (ht : ∀ r ∈ tb, r.gx = true → ∃ P ∈ Γ.tabs, Tb Γ.K Γ.mg Γ.base r.x P)
 (hcs : ∀ q ∈ cs, ∃ C, be Γ.K C q ∧ Γ.mg q = some (.ref C) ∧ zu Γ.K C) (hsb : ∀ z ∈ sb, ∃ C C', be Γ.K C z.1 ∧ Γ.mg z.2.1 = some (.ref C') ∧ j4 Γ.K C ∧ xO Γ.K C C' z.2.2) (hn : gn = Γ.gn) (g : Fq Γ) (hb : ∀ x ∈ ([("len" : Str), "tuple", "list", "int", "str", "min", "max", "all", "range", "enumerate", "zip", "any", "sum", "sorted", "set", "isinstance", "bool", "reversed"] : List Str), Γ.mg x = none) : Tx Γ (u9 gn tb cs sb) (eR tb) where
 fd := fun j x ps h => by
  have h : (tb.find? fun r => r.j == j).bind sj = some (x, ps) := h
  cases e : tb.find? fun r => r.j == j with
  | none => rw [e] at h; cases h
  | some r =>
   rw [e, Option.bind_some] at h
   have hm := List.mem_of_find?_eq_some e
   have ok := hd.mem r hm
   unfold sj at h
   unfold qO at ok
   cases q : r.c with
   | none =>
    simp only [q] at h ok
    cases h
    exact ⟨r.D, r.st, r.N, r.gx, by unfold eR; rw [e]; rfl, vE (List.all_eq_true.mp hc r hm) ok (ht r hm)⟩
   | some _ => simp_all
 fm := fun j c x ps h => by
  have h : (tb.find? fun r => r.j == j).bind uw = some (c, x, ps) := h
  cases e : tb.find? fun r => r.j == j with
  | none => rw [e] at h; cases h
  | some r =>
   rw [e, Option.bind_some] at h
   have hm := List.mem_of_find?_eq_some e
   have ok := hd.mem r hm
   unfold uw at h
   unfold qO at ok
   cases q : r.c with
   | none => simp only [q] at h; cases h
   | some _ =>
    simp only [q] at h ok
    cases h
    exact ⟨r.D, _, r.st, r.N, by unfold eR; rw [e]; rfl, xS (List.all_eq_true.mp hc r hm) ok.1 ok.2⟩
 cls := fun q h => hcs q (by simpa [u9] using h)
 sub := fun q q' b h => hsb (q, q', b) (by simpa [u9] using h)
 gn := hn
 g := g
 blt := hb
def nz (gs : List (Nat × Str × Int)) (j : Nat) : Option Str := (gs.find? fun r => r.1 == j).map (·.2.1)
theorem CD {gs} (hg : Γ.gn = nz gs) (h : bx (fun r => Γ.G[r.1]? = some (.int r.2.2) ∧ ∃ t, Γ.mg r.2.1 = some (.int r.2.2 t)) gs) : Fq Γ :=
 ⟨fun j x e => by
  rw [hg] at e
  unfold nz at e
  cases q : gs.find? fun r => r.1 == j with
  | none => rw [q] at e; cases e
  | some r =>
   rw [q] at e
   cases e
   have hj := by have := List.find?_some q; simpa using this
   obtain ⟨h1, t, h2⟩ := h.mem r (List.mem_of_find?_eq_some q)
   subst hj
   exact ⟨_, .int _, _, h2, ⟨t, rfl⟩, h1, fun _ _ => rfl⟩⟩
end I
end
section
namespace I
open PySem L2 PySem.Spec PyProof.Rows
structure Kf (K : PySem.W.Frag) (x : Str) (st : Stmt) : Prop where
 ex : ∃ (f : Addr) (od an : Option Addr) (sl : Array (Option Value)) (oc kV dc pm cd ct : Value), PySem.W.nsIn K mainGlobals x = some (some (.ref f)) ∧ K.lookup f = some ⟨oc, od, .func (PySem.W.fnOf x x (aL st) (aB st) (ah st) .none kV dc pm an cd ct), sl⟩ ∧ PySem.W.codeIn K cd x = true ∧ PySem.W.keepIn K (.ref f) = true
theorem aC {K} {x} {st} {f} {od an} {sl} {oc kV dc pm cd ct} (a : PySem.W.nsIn K mainGlobals x = some (some (.ref f))) (l : K.lookup f = some ⟨oc, od, .func (PySem.W.fnOf x x (aL st) (aB st) (ah st) .none kV dc pm an cd ct), sl⟩) (c : PySem.W.codeIn K cd x = true) (k : PySem.W.keepIn K (.ref f) = true) : Kf K x st :=
 ⟨f, od, an, sl, oc, kV, dc, pm, cd, ct, a, l, c, k⟩
theorem Kf.df {K} {x} {st} {h} {mg} (d : Kf K x st) (X : K.In h) (G : h.Ns mainGlobals mg) : Df K mg x st := by
 obtain ⟨f, od, an, sl, oc, kV, dc, pm, cd, ct, a, l, c, k⟩ := d.ex
 exact ⟨⟨f, _, m9 l c k, PySem.W.mg_of X G a⟩⟩
def v8 (P : Program) (w : World) (K : PySem.W.Frag) (mg : Str → Option Value) (base : Heap) (ts : List Addr) (gn : Nat → Option Str) (G : List T) : Gm := ⟨P, w, K, mg, base, ts, gn, G⟩
abbrev FZ : List Str := ["len", "tuple", "list", "int", "str", "min", "max", "all", "range", "enumerate", "zip", "any", "sum", "sorted", "set", "isinstance", "bool", "reversed"]
theorem FM {G : List T} {gs : List (Nat × Str × Int)} {K} {h} {mg} (hG : gs.all (fun r => match G[r.1]? with | some (.int i) => i == r.2.2 | _ => false) = true) (hc : bx (fun r => ∃ t, PySem.W.nsIn K mainGlobals r.2.1 = some (some (.int r.2.2 t))) gs) (X : K.In h) (N : h.Ns mainGlobals mg) : bx (fun r => G[r.1]? = some (.int r.2.2) ∧ ∃ t, mg r.2.1 = some (.int r.2.2 t)) gs := by
 induction gs with
 | nil => trivial
 | cons r l ih =>
  rw [List.all_cons, Bool.and_eq_true] at hG
  obtain ⟨⟨t, e⟩, h2⟩ := hc
  refine ⟨⟨?_, t, PySem.W.mg_of X N e⟩, ih hG.2 h2⟩
  have h1 := hG.1
  split at h1
  · simp_all
  · cases h1
theorem bH {K} {x} (h : PySem.W.nsIn K mainGlobals x = some none) : PySem.W.nsIn K mainGlobals x = some none := h
theorem dE {K} {x} {v} {t} (h : PySem.W.nsIn K mainGlobals x = some (some (.int v t))) : ∃ t, PySem.W.nsIn K mainGlobals x = some (some (.int v t)) := ⟨t, h⟩
def vo (K : PySem.W.Frag) (tabs : List (Addr × Addr)) (r : Rw) : Prop := r.gx = true → ∃ q ∈ tabs, PySem.W.tabIn K r.x = some q
def nT (K : PySem.W.Frag) (tabs : List (Addr × Addr)) : Sp := fun vs H Q _ => ∃ (a : Addr) (ns : List Int), vs = [.ref a] ∧ cO K H a (ns.map V.int) ∧ ns.length ≤ 63 ∧ (∀ q ∈ tabs, H q.2 = some (cX q.2)) ∧ ∀ H', (∀ q ∈ tabs, H' q.2 = some (cX q.2)) → Q (.bl true) H'
def oz (l : PySem.W.OpenLaw) (w : World) (K : PySem.W.Frag) (mg : Str → Option Value) (fa : Addr) (h : Heap) (n : Nat) : Prop :=
 ∃ (fd : FuncData) (tabs : List (Addr × Addr)) (sp : Sp), (∀ (s : Shared) (u : Value), BindsTo s fd ⟨[u], []⟩ [("_law_script", u)]) ∧ PySem.W.TabsAt tabs h ∧
  (∀ base : Heap, K.In base → base.Ns mainGlobals mg → Bm mg base → (∀ q ∈ tabs, PySem.W.CodeHd base q.1 q.2) → fG l.prog w K mg base mn n fa fd ["_law_script"] sp) ∧
  ∀ (H : Hp) (a : Addr) (ns : List Int), ns.length ≤ 63 → cO K H a (ns.map V.int) → (∀ q ∈ tabs, H q.2 = some (cX q.2)) → sp [.ref a] H (fun v H' => v = .bl true ∧ ∀ q ∈ tabs, H' q.2 = some (cX q.2)) fun _ _ _ => False
theorem rG {l : PySem.W.OpenLaw} {w : World} {K : PySem.W.Frag} {h : Heap} {mg : Str → Option _} {fa} {n} {st} {tabs} (X : K.In h) (G : h.Ns mainGlobals mg) (hfa : mg "law" = some (.ref fa)) (hT : bx (fun q => PySem.W.CodeHd h q.1 q.2 ∧ h.get? q.2 = some (PySem.W.tabObj #[])) tabs) (hl : Kf K "law" st)
 (hb : ∀ (kV doc pm : Value) (an : Option _) (cdv ct : Value) (us : List _), us.length = 1 → bindArgs (PySem.W.fnOf "law" "law" (aL st) (aB st) (ah st) .none kV doc pm an cdv ct) ⟨us, []⟩ = pure ([("_law_script" : Str)].zip us))
 (F : ∀ (base : Heap) (f : Addr) (fd : FuncData), K.In base → base.Ns mainGlobals mg → Bm mg base → (∀ q ∈ tabs, PySem.W.CodeHd base q.1 q.2) → vI K "law" "law" st f fd → Df K mg "law" st → fG l.prog w K mg base mn n f fd ["_law_script"] (nT K tabs)) : oz l w K mg fa h n := by
 have d := hl.df X G
 obtain ⟨f, od, an, sl, oc, kV, dc, pm, cd, ct, a, e, c, k⟩ := hl.ex
 have e2 := hfa.symm.trans (PySem.W.mg_of X G a)
 cases e2
 exact ⟨_, _, _, fun s v => .of_eq (hb _ _ _ _ _ _ _ rfl), fun q hq => hT.mem q hq, fun base kb nb bm hcd => F _ fa _ kb nb bm hcd (m9 e c k) d, fun H a ns hn hS hTb => ⟨a, ns, rfl, hS, hn, hTb, fun H' h' => ⟨rfl, h'⟩⟩⟩
theorem Fg {K} {mg} {base} {tabs} (ht : bx (vo K tabs) tb) (kb : K.In base) (nb : base.Ns mainGlobals mg) (bm : Bm mg base) (hcd : ∀ q ∈ tabs, PySem.W.CodeHd base q.1 q.2) : ∀ r ∈ tb, r.gx = true → ∃ P ∈ tabs.map Prod.snd, Tb K mg base r.x P := fun r hr z => by
 obtain ⟨q, hq, e⟩ := ht.mem r hr z
 exact ⟨q.2, List.mem_map_of_mem hq, ⟨⟨q.1, e, hcd q hq⟩, kb, nb, bm⟩⟩
theorem E6 {q} {loose} {XP} {YP} {d} {K : Params → PySem.W.Frag} {n} (hn : l.most = some 63) (hdf : d.params.defaults = []) (hr : n ≤ 130)
 (hY : ∀ (w : World) (h : Heap), YP w h → (K w.params).In h) (hnt : ∀ w : World, PySem.W.noTabs (K w.params) = true)
 (F : ∀ (w : World) (mg mb : Str → Option _) (fa : Addr) (h : Heap) (s₀ : Shared), PySem.W.Ground q loose [] XP w s₀ mg mb h → (K w.params).In h → h.Ns mainGlobals mg → mg d.name = some (.ref fa) → oz l w (K w.params) mg fa h n) :
 PySem.W.WalkO q loose XP YP l.row.toRowW d [] fun f vs => PySem.call f vs :=
 L2.u5 hn (by decide) hdf ((⟨rfl, by decide, by decide⟩ : bh _ _).mono hr) hY hnt F
structure Kc (K : PySem.W.Frag) (q : Str) : Prop where
 ex : ∃ C, be K C q ∧ j4 K C
theorem pS {K} {q} {C ns} {oc} {od} {sl} {b m sc} {qn} {hd ab de} {ss} {co} (n : PySem.W.nsIn K mainGlobals q = some (some (.ref C))) (l : K.lookup C = some ⟨oc, od, .cls ⟨q, b, m, ns, qn, hd, ss, sc, ab, co, de⟩, sl⟩)
 (pg : PySem.W.plainGet K C Str.empty = true) (h : PySem.W.hasDictIn K C = true) (po : PySem.W.plainOver K C = true) (sa : PySem.W.findIn K (.ref C) "__setattr__" = some (some (.builtin "object.__setattr__"))) : Kc K q := ⟨C, ⟨⟨_, _, l, rfl, rfl⟩, n⟩, ⟨pg, h, po, sa⟩⟩
structure Kn (K : PySem.W.Frag) (q : Str) : Prop where
 ex : ∃ C, PySem.W.nsIn K mainGlobals q = some (some (.ref C)) ∧ zu K C
theorem oO {K} {q} {C} (n : PySem.W.nsIn K mainGlobals q = some (some (.ref C))) (m : PySem.W.makesIn K C = true) (i : PySem.W.findIn K (.ref C) "__init__" = some (some (.builtin "object.__init__"))) (k : PySem.W.keepIn K (.ref C) = true) : Kn K q := ⟨C, n, ⟨m, i, k⟩⟩
structure Ks (K : PySem.W.Frag) (z : Str × Str × Bool) : Prop where
 ex : ∃ C C', PySem.W.nsIn K mainGlobals z.1 = some (some (.ref C)) ∧ PySem.W.nsIn K mainGlobals z.2.1 = some (some (.ref C')) ∧ xO K C C' z.2.2
structure Km (K : PySem.W.Frag) (q m y : Str) (st : Stmt) : Prop where
 ex : ∃ C, PySem.W.nsIn K mainGlobals q = some (some (.ref C)) ∧ C1 K C m y st
theorem gu {K : PySem.W.Frag} {q m y : Str} {st : Stmt} {C f : Addr} {od an : Option Addr} {sl : Array (Option Value)} {oc kV dc pm cd ct : Value} (n : PySem.W.nsIn K mainGlobals q = some (some (.ref C))) (a : PySem.W.findIn K (.ref C) m = some (some (.ref f))) (i : PySem.W.isFn K (.ref f) = true)
 (l : K.lookup f = some ⟨oc, od, .func (PySem.W.fnOf m y (aL st) (aB st) (ah st) .none kV dc pm an cd ct), sl⟩) (c : PySem.W.codeIn K cd y = true) (k : PySem.W.keepIn K (.ref f) = true) : Km K q m y st := ⟨C, n, ⟨⟨f, _, m9 (st := st) l c k, ⟨a, i, k⟩⟩⟩⟩
def Ie (K : PySem.W.Frag) (r : Rw) : Prop := match r.c with
 | none => Kf K r.x r.st
 | some q => Km K q.1 r.x q.2 r.st
def iY (tb : List Rw) (cs news : List Str) (sb : List (Str × Str × Bool)) : Bool := tb.all (fun r => match r.c with | none => true | some q => !r.gx && cs.contains q.1) && news.all cs.contains && sb.all fun z => cs.contains z.1
section
variable {K : PySem.W.Frag} {h : Heap} {mg : Str → Option Value} {tb : List Rw} {cs news : List Str} {sb : List (Str × Str × Bool)}
theorem AR (hc : iY tb cs news sb = true) (X : Γ.K.In h) (G : h.Ns mainGlobals Γ.mg) (k : bx (Kc Γ.K) cs) : ∀ r ∈ tb, Ie Γ.K r → qO Γ r := by
 intro r hr a
 unfold iY at hc
 simp only [Bool.and_eq_true] at hc
 have h1 := List.all_eq_true.mp hc.1.1 r hr
 unfold Ie at a
 unfold qO
 cases e : r.c with
 | none => simp only [e] at a ⊢; exact a.df X G
 | some q =>
  simp only [e, Bool.and_eq_true, Bool.not_eq_true'] at a h1 ⊢
  obtain ⟨C, h2, h3⟩ := (k.mem _ (by simpa using h1.2)).ex
  obtain ⟨C', h4, h5⟩ := a.ex
  have := h2.2.symm.trans h4
  cases this
  exact ⟨h1.1, C, h2, h3, h5⟩
theorem yu (hc : iY tb cs news sb = true) (X : K.In h) (G : h.Ns mainGlobals mg) (k : bx (Kc K) cs) (n : bx (Kn K) news) : ∀ q ∈ news, ∃ C, be K C q ∧ mg q = some (.ref C) ∧ zu K C := by
 intro q hq
 unfold iY at hc
 simp only [Bool.and_eq_true] at hc
 have h1 := List.all_eq_true.mp hc.1.2 q hq
 obtain ⟨C, h2, h3⟩ := (k.mem q (by simpa using h1)).ex
 obtain ⟨C', h4, h5⟩ := (n.mem q hq).ex
 have := h2.2.symm.trans h4
 cases this
 exact ⟨C, h2, PySem.W.mg_of X G h4, h5⟩
theorem vX (hc : iY tb cs news sb = true) (X : K.In h) (G : h.Ns mainGlobals mg) (k : bx (Kc K) cs) (n : bx (Ks K) sb) : ∀ z ∈ sb, ∃ C C', be K C z.1 ∧ mg z.2.1 = some (.ref C') ∧ j4 K C ∧ xO K C C' z.2.2 := by
 intro z hz
 unfold iY at hc
 simp only [Bool.and_eq_true] at hc
 have h1 := List.all_eq_true.mp hc.2 z hz
 obtain ⟨C, h2, h3⟩ := (k.mem _ (by simpa using h1)).ex
 obtain ⟨C', C'', h4, h5, h6⟩ := (n.mem z hz).ex
 have := h2.2.symm.trans h4
 cases this
 exact ⟨C, C'', h2, PySem.W.mg_of X G h5, h3, h6⟩
theorem bx.of_mem : ∀ {l}, (∀ r ∈ l, P r) → bx P l
 | [], _ => trivial
 | x :: l, h => ⟨h x List.mem_cons_self, bx.of_mem fun r hr => h r (List.mem_cons_of_mem _ hr)⟩
end
end I
end
section
namespace I
open PySem L2
@[inline] def ws (s : String) : Array Lean.Name := ((s.splitOn " ").map String.toName).toArray
section
variable {F : FT} {G : List T} {st : ae} {ρ : aD}
theorem Kh {i : Nat} : aj F G (.v i) ρ st = (match ρ[i]? with
 | some (some w) => .ok w st
 | _ => .bad) := rfl
theorem JX {t : T} : aj F G (.c t) ρ st = (.ok (.d t) st) := rfl
theorem J8 {j : Nat} : aj F G (.g j) ρ st = (match G[j]? with
 | some t => .ok (.d t) st
 | none => .bad) := rfl
theorem B9  : jk F G (.retN) ρ st = (.ok (.rt (.d .non), ρ) st) := rfl
theorem A3  : jk F G (.pass) ρ st = (.ok (.nx, ρ) st) := rfl
theorem ub  : jk F G (.brk) ρ st = (.ok (.bk, ρ) st) := rfl
theorem rV  : jk F G (.cnt) ρ st = (.ok (.ct, ρ) st) := rfl
end
section
variable {F : FT} {G : List T} {st st' st1 : ae} {ρ : aD}
theorem oR {f : α → ae → ai β} : (ai.ok a st).bind f = f a st := rfl
theorem Cv {t : T} : look (.d t) st = some t := rfl
theorem cW (h : st[k]? = some (some xs)) : look (.ref k) st = some (.lst xs) := by simp [look, h]
theorem Ft {n : Nat} {t : T} : aO n (.d t) st = .ok t (st.take n) := rfl
theorem IL {n : Nat} {t : T} : bZ n (.d t) st = .ok (.d t) (st.take n) := rfl
theorem sd (h : st.length = n) : st.take n = st := by subst h; exact List.take_length
theorem qv {xs : List T} : fresh (.lst xs) st = .ok (.ref st.length) (st ++ [some xs]) := rfl
theorem qq {xs : List T} : fresh (.tup xs) st = .ok (.d (.tup xs)) st := rfl
theorem qU {i : Int} : fresh (.int i) st = .ok (.d (.int i)) st := rfl
theorem qy {i : Str} : fresh (.str i) st = .ok (.d (.str i)) st := rfl
theorem vA {i : Bool} : fresh (.bl i) st = .ok (.d (.bl i)) st := rfl
theorem Fo {x y} {a b t} (hx : look x st = some a) (hy : look y st = some b) (h : I.eB o a b = some t) : aV o x y st = I.fresh t st := by simp [aV, hx, hy, h]
theorem iD (h : I.eB o a b = some t) : aV o (.d a) (.d b) st = I.fresh t st := Fo rfl rfl h
theorem DB (h : aY a = true) : I.eB .mul (.int a) (.int b) = some (.int (a * b)) := by
 show (if (aY a || aY b) = true then some _ else none) = _
 simp_all
theorem Gv {a b} (h : aY b = true) : I.eB .mul (.int a) (.int b) = some (.int (a * b)) := by
 show (if (aY a || aY b) = true then some _ else none) = _
 simp_all
theorem zV {a b} (h : 0 < b) (h' : b < 2 ^ 1000) : I.eB .fdiv (.int a) (.int b) = some (.int (a / b)) := by show (if 0 < b ∧ b < 2 ^ 1000 then some _ else none) = _; rw [if_pos ⟨h, h'⟩]
theorem Dl {a b} (h : 0 < b) : I.eB .mod (.int a) (.int b) = some (.int (a % b)) := by show (if 0 < b then some _ else none) = _; rw [if_pos h]
theorem BI (h : a.length + b.length ≤ aS) : I.eB .add (.str a) (.str b) = some (.str (a ++ b)) := by show (if a.length + b.length ≤ aS then some _ else none) = _; rw [if_pos h]
theorem Gz (h : a.length + b.length ≤ aS) : I.eB .add (.tup a) (.tup b) = some (.tup (a ++ b)) := by show (if a.length + b.length ≤ aS then some _ else none) = _; rw [if_pos h]
theorem jE {x y} {a b} {t} (hx : look x st = some a) (hy : look y st = some b) (h : gf o a b = some t) : bi o x y st = .ok (.d (.bl t)) st := by simp [bi, hx, hy, h]
theorem ej (h : gf o a b = some t) : bi o (.d a) (.d b) st = .ok (.d (.bl t)) st := jE rfl rfl h
theorem GW : gf .lt (.int a) (.int b) = some (decide (a < b)) := rfl
theorem G6 {a b : Int} : gf .le (.int a) (.int b) = some (decide (a ≤ b)) := rfl
theorem Hg : gf .gt (.int a) (.int b) = some (decide (b < a)) := rfl
theorem HE {a b : Int} : gf .ge (.int a) (.int b) = some (decide (b ≤ a)) := rfl
theorem Hj : gf .eq (.int a) (.int b) = some (decide (a = b)) := rfl
theorem HR : gf .eq (.str a) (.str b) = some (decide (a = b)) := rfl
theorem IQ : gf .ne (.int a) (.int b) = some !decide (a = b) := rfl
theorem HP {a b : Str} : gf .ne (.str a) (.str b) = some (!decide (a = b)) := by
 show (if b9 (.str a) ≤ 60 ∧ b9 (.str b) ≤ 60 then some (!eqT (.str a) (.str b)) else none) = _
 rw [if_pos (by simp only [b9]; omega)]; show some (!(a == b)) = _; rw [Bool.beq_eq_decide_eq]
theorem bW {i} {t} (h0 : 0 ≤ i) (h : xs[i.toNat]? = some t) : db xs i = some t := by
 have hl := (List.getElem?_eq_some_iff.mp h).1
 unfold db rR
 grind
theorem Aa {b : Bool} : aR (.d (.bl b)) st = some b := rfl
end
section
variable {F : FT} {G : List T} {st : ae} {ρ : aD}
def GH (o : Option T) (st : ae) : ai W := match o with
 | some t => .ok (.d t) st
 | none => .bad
theorem tR {t : T} : GH (some t) st = .ok (.d t) st := rfl
theorem Do {xs : List T} {i : Int} : eM (.d (.tup xs)) (.d (.int i)) st = GH (db xs i) st := rfl
theorem zz {xs : List T} {i : Int} : eM (.d (.lst xs)) (.d (.int i)) st = GH (db xs i) st := rfl
theorem Fs : eM (.ref k) (.d (.int i)) st = match st[k]? with | some (some xs) => GH (db xs i) st | _ => .bad := by
 cases h : st[k]? with
 | none => simp [eM, look, h]
 | some o =>
  cases o with
  | none => simp [eM, look, h]
  | some xs => simp only [eM, look, h]; rfl
theorem Bi {k : Nat} : look (.ref k) st = (match st[k]? with | some (some xs) => some (.lst xs) | _ => none) := rfl
theorem F7 : db (x :: r) 0 = some x := bW (by decide) rfl
theorem Jh : db (x :: y :: r) 1 = some y := bW (by decide) rfl
theorem HL {α : Type} {x y z : α} {r : List α} : db (x :: y :: z :: r) 2 = some z := bW (by decide) rfl
theorem Hs {α : Type} {x y z u : α} {r : List α} : db (x :: y :: z :: u :: r) 3 = some u := bW (by decide) rfl
theorem Hb {α : Type} {x y z u v : α} {r : List α} : db (x :: y :: z :: u :: v :: r) 4 = some v := bW (by decide) rfl
theorem ID {α : Type} {x y z u v w : α} {r : List α} : db (x :: y :: z :: u :: v :: w :: r) 5 = some w := bW (by decide) rfl
theorem Ih : rR 2 0 = some 0 := rfl
theorem Hr : rR 2 1 = some 1 := rfl
theorem w_add {a b : Int} : aV .add (.d (.int a)) (.d (.int b)) st = .ok (.d (.int (a + b))) st := rfl
theorem w_sub {a b : Int} : aV .sub (.d (.int a)) (.d (.int b)) st = .ok (.d (.int (a - b))) st := rfl
theorem Bw (h : aY a = true) : aV .mul (.d (.int a)) (.d (.int b)) st = .ok (.d (.int (a * b))) st := iD (DB h)
theorem z7 {a b} (h : aY b = true) : aV .mul (.d (.int a)) (.d (.int b)) st = .ok (.d (.int (a * b))) st := iD (Gv h)
theorem AQ {a b} (h : 0 < b) (h' : b < 2 ^ 1000) : aV .fdiv (.d (.int a)) (.d (.int b)) st = .ok (.d (.int (a / b))) st := iD (zV h h')
theorem w_mod {a b} (h : 0 < b) : aV .mod (.d (.int a)) (.d (.int b)) st = .ok (.d (.int (a % b))) st := iD (Dl h)
theorem Fp {a b} (h : 0 ≤ b ∧ b ≤ 1000000 ∧ a.natAbs < 2 ^ 64) : I.eB .pow (.int a) (.int b) = some (.int (a ^ b.toNat)) := by show (if 0 ≤ b ∧ b ≤ 1000000 ∧ a.natAbs < 2 ^ 64 then some _ else none) = _; rw [if_pos h]
theorem w_pow {a b} (h : 0 ≤ b ∧ b ≤ 1000000 ∧ a.natAbs < 2 ^ 64) : aV .pow (.d (.int a)) (.d (.int b)) st = .ok (.d (.int (a ^ b.toNat))) st := iD (Fp h)
theorem HS : aV .pow (.d (.int 10)) (.d (.int 6)) st = .ok (.d (.int (10 ^ 6))) st := w_pow (by decide)
theorem G7 : aV .pow (.d (.int 10)) (.d (.int 9)) st = .ok (.d (.int (10 ^ 9))) st := w_pow (by decide)
theorem FF : aV .pow (.d (.int 10)) (.d (.int 10)) st = .ok (.d (.int (10 ^ 10))) st := w_pow (by decide)
theorem Gy : aV .pow (.d (.int 10)) (.d (.int 18)) st = .ok (.d (.int (10 ^ 18))) st := w_pow (by decide)
theorem Ee : aV .pow (.d (.int 10)) (.d (.int 60)) st = .ok (.d (.int (10 ^ 60))) st := w_pow (by decide)
theorem uO (h : a.length + b.length ≤ aS) : aV .add (.d (.str a)) (.d (.str b)) st = .ok (.d (.str (a ++ b))) st := iD (BI h)
theorem AO (h : a.length + b.length ≤ aS) : aV .add (.d (.tup a)) (.d (.tup b)) st = .ok (.d (.tup (a ++ b))) st := iD (Gz h)
theorem w_lt : bi .lt (.d (.int a)) (.d (.int b)) st = .ok (.d (.bl (decide (a < b)))) st := ej GW
theorem Iw {a b : Int} : bi .le (.d (.int a)) (.d (.int b)) st = .ok (.d (.bl (decide (a ≤ b)))) st := ej G6
theorem IU : bi .gt (.d (.int a)) (.d (.int b)) st = .ok (.d (.bl (decide (b < a)))) st := ej Hg
theorem IM {a b : Int} : bi .ge (.d (.int a)) (.d (.int b)) st = .ok (.d (.bl (decide (b ≤ a)))) st := ej HE
theorem w_eq : bi .eq (.d (.int a)) (.d (.int b)) st = .ok (.d (.bl (decide (a = b)))) st := ej Hj
theorem FJ : bi .eq (.d (.str a)) (.d (.str b)) st = .ok (.d (.bl (decide (a = b)))) st := ej HR
theorem HX : bi .ne (.d (.int a)) (.d (.int b)) st = .ok (.d (.bl !decide (a = b))) st := ej IQ
theorem EQ {a b : Str} : bi .ne (.d (.str a)) (.d (.str b)) st = .ok (.d (.bl (!decide (a = b)))) st := ej HP
theorem AG {x y : Int} : lQ .add x y = some (x + y) := rfl
theorem Ar {x y : Int} : lQ .sub x y = some (x - y) := rfl
theorem Dy {b : Bool} : fJ .int [.d (.bl b)] st = .ok (.d (.int (if b then 1 else 0))) st := rfl
theorem kM {xs : List T} : fJ .len [.d (.tup xs)] st = .ok (.d (.int xs.length)) st := rfl
theorem Cr {xs : List T} : fJ .len [.d (.lst xs)] st = .ok (.d (.int xs.length)) st := rfl
theorem AE : fJ .len [.ref k] st = match st[k]? with | some (some xs) => .ok (.d (.int xs.length)) st | _ => .bad := by
 cases h : st[k]? with
 | none => simp [fJ, cK, look, h]
 | some o =>
  cases o with
  | none => simp [fJ, cK, look, h]
  | some xs => simp only [fJ, cK, look, h]; rfl
theorem BW {xs : List T} : fJ .tuple [.d (.tup xs)] st = .ok (.d (.tup xs)) st := rfl
theorem An {xs : List T} : fJ .tuple [.d (.lst xs)] st = .ok (.d (.tup xs)) st := rfl
theorem Ch : fJ .tuple [.ref k] st = match st[k]? with | some (some xs) => .ok (.d (.tup xs)) st | _ => .bad := by
 cases h : st[k]? with
 | none => simp [fJ, cK, look, h]
 | some o =>
  cases o with
  | none => simp [fJ, cK, look, h]
  | some xs => simp only [fJ, cK, look, h]; rfl
theorem nh {xs : List T} : fJ .list [.d (.tup xs)] st = .ok (.ref st.length) (st ++ [some xs]) := rfl
theorem FS {a b : Int} : fJ .min2 [.d (.int a), .d (.int b)] st = .ok (.d (.int (if b < a then b else a))) st := rfl
theorem Et {a b : Int} : fJ .max2 [.d (.int a), .d (.int b)] st = .ok (.d (.int (if b > a then b else a))) st := rfl
theorem yC (h : n ≤ 1000) : n ≤ aS := Nat.le_trans h (by decide)
end
theorem cj (h0 : -2 ^ 64 < i) (h1 : i < 2 ^ 64) : aY i = true := by rw [oE]; simp_all
def oM (F : FT) (G : List T) (t : Tg) (body : List S) : T → aD → ae → ai (Fl × aD) := fun x ρ st => match bg t (.d x) ρ with
 | some ρ' => cC F G body ρ' st
 | none => .bad
theorem AA {t} {body} {x} {ρ ρ'} {st} (h : bg t (.d x) ρ = some ρ') : oM F G t body x ρ st = cC F G body ρ' st := by unfold oM; rw [h]
theorem CP {ix} {t} {ifs} {el} {x} {ρ ρ'} {st} (h : bg t (.d x) (cI ix ρ) = some ρ') :
 bY F G ix t ifs el ρ x st = (cy F G ifs ρ' st).bind fun b st' => if b then (aj F G el ρ' st').bind fun w st' => (aO st.length w st').bind fun t st => .ok (some t) st else .ok none (st'.take st.length) := by
 unfold bY; rw [h]
section
variable {st : ae} {k : Nat} {x y : Option (List T)} {l : ae} {xs : List T}
theorem take_set : (st.set k x).take st.length = st.set k x := sd (by rw [List.length_set])
theorem jX : (st.set k x ++ l).take st.length = st.set k x := by simp
theorem mH : (st ++ l).take st.length = st := List.take_left
theorem bN {lo : Int} {n : Nat} : (rng lo n).length = n := by simp [rng]
theorem BL (h0 : 0 ≤ n) (h : n ≤ 1000) : ag .rng1 [.d (.int n)] st = some (rng 0 n.toNat, []) := by
 have e : aS = 1000000 := rfl
 show (if -aS ≤ n ∧ n ≤ aS then some _ else none) = _
 rw [if_pos ⟨by omega, by omega⟩]
end
end I
end
section
namespace I
open PySem L2
section
variable {F : FT} {G : List T} {st : ae} {ρ : aD}
def oG (o : lZ) (x : W) (y : W) (s : ae) : ai W := aV o x y s
def uH (F : FT) (G : List T) (o : lZ) (b : E) (ρ : aD) (x : W) (s : ae) : ai W := (aj F G b ρ s).bind (oG o x)
theorem zk {o : lZ} {a b : E} : aj F G (.bin o a b) ρ st = (aj F G a ρ st).bind (uH F G o b ρ) := rfl
def zg (o : qH) (x : W) (y : W) (s : ae) : ai W := bi o x y s
def zM (F : FT) (G : List T) (o : qH) (b : E) (ρ : aD) (x : W) (s : ae) : ai W := (aj F G b ρ s).bind (zg o x)
theorem Ex {o : qH} {a b : E} : aj F G (.cmp o a b) ρ st = (aj F G a ρ st).bind (zM F G o b ρ) := rfl
def lW (p : qH) (y : W) (u : W) (s : ae) : ai W := bi p y u s
def zj (F : FT) (G : List T) (p : qH) (c : E) (ρ : aD) (y : W) : W → ae → ai W := fun r s => match r with | .d (.bl true) => (aj F G c ρ s).bind (lW p y) | .d (.bl false) => .ok (.d (.bl false)) s | _ => .bad
theorem kz {F : FT} {G : List T} {p : qH} {c : E} {ρ : aD} {y : W} {z : W} {st1 : ae} : zj F G p c ρ y z st1 = (match z with | .d (.bl true) => (aj F G c ρ st1).bind (lW p y) | .d (.bl false) => .ok (.d (.bl false)) st1 | _ => .bad) := rfl
def o8 (F : FT) (G : List T) (o p : qH) (c : E) (ρ : aD) (x : W) (y : W) (s : ae) : ai W := (bi o x y s).bind (zj F G p c ρ y)
def sP (F : FT) (G : List T) (o p : qH) (b c : E) (ρ : aD) (x : W) (s : ae) : ai W := (aj F G b ρ s).bind (o8 F G o p c ρ x)
def Dw (F : FT) (G : List T) (b : E) (ρ : aD) (x : W) (s : ae) : ai W := match aR x s with | some true => aj F G b ρ s | some false => .ok x s | none => .bad
theorem Gf {a b : E} : aj F G (.and a b) ρ st = (aj F G a ρ st).bind (Dw F G b ρ) := rfl
def JI (F : FT) (G : List T) (b : E) (ρ : aD) (x : W) (s : ae) : ai W := match aR x s with | some false => aj F G b ρ s | some true => .ok x s | none => .bad
theorem Hn {a b : E} : aj F G (.or a b) ρ st = (aj F G a ρ st).bind (JI F G b ρ) := rfl
def vM (x : W) (s : ae) : ai W := match aR x s with | some b => .ok (.d (.bl (!b))) s | none => .bad
theorem ED {a : E} : aj F G (.not a) ρ st = (aj F G a ρ st).bind vM := rfl
def IK (x : W) (s : ae) : ai W := match look x s with | some (.tup xs) => .ok (.d (.tup xs.reverse)) s | _ => .bad
def Gn (x : W) (s : ae) : ai W := GB x s
theorem Er {a : E} : aj F G (.ss a) ρ st = (aj F G a ρ st).bind Gn := rfl
def Hi (x : W) (s : ae) : ai W := Iy x s
def B5 (x : W) (s : ae) : ai W := wX x s
theorem yS {a : E} : aj F G (.trg a) ρ st = (aj F G a ρ st).bind B5 := rfl
def pO (x : W) (y : W) (s : ae) : ai W := G8 x y s
def rZ (F : FT) (G : List T) (e : E) (ρ : aD) (x : W) (s : ae) : ai W := if (look x s).isNone then .bad else (aj F G e ρ s).bind (pO x)
def EY (x : W) (s : ae) : ai W := .ok (.d (.bl (match x with | .d .non => true | _ => false))) s
theorem Gx {a : E} : aj F G (.isN a) ρ st = (aj F G a ρ st).bind EY := rfl
def zP (x : W) (s : ae) : ai W := .ok (.d (.bl (match x with | .d .non => false | _ => true))) s
theorem Aq {a : E} : aj F G (.notN a) ρ st = (aj F G a ρ st).bind zP := rfl
def Bq (F : FT) (G : List T) (a b : E) (ρ : aD) (x : W) (s : ae) : ai W := match aR x s with | some true => aj F G a ρ s | some false => aj F G b ρ s | none => .bad
def DS (ts : List T) (s : ae) : ai W := if ts.length ≤ aS then .ok (.d (.tup ts)) s else .bad
theorem Dk {es : List E} : aj F G (.tup es) ρ st = (dj F G es ρ st).bind DS := rfl
def ES (ts : List T) (s : ae) : ai W := if ts.length ≤ aS then fresh (.lst ts) s else .bad
theorem DE {es : List E} : aj F G (.lst es) ρ st = (dj F G es ρ st).bind ES := rfl
def Fa (x : W) (y : W) (s : ae) : ai W := eM x y s
def FR (F : FT) (G : List T) (b : E) (ρ : aD) (x : W) (s : ae) : ai W := (aj F G b ρ s).bind (Fa x)
theorem Ic {a b : E} : aj F G (.ix a b) ρ st = (aj F G a ρ st).bind (FR F G b ρ) := rfl
def Ge (x : W) (l : Option Int) (h : Option Int) (s : ae) : ai W := xD x l h s
def GA (F : FT) (G : List T) (hi : Option E) (ρ : aD) (x : W) (l : Option Int) (s : ae) : ai W := (vK F G hi ρ s).bind (Ge x l)
def Fb (F : FT) (G : List T) (lo hi : Option E) (ρ : aD) (x : W) (s : ae) : ai W := (vK F G lo ρ s).bind (GA F G hi ρ x)
theorem Jg {a : E} {lo hi : Option E} : aj F G (.sl a lo hi) ρ st = (aj F G a ρ st).bind (Fb F G lo hi ρ) := rfl
def zt (F : FT) (f : Nat) (ws : List W) (s : ae) : ai W := F f ws s
theorem Ab {f : Nat} {es : List E} : aj F G (.call f es) ρ st = (aW F G es ρ st).bind (zt F f) := rfl
def Jt (f : Bf) (ws : List W) (s : ae) : ai W := fJ f ws s
theorem Jb {f : Bf} {es : List E} : aj F G (.bf f es) ρ st = (aW F G es ρ st).bind (Jt f) := rfl
def GQ (m : Mt) (x : W) (ts : List T) (s : ae) : ai W := match x with
 | .ref k => match s[k]? with
  | some (some xs) => match wI m xs ts with
   | some (ys, t) => .ok (.d t) (s.set k (some ys))
   | none => .bad
  | _ => .bad
 | .d t => match xr m t ts with
  | some u => fresh u s
  | none => .bad
theorem EC {m : Mt} {k : Nat} {ts : List T} {s : ae} : GQ m (.ref k) ts s = (match s[k]? with
 | some (some xs) => match wI m xs ts with
  | some (ys, t) => .ok (.d t) (s.set k (some ys))
  | none => .bad
 | _ => .bad) := rfl
theorem FX {m : Mt} {t : T} {ts : List T} {s : ae} : GQ m (.d t) ts s = (match xr m t ts with
 | some u => fresh u s
 | none => .bad) := rfl
def F4 (m : Mt) (x : W) (ts : List T) (s : ae) : ai W := GQ m x ts s
def Ev (F : FT) (G : List T) (m : Mt) (es : List E) (ρ : aD) (x : W) (s : ae) : ai W := if (look x s).isNone then .bad else (dj F G es ρ s).bind (F4 m x)
theorem B8 {m : Mt} {o : E} {es : List E} : aj F G (.meth m o es) ρ st = (aj F G o ρ st).bind (Ev F G m es ρ) := rfl
def D4 (n : Ty) (x : W) (s : ae) : ai W := match look x s with | some t => if eX t then .ok (.d (.bl (Hq n t))) s else .bad | none => .bad
theorem Dz {n : Ty} {a : E} : aj F G (.isi n a) ρ st = (aj F G a ρ st).bind (D4 n) := rfl
def Im (F : FT) (G : List T) (tab : List (Str × Nat)) (es : List E) (ρ : aD) (x : W) (s : ae) : ai W := match x with | .d (.ins q) => (match tab.lookup q with | some f => (aW F G es ρ s).bind fun ws st => F f (.d (.ins q) :: ws) st | none => .bad) | _ => .bad
def G3 (tab : List (Str × Bool)) (x : W) (s : ae) : ai W := match x with | .d (.ins q) => (match tab.lookup q with | some b => .ok (.d (.bl b)) s | none => .bad) | _ => .bad
def Gb (x : W) (y : W) (s : ae) : ai W := Hc x y s
def GZ (F : FT) (G : List T) (b : E) (ρ : aD) (x : W) (s : ae) : ai W := (aj F G b ρ s).bind (Gb x)
def DL (x : W) (y : W) (s : ae) : ai W := m7 x y s
def D7 (F : FT) (G : List T) (b : E) (ρ : aD) (x : W) (s : ae) : ai W := (aj F G b ρ s).bind (DL x)
theorem Fh {a b : E} : aj F G (.nin a b) ρ st = (aj F G a ρ st).bind (D7 F G b ρ) := rfl
theorem Ei {q : Str} : aj F G (.new q) ρ st = .ok (.d (.ins q)) st := rfl
def EE (t : T) (s : ae) : ai W := .ok (.d t) s
def Ej (n : Nat) (x : W) (s : ae) : ai W := (aO n x s).bind EE
theorem EI {e : E} : aj F G (.frz e) ρ st = (aj F G e ρ st).bind (Ej st.length) := rfl
def JS (n : Nat) (x : W) (s : ae) : ai W := bZ n x s
theorem IF {e : E} : aj F G (.tr e) ρ st = (aj F G e ρ st).bind (JS st.length) := rfl
def EA (w : W) (ws : List W) (s : ae) : ai (List W) := .ok (w :: ws) s
def Da (F : FT) (G : List T) (es : List E) (ρ : aD) (w : W) (s : ae) : ai (List W) := (aW F G es ρ s).bind (EA w)
theorem Ir {e : E} {es : List E} : aW F G (e :: es) ρ st = (aj F G e ρ st).bind (Da F G es ρ) := rfl
theorem DU  : aW F G [] ρ st = .ok [] st := rfl
def Gw (t : T) (ts : List T) (s : ae) : ai (List T) := .ok (t :: ts) s
def Go (F : FT) (G : List T) (es : List E) (ρ : aD) (t : T) (s : ae) : ai (List T) := (dj F G es ρ s).bind (Gw t)
def E3 (F : FT) (G : List T) (es : List E) (ρ : aD) (n : Nat) (w : W) (s : ae) : ai (List T) := (aO n w s).bind (Go F G es ρ)
theorem HK {e : E} {es : List E} : dj F G (e :: es) ρ st = (aj F G e ρ st).bind (E3 F G es ρ st.length) := rfl
theorem D2  : dj F G [] ρ st = .ok [] st := rfl
def JM (F : FT) (G : List T) (es : List E) (ρ : aD) (w : W) (s : ae) : ai Bool := match aR w s with | some true => cy F G es ρ s | some false => .ok false s | none => .bad
theorem HF {e : E} {es : List E} : cy F G (e :: es) ρ st = (aj F G e ρ st).bind (JM F G es ρ) := rfl
theorem F3  : cy F G [] ρ st = .ok true st := rfl
def kO (w : W) (s : ae) : ai (Option Int) := match look w s with | some (.int i) => .ok (some i) s | _ => .bad
theorem Kz {e : E} : vK F G (some e) ρ st = (aj F G e ρ st).bind kO := rfl
theorem IZ  : vK F G none ρ st = .ok none st := rfl
def DJ (t : Tg) (ρ : aD) (w : W) (s : ae) : ai (Fl × aD) := match bg t w ρ with | some ρ1 => .ok (.nx, ρ1) s | none => .bad
theorem FV {t : Tg} {e : E} : jk F G (.asg t e) ρ st = (aj F G e ρ st).bind (DJ t ρ) := rfl
def FN (ρ : aD) (t : T) (x : W) (y : W) (s : ae) : ai (Fl × aD) := match x, look y s with | .ref k, some (.int n) => (match s[k]? with | some (some xs) => (match rR xs.length n with | some j => .ok (.nx, ρ) (s.set k (some (xs.set j t))) | none => .bad) | _ => .bad) | _, _ => .bad
def DM (F : FT) (G : List T) (i : E) (ρ : aD) (t : T) (x : W) (s : ae) : ai (Fl × aD) := (aj F G i ρ s).bind (FN ρ t x)
def FP (F : FT) (G : List T) (o i : E) (ρ : aD) (t : T) (s : ae) : ai (Fl × aD) := (aj F G o ρ s).bind (DM F G i ρ t)
def Di (F : FT) (G : List T) (o i : E) (ρ : aD) (n : Nat) (w : W) (s : ae) : ai (Fl × aD) := (aO n w s).bind (FP F G o i ρ)
theorem BA {o i e : E} : jk F G (.setx o i e) ρ st = (aj F G e ρ st).bind (Di F G o i ρ st.length) := rfl
def C9 (i : Nat) (o : lZ) (ρ : aD) (a : T) (w : W) (s : ae) : ai (Fl × aD) := match a, look w s with | .int x, some (.int y) => (match lQ o x y with | some z => .ok (.nx, ρ.set i (some (.d (.int z)))) s | none => .bad) | _, _ => .bad
theorem Gr {i : Nat} {o : lZ} {e : E} : jk F G (.aug i o e) ρ st = (match ρ[i]? with | some (some (.d a)) => (aj F G e ρ st).bind (C9 i o ρ a) | _ => .bad) := rfl
def Jw (ρ : aD) (n : Nat) (_w : W) (s : ae) : ai (Fl × aD) := .ok (.nx, ρ) (s.take n)
theorem IV {e : E} : jk F G (.ex e) ρ st = (aj F G e ρ st).bind (Jw ρ st.length) := rfl
def FK (ρ : aD) (w : W) (s : ae) : ai (Fl × aD) := .ok (.rt w, ρ) s
theorem Ef {e : E} : jk F G (.ret e) ρ st = (aj F G e ρ st).bind (FK ρ) := rfl
def E7 (F : FT) (G : List T) (a b : List S) (ρ : aD) (n : Nat) (w : W) (s : ae) : ai (Fl × aD) := match aR w s with | some true => cC F G a ρ (s.take n) | some false => cC F G b ρ (s.take n) | none => .bad
theorem DG {c : E} {a b : List S} : jk F G (.ifs c a b) ρ st = (aj F G c ρ st).bind (E7 F G a b ρ st.length) := rfl
def D3 (F : FT) (G : List T) (ss : List S) (p : Fl × aD) (s : ae) : ai (Fl × aD) := match p.1 with | .nx => cC F G ss p.2 s | f => .ok (f, p.2) s
theorem zX {F : FT} {G : List T} {ss : List S} {ρ : aD} {s : ae} : D3 F G ss (.nx, ρ) s = cC F G ss ρ s := rfl
theorem AT {F : FT} {G : List T} {ss : List S} {ρ : aD} {s : ae} {w : W} : D3 F G ss (.rt w, ρ) s = .ok (.rt w, ρ) s := rfl
theorem mV {F : FT} {G : List T} {ss : List S} {ρ : aD} {s : ae} : D3 F G ss (.bk, ρ) s = .ok (.bk, ρ) s := rfl
theorem om {F : FT} {G : List T} {ss : List S} {ρ : aD} {s : ae} : D3 F G ss (.ct, ρ) s = .ok (.ct, ρ) s := rfl
def xI (n : Nat) : (Fl × aD) → ae → ai W := fun p st => match p.1 with
 | .rt w => bZ n w st
 | .nx => .ok (.d .non) (st.take n)
 | _ => .bad
theorem xh {n : Nat} {w : W} {ρ : aD} {st : ae} : xI n (.rt w, ρ) st = bZ n w st := rfl
theorem vP {n : Nat} {ρ : aD} {st : ae} : xI n (.nx, ρ) st = .ok (.d .non) (st.take n) := rfl
theorem aE {ws} {st} (h : ws.length = D.ar) : ax F G D ws st = (cC F G D.body (ws.map some ++ List.replicate (D.sl - D.ar) none) st).bind (xI st.length) := by
 unfold ax; rw [if_pos h]; rfl
theorem Iv {s : S} {ss : List S} : cC F G (s :: ss) ρ st = (jk F G s ρ st).bind (D3 F G ss) := rfl
theorem ET  : cC F G [] ρ st = .ok (.nx, ρ) st := rfl
def JD (t : T) (s : ae) : ai (Option T) := .ok (some t) s
def JR (n : Nat) (w : W) (s : ae) : ai (Option T) := (aO n w s).bind JD
def Io (F : FT) (G : List T) (el : E) (ρ : aD) (n : Nat) (b : Bool) (s : ae) : ai (Option T) := if b then (aj F G el ρ s).bind (JR n) else .ok none (s.take n)
theorem Bp {t} {ifs} {el} {x} {ρ ρ'} {st} (h : bg t (.d x) (cI ix ρ) = some ρ') :
 bY F G ix t ifs el ρ x st = (cy F G ifs ρ' st).bind (Io F G el ρ' st.length) := CP h
section
variable {st : ae} {k n : Nat}
theorem Iz : aO n (.ref k) st = (match st[k]? with | some (some xs) => .ok (.lst xs) ((st.set k none).take n) | _ => .bad) := rfl
theorem IX : bZ n (.ref k) st = (if k < n then .ok (.ref k) (st.take n) else match st[k]? with | some (some xs) => .ok (.ref (st.take n).length) (st.take n ++ [some xs]) | _ => .bad) := rfl
end
end
end I
end
section
namespace I
open PySem L2
theorem p9 {step} : ∀ {xs} {ρ} {st} (P : Nat → aD → ae → Prop), P 0 ρ st → (∀ i ρ st, i ≤ xs.length → P i ρ st → dv gs st = true) → (∀ (i : Nat) x ρ st, xs[i]? = some x → P i ρ st → ∃ ρ' st', step x ρ st = .ok (.nx, ρ') st' ∧ P (i + 1) ρ' st') →
 ∃ ρ' st', am gs step xs ρ st = .ok (.nx, ρ') st' ∧ P xs.length ρ' st'
 | [], ρ, st, P, h0, hs, _ => ⟨ρ, st, by simp only [am]; rw [if_pos (hs 0 ρ st (Nat.le_refl _) h0)], h0⟩
 | x :: xs, ρ, st, P, h0, hs, h => by
  obtain ⟨ρ1, st1, e1, p1⟩ := h 0 x ρ st rfl h0
  simp only [am]
  rw [if_pos (hs 0 ρ st (Nat.zero_le _) h0), e1]
  exact p9 (fun i => P (i + 1)) p1 (fun i ρ st hi => hs _ ρ st (by simpa using hi)) fun i y ρ st hy => h _ y ρ st (by simpa using hy)
end I
end
section
namespace Hd
open PySem L2
structure R where
 r : Int
 c : Int
def Jx (r c : Int) : Int :=
 let n := (r * 48271 + 7919 * c * c + 11) % 2147483629
 (n * n + 69621 * c + 7) % 2147483587
def take (b : Int) (s : R) : Int × R :=
 if s.r > 10 ^ 18 then ((s.r - 10 ^ 18) % b, ⟨10 ^ 18 + (s.r - 10 ^ 18) / b, s.c + 1⟩) else (Jx s.r (s.c + 1) / 5 % b, ⟨s.r, s.c + 1⟩)
def CC : Nat → Int → R → Int × R
 | 0, t, s => (t, s)
 | n + 1, t, s => CC n (t * 10 ^ 9 + (take (10 ^ 9) s).1) (take (10 ^ 9) s).2
def HU (m : Int) (s : R) : Int × R := ((CC 7 0 s).1 % m, (CC 7 0 s).2)
def ux (s : R) : Int × R :=
 if (take 4 s).1 = 3 then HU (10 ^ 60) (take 4 s).2
 else take (if (take 4 s).1 = 0 then 5 else if (take 4 s).1 = 1 then 100 else 1000) (take 4 s).2
def cell (ns : List Int) (k : Nat) : Int := ns.getD k 0
end Hd
end
section
namespace Hd
open PySem L2
def st {α : Type} (f : Nat → R → α × R) (s : R) : Nat → R
 | 0 => s
 | i + 1 => (f i (st f s i)).2
def wG {α : Type} (f : Nat → R → α × R) (s : R) (n : Nat) : List α := (List.range n).map fun i => (f i (st f s i)).1
def kept (f : Nat → R → Bool × R) (s : R) (n : Nat) : List Nat := (List.range n).filter fun i => (f i (st f s i)).1
def di : Str := "abcdefghijklmnopqrstuvwxyz"
def j9 (c : Nat) : Str := ⟨#[c]⟩
def bK (i : Int) : Nat := di.cps.toList.getD i.toNat 0
def EZ (i : Int) : Int := if i = 0 then 1 else if i = 1 then 3 else if i = 2 then 5 else 7
def Ai (n : Nat) (s : R) : Str := Txt.join "" ((wG (fun _ => take 26) s n).map fun i => j9 (bK i))
def names (many : Nat) (s : R) : List Str × R :=
 let x1 := take 8 s
 let size := 1 + x1.1
 let base := Ai size.toNat x1.2
 let s2 := st (fun _ => take 26) x1.2 size.toNat
 let x3 := take 4 s2
 if x3.1 = 0 then ((List.range many).map fun (k : Nat) => Txt.slice (ee base 8) none (some ((k : Int) + 1)), x3.2)
 else
  let x4 := take size x3.2
  let x5 := take 26 x4.2
  let x6 := take 4 x5.2
  ((List.range many).map fun (k : Nat) => Txt.slice base none (some x4.1) ++ j9 (bK ((x5.1 + EZ x6.1 * (k : Int)) % 26)) ++ Txt.slice base (some (x4.1 + 1)) none, x6.2)
set_option genInjectivity false in
structure Place where
 name : Str
 rent : Int
 shut : List Int
set_option genInjectivity false in
structure aI where
 name : Str
 pay : Int
 hold : Int
 run : Int
 away : List Int
set_option genInjectivity false in
structure aa where
 name : Str
 place : Str
 length : Int
 word : Str
 cast : List Str
set_option genInjectivity false in
structure aq where
 crew : Int
 move : Int
 days : List (Int × Int)
 places : List Place
 players : List aI
 scenes : List aa
def kD (d : Int × Int) : T := .tup [.int d.1, .int d.2]
def Place.t (p : Place) : T := .tup [.str p.name, .int p.rent, .tup (p.shut.map T.int)]
def aI.t (p : aI) : T := .tup [.str p.name, .int p.pay, .int p.hold, .int p.run, .tup (p.away.map T.int)]
def aa.t (p : aa) : T := .tup [.str p.name, .str p.place, .int p.length, .str p.word, .tup (p.cast.map T.str)]
def aq.t (b : aq) : T := .tup [.int b.crew, .int b.move, .tup (b.days.map kD), .tup (b.places.map Place.t), .tup (b.players.map aI.t), .tup (b.scenes.map aa.t)]
def yU (unit : Int) (s : R) : (Int × Int) × R :=
 let x1 := take 14 s
 let x2 := take 8 x1.2
 let x3 := take 3 x2.2
 let x4 := take 5 x3.2
 let hours := unit * (if x4.1 / 2 = 0 then 4 + x1.1 else if x4.1 / 2 = 1 then 12 + x2.1 else x3.1)
 let x5 := take 12 x4.2
 let x6 := take (hours + 1) x5.2
 let x7 := take 3 x6.2
 ((hours, if x7.1 = 0 then hours else if x7.1 = 1 then (if unit * x5.1 < hours then unit * x5.1 else hours) else x6.1), x7.2)
def days (many : Nat) (unit : Int) (s : R) : List (Int × Int) × R := (wG (fun _ => yU unit) s many, st (fun _ => yU unit) s many)
def GF (b : Int) (s : R) : Bool × R := (decide ((take b s).1 = 0), (take b s).2)
def mP (many : Nat) (s : R) : List Int × R :=
 let x := take 8 s
 ((kept (fun _ => GF (3 + x.1)) x.2 many).map fun (i : Nat) => (i : Int), st (fun _ => GF (3 + x.1)) x.2 many)
def placeOf (many : Nat) (nm : Str) (s : R) : Place × R :=
 let x := ux s
 let y := mP many x.2
 (⟨nm, x.1, y.1⟩, y.2)
def places (many : Nat) (s : R) : List Place × R :=
 let x1 := take 3 s
 let x2 := take 7 x1.2
 let x3 := take 4 x2.2
 let count := if x3.1 = 0 then x2.1 else 1 + x1.1
 let ns := names count.toNat x3.2
 (wG (fun i => placeOf many (ns.1.getD i Str.empty)) ns.2 count.toNat, st (fun i => placeOf many (ns.1.getD i Str.empty)) ns.2 count.toNat)
def mi (many : Nat) (nm : Str) (s : R) : aI × R :=
 let x := ux s
 let y := HU (x.1 + 1) x.2
 let z := take 3 y.2
 let hold := if z.1 = 0 then 0 else if z.1 = 1 then x.1 else y.1
 let u := take 2 z.2
 let v := take (if u.1 = 0 then 2 else 8) u.2
 let d := mP many v.2
 (⟨nm, x.1, hold, 1 + v.1, d.1⟩, d.2)
def players (many : Nat) (s : R) : List aI × R :=
 let x1 := take 4 s
 let x2 := take 7 x1.2
 let x3 := take 3 x2.2
 let count := if x3.1 = 0 then x2.1 else x1.1
 let ns := names count.toNat x3.2
 (wG (fun i => mi many (ns.1.getD i Str.empty)) ns.2 count.toNat, st (fun i => mi many (ns.1.getD i Str.empty)) ns.2 count.toNat)
def Av (i : Int) : Str := if i = 1 then "sun" else if i = 2 then "moon" else "any"
def wH (nm : Str) (pl : List Place) (qs : List aI) (unit : Int) (s : R) : aa × R :=
 let x1 := take pl.length s
 let x2 := take 6 x1.2
 let x3 := take 4 x2.2
 let cs := (kept (fun _ => GF 3) x3.2 qs.length).map fun i => (qs.map (·.name)).getD i Str.empty
 let x4 := take 2 (st (fun _ => GF 3) x3.2 qs.length)
 (⟨nm, (pl.map (·.name)).getD x1.1.toNat Str.empty, unit * (1 + x2.1), Av x3.1, if x4.1 = 1 then cs.reverse else cs⟩, x4.2)
def KD (ns : List Int) (mostDays mostScenes : Int) : aq :=
 let h0 : R := ⟨cell ns 0, 0⟩
 let x1 := take mostDays h0
 let many := (1 + x1.1).toNat
 let x2 := HU (10 ^ 10) x1.2
 let x3 := take 4 x2.2
 let unit := if x3.1 = 2 then 10 ^ 6 else if x3.1 = 3 then 1 + x2.1 else 1
 let crew := ux x3.2
 let x4 := take 3 crew.2
 let ds := (days many unit ⟨cell ns 1, 1⟩).1
 let ps := (places many ⟨cell ns 2, 2⟩).1
 let qs := (players many ⟨cell ns 3, 3⟩).1
 let x5 := take (mostScenes + 1) x4.2
 let count := if ps.length = 0 then 0 else x5.1.toNat
 let nms := (names count x5.2).1
 ⟨crew.1, unit * x4.1, ds, ps, qs, (List.range count).map fun k => (wH (nms.getD k Str.empty) ps qs unit ⟨cell ns (4 + k), 4 + k⟩).1⟩
end Hd
end
section
namespace Hd
open PySem L2
mutual
def plain : T → Bool
 | .tup xs => uN xs && decide (xs.length ≤ 1000)
 | .lst _ => false
 | .ins _ => false
 | .bl _ => false
 | _ => true
def uN : List T → Bool
 | [] => true
 | x :: xs => plain x && uN xs
end
theorem lP {n : Nat} : ∀ {xs : List T}, (∀ x ∈ xs, b9 x ≤ n) → bw xs ≤ n
 | [], _ => Nat.zero_le _
 | t :: ts, h => by
  simp only [bw]
  have a := h t (List.mem_cons_self ..)
  have b := lP (xs := ts) fun x hx => h x (List.mem_cons_of_mem _ hx)
  omega
def cc : Option Int → T
 | none => .non
 | some i => .int i
theorem wf (o : Option Int) : b9 (cc o) = 0 := by cases o <;> rfl
def ak (os : List (Option Int)) : T := .tup (os.map cc)
theorem vj (os : List (Option Int)) : b9 (ak os) ≤ 1 := by
 have := lP (n := 0) (xs := os.map cc) fun x hx => by
  obtain ⟨o, _, rfl⟩ := List.mem_map.mp hx
  rw [wf]
  exact Nat.le_refl _
 simp only [ak, b9]
 omega
theorem fh {α : Type} (f : α → T) (k : Nat) (h : ∀ x, b9 (f x) ≤ k) : ∀ xs : List α, bw (xs.map f) ≤ k
 | [] => Nat.zero_le _
 | x :: xs => by
  have a := h x
  have b := fh f k h xs
  simp only [List.map_cons, bw]
  omega
theorem hV (ts : List T) : eqT (.lst ts) (.lst []) = decide (ts.length = 0) := by cases ts <;> rfl
end Hd
end
section
namespace Hd
open PySem L2 I
def G0 : List T := [.int 4, .int 0, .int 2, .int 1, .int 12, .int 2, .int 8, .int 8, .int 60, .int 8, .int 5, .int 6, .int 6, .int 8, .int 1, .int 0, .int 1, .int 3, .int 4, .int 1, .int 5, .int 3, .int 1000, .int 3]
def bQ : bz := ⟨2, 2, [.ifs (.cmp .lt (.v 1) (.bf .len [(.v 0)])) [.ret (.ix (.v 0) (.v 1))] [], .ret (.c (.int 0))]⟩
def dF : bz := ⟨2, 4, [.setx (.v 0) (.c (.int 1)) (.bin .add (.ix (.v 0) (.c (.int 1))) (.c (.int 1))), .ifs (.cmp .gt (.ix (.v 0) (.c (.int 0))) (.bin .pow (.c (.int 10)) (.c (.int 18)))) [.asg (.nm 2) (.bin .sub (.ix (.v 0) (.c (.int 0))) (.bin .pow (.c (.int 10)) (.c (.int 18)))), .setx (.v 0) (.c (.int 0)) (.bin .add (.bin .pow (.c (.int 10)) (.c (.int 18))) (.bin .fdiv (.v 2) (.v 1))), .ret (.bin .mod (.v 2) (.v 1))] [], .asg (.nm 3) (.bin .mod (.bin .add (.bin .add (.bin .mul (.ix (.v 0) (.c (.int 0))) (.c (.int 48271))) (.bin .mul (.bin .mul (.c (.int 7919)) (.ix (.v 0) (.c (.int 1)))) (.ix (.v 0) (.c (.int 1))))) (.c (.int 11))) (.c (.int 2147483629))), .asg (.nm 3) (.bin .mod (.bin .add (.bin .add (.bin .mul (.v 3) (.v 3)) (.bin .mul (.c (.int 69621)) (.ix (.v 0) (.c (.int 1))))) (.c (.int 7))) (.c (.int 2147483587))), .ret (.bin .mod (.bin .fdiv (.v 3) (.c (.int 5))) (.v 1))]⟩
def bM : bz := ⟨2, 3, [.asg (.nm 2) (.bin .add (.c (.int 3)) (.call 1 [(.v 0), (.c (.int 8))])), .ret (.frz (.tr (.bf .tuple [(.comp ["_law_row", "_law_share", "_law_day"] [some 0, some 2, none] (.nm 2) .rng1 [(.v 1)] [(.cmp .eq (.call 1 [(.v 0), (.v 1)]) (.c (.int 0)))] (.v 2))])))]⟩
def gO : bz := ⟨2, 4, [.asg (.nm 2) (.c (.int 0)), .for (.nm 3) .rng1 [(.c (.int 7))] [.asg (.nm 2) (.bin .add (.bin .mul (.v 2) (.bin .pow (.c (.int 10)) (.c (.int 9)))) (.call 1 [(.v 0), (.bin .pow (.c (.int 10)) (.c (.int 9)))]))], .ret (.bin .mod (.v 2) (.v 1))]⟩
def fq : bz := ⟨3, 7, [.asg (.nm 3) (.lst []), .for (.nm 4) .rng1 [(.v 1)] [.asg (.nm 5) (.frz (.bin .mul (.v 2) (.tr (.ix (.lst [(.bin .add (.c (.int 4)) (.call 1 [(.v 0), (.c (.int 14))])), (.bin .add (.c (.int 12)) (.call 1 [(.v 0), (.c (.int 8))])), (.call 1 [(.v 0), (.c (.int 3))])]) (.bin .fdiv (.call 1 [(.v 0), (.c (.int 5))]) (.c (.int 2))))))), .asg (.nm 6) (.frz (.lst [(.v 5), (.bf .min2 [(.v 5), (.bin .mul (.v 2) (.call 1 [(.v 0), (.c (.int 12))]))]), (.call 1 [(.v 0), (.frz (.bin .add (.v 5) (.c (.int 1))))])])), .ex (.meth .append (.v 3) [(.tup [(.v 5), (.ix (.v 6) (.call 1 [(.v 0), (.c (.int 3))]))])])], .ret (.bf .tuple [(.v 3)])]⟩
def ec : bz := ⟨1, 2, [.asg (.nm 1) (.call 1 [(.v 0), (.c (.int 4))]), .ifs (.cmp .eq (.v 1) (.c (.int 3))) [.ret (.call 3 [(.v 0), (.bin .pow (.c (.int 10)) (.c (.int 60)))])] [], .ret (.frz (.call 1 [(.v 0), (.frz (.tr (.ix (.lst [(.c (.int 5)), (.c (.int 100)), (.c (.int 1000))]) (.v 1))))]))]⟩
def dX : bz := ⟨2, 8, [.asg (.nm 2) (.c (.str "abcdefghijklmnopqrstuvwxyz")), .asg (.nm 3) (.bin .add (.c (.int 1)) (.call 1 [(.v 0), (.c (.int 8))])), .asg (.nm 4) (.frz (.tr (.meth .join (.c (.str "")) [(.comp ["_law_letters", "_law_row", "_law_k"] [some 2, some 0, none] (.nm 2) .rng1 [(.v 3)] [] (.ix (.v 0) (.call 1 [(.v 1), (.c (.int 26))])))]))), .ifs (.cmp .eq (.call 1 [(.v 0), (.c (.int 4))]) (.c (.int 0))) [.ret (.comp ["_law_base", "_law_k"] [some 4, none] (.nm 1) .rng1 [(.v 1)] [] (.frz (.sl (.bin .mul (.v 0) (.c (.int 8))) none (some (.bin .add (.v 1) (.c (.int 1)))))))] [], .asg (.nm 5) (.call 1 [(.v 0), (.v 3)]), .asg (.nm 6) (.call 1 [(.v 0), (.c (.int 26))]), .asg (.nm 7) (.frz (.tr (.ix (.lst [(.c (.int 1)), (.c (.int 3)), (.c (.int 5)), (.c (.int 7))]) (.call 1 [(.v 0), (.c (.int 4))])))), .ret (.comp ["_law_base", "_law_at", "_law_letters", "_law_first", "_law_step", "_law_k"] [some 4, some 5, some 2, some 6, some 7, none] (.nm 5) .rng1 [(.v 1)] [] (.frz (.bin .add (.bin .add (.sl (.v 0) none (some (.v 1))) (.ix (.v 2) (.bin .mod (.bin .add (.v 3) (.bin .mul (.v 4) (.v 5))) (.c (.int 26))))) (.sl (.v 0) (some (.bin .add (.v 1) (.c (.int 1)))) none))))]⟩
def dg : bz := ⟨2, 3, [.asg (.nm 2) (.frz (.tr (.ix (.lst [(.bin .add (.c (.int 1)) (.call 1 [(.v 0), (.c (.int 3))])), (.call 1 [(.v 0), (.c (.int 7))])]) (.bf .int [(.cmp .eq (.call 1 [(.v 0), (.c (.int 4))]) (.c (.int 0)))])))), .ret (.frz (.tr (.bf .tuple [(.comp ["_law_row", "_law_many", "_law_name"] [some 0, some 1, none] (.nm 2) .seq [(.frz (.call 6 [(.v 0), (.v 2)]))] [] (.tup [(.v 2), (.call 5 [(.v 0)]), (.call 2 [(.v 0), (.v 1)])]))])))]⟩
def cG : bz := ⟨2, 8, [.asg (.nm 2) (.frz (.tr (.ix (.lst [(.call 1 [(.v 0), (.c (.int 4))]), (.call 1 [(.v 0), (.c (.int 7))])]) (.bf .int [(.cmp .eq (.call 1 [(.v 0), (.c (.int 3))]) (.c (.int 0)))])))), .asg (.nm 3) (.lst []), .for (.nm 4) .seq [(.frz (.call 6 [(.v 0), (.v 2)]))] [.asg (.nm 5) (.call 5 [(.v 0)]), .asg (.nm 6) (.frz (.tr (.ix (.lst [(.c (.int 0)), (.v 5), (.call 3 [(.v 0), (.frz (.bin .add (.v 5) (.c (.int 1))))])]) (.call 1 [(.v 0), (.c (.int 3))])))), .asg (.nm 7) (.frz (.bin .add (.c (.int 1)) (.call 1 [(.v 0), (.frz (.tr (.ix (.lst [(.c (.int 2)), (.c (.int 8))]) (.call 1 [(.v 0), (.c (.int 2))]))))]))), .ex (.meth .append (.v 3) [(.tup [(.v 4), (.v 5), (.v 6), (.v 7), (.call 2 [(.v 0), (.v 1)])])])], .ret (.bf .tuple [(.v 3)])]⟩
def d7 : bz := ⟨5, 9, [.asg (.nm 5) (.ix (.ix (.v 2) (.call 1 [(.v 0), (.bf .len [(.v 2)])])) (.c (.int 0))), .asg (.nm 6) (.bin .mul (.v 4) (.bin .add (.c (.int 1)) (.call 1 [(.v 0), (.c (.int 6))]))), .asg (.nm 7) (.frz (.tr (.ix (.lst [(.c (.str "any")), (.c (.str "sun")), (.c (.str "moon")), (.c (.str "any"))]) (.call 1 [(.v 0), (.c (.int 4))])))), .asg (.nm 8) (.comp ["_law_row", "_law_player"] [some 0, none] (.nm 1) .seq [(.v 3)] [(.cmp .eq (.call 1 [(.v 0), (.c (.int 3))]) (.c (.int 0)))] (.ix (.v 1) (.c (.int 0)))), .ifs (.cmp .eq (.call 1 [(.v 0), (.c (.int 2))]) (.c (.int 1))) [.ex (.meth .reverse (.v 8) [])] [], .ret (.tup [(.v 1), (.v 5), (.v 6), (.v 7), (.bf .tuple [(.v 8)])])]⟩
def dM : bz := ⟨2, 4, [.for (.tp [2, 3]) .enm [(.v 0)] [.ifs (.cmp .eq (.ix (.v 3) (.c (.int 0))) (.v 1)) [.ret (.v 2)] []], .ret (.c .non)]⟩
def dP : bz := ⟨3, 15, [.asg (.nm 3) (.lst [(.call 0 [(.v 0), (.c (.int 0))]), (.c (.int 0))]), .asg (.nm 4) (.bin .add (.c (.int 1)) (.call 1 [(.v 3), (.v 1)])), .asg (.nm 5) (.frz (.tr (.ix (.lst [(.c (.int 1)), (.c (.int 1)), (.bin .pow (.c (.int 10)) (.c (.int 6))), (.bin .add (.c (.int 1)) (.call 3 [(.v 3), (.bin .pow (.c (.int 10)) (.c (.int 10)))]))]) (.call 1 [(.v 3), (.c (.int 4))])))), .asg (.nm 6) (.call 5 [(.v 3)]), .asg (.nm 7) (.bin .mul (.v 5) (.call 1 [(.v 3), (.c (.int 3))])), .asg (.nm 8) (.frz (.call 4 [(.lst [(.call 0 [(.v 0), (.c (.int 1))]), (.c (.int 1))]), (.v 4), (.v 5)])), .asg (.nm 9) (.frz (.call 7 [(.lst [(.call 0 [(.v 0), (.c (.int 2))]), (.c (.int 2))]), (.v 4)])), .asg (.nm 10) (.frz (.call 8 [(.lst [(.call 0 [(.v 0), (.c (.int 3))]), (.c (.int 3))]), (.v 4)])), .asg (.nm 11) (.bin .mul (.call 1 [(.v 3), (.frz (.bin .add (.v 2) (.c (.int 1))))]) (.bf .int [(.cmp .gt (.bf .len [(.v 9)]) (.c (.int 0)))])), .asg (.nm 12) (.lst []), .for (.tp [13, 14]) .enm [(.frz (.call 6 [(.v 3), (.v 11)]))] [.ex (.meth .append (.v 12) [(.call 9 [(.lst [(.call 0 [(.v 0), (.frz (.bin .add (.c (.int 4)) (.v 13)))]), (.bin .add (.c (.int 4)) (.v 13))]), (.v 14), (.v 9), (.v 10), (.v 5)])])], .ret (.tup [(.v 6), (.v 7), (.v 8), (.v 9), (.v 10), (.bf .tuple [(.v 12)])])]⟩
def eA : bz := ⟨2, 2, [.ret (.call 10 [(.ix (.v 0) (.g 20)), (.v 1)])]⟩
def cw : bz := ⟨5, 8, [.asg (.tp [5, 6]) (.ix (.ix (.v 0) (.g 2)) (.v 1)), .asg (.nm 7) (.v 4), .ifs (.and (.notN (.v 3)) (.cmp .ne (.ix (.v 3) (.g 16)) (.ix (.v 2) (.g 16)))) [.aug 7 .add (.ix (.v 0) (.g 14))] [], .ifs (.cmp .eq (.ix (.v 2) (.g 23)) (.c (.str "moon"))) [.asg (.nm 7) (.bf .max2 [(.v 7), (.v 6)])] [], .ret (.v 7)]⟩
def cS : bz := ⟨2, 2, [.ret (.ix (.ix (.v 0) (.g 20)) (.call 12 [(.v 0), (.v 1)]))]⟩
def g8 : bz := ⟨3, 4, [.asg (.nm 3) (.frz (.comp ["player", "scene", "day"] [some 2, none, none] (.tp [1, 2]) .zp [(.ix (.v 0) (.g 20)), (.v 1)] [(.and (.notN (.v 2)) (.cmp .mem (.v 0) (.ix (.v 1) (.g 0))))] (.v 2))), .ret (.frz (.tr (.bf .tuple [(.ss (.v 3))])))]⟩
def eD : bz := ⟨2, 2, [.ret (.call 10 [(.ix (.v 0) (.g 17)), (.v 1)])]⟩
def cP : bz := ⟨2, 2, [.ret (.ix (.ix (.v 0) (.g 17)) (.call 16 [(.v 0), (.v 1)]))]⟩
def fU : bz := ⟨4, 6, [.asg (.tp [4, 5]) (.ix (.ix (.v 0) (.g 2)) (.v 1)), .ifs (.and (.cmp .eq (.ix (.v 2) (.g 23)) (.c (.str "sun"))) (.cmp .gt (.v 3) (.v 5))) [.ret (.tup [(.c (.str "late")), (.ix (.v 2) (.g 15))])] [], .ifs (.cmp .gt (.v 3) (.v 4)) [.ret (.tup [(.c (.str "long")), (.ix (.v 2) (.g 15))])] [], .ret (.c .non)]⟩
def dB : bz := ⟨5, 6, [.asg (.nm 5) (.bin .add (.call 13 [(.v 0), (.v 1), (.v 2), (.v 3), (.v 4)]) (.ix (.v 2) (.g 5))), .ifs (.notN (.call 18 [(.v 0), (.v 1), (.v 2), (.v 5)])) [.ret (.c .non)] [], .ret (.v 5)]⟩
def ca : bz := ⟨5, 9, [.ifs (.not (.v 2)) [.ret (.tup [])] [], .for (.tp [5, 6]) .enm [(.v 2)] [.asg (.nm 7) (.call 20 [(.v 0), (.v 1), (.v 6), (.v 3), (.v 4)]), .ifs (.notN (.v 7)) [.asg (.nm 8) (.frz (.call 26 [(.v 0), (.v 1), (.frz (.bin .add (.sl (.v 2) none (some (.v 5))) (.sl (.v 2) (some (.bin .add (.v 5) (.c (.int 1)))) none))), (.v 6), (.v 7)])), .ifs (.notN (.v 8)) [.ret (.frz (.bin .add (.tup [(.ix (.v 6) (.g 15))]) (.v 8)))] []] []], .ret (.c .non)]⟩
def gh : bz := ⟨3, 3, [.ifs (.cmp .gt (.bf .len [(.v 2)]) (.g 10)) [.ret (.c .non)] [], .ret (.frz (.call 26 [(.v 0), (.v 1), (.frz (.comp ["book", "name"] [some 0, none] (.nm 1) .seq [(.v 2)] [] (.call 14 [(.v 0), (.v 1)]))), (.c .non), (.c (.int 0))]))]⟩
def oA : bz := ⟨3, 3, [.ret (.frz (.bin .add (.bin .add (.sl (.v 0) none (some (.v 1))) (.tup [(.v 2)])) (.sl (.v 0) (some (.bin .add (.v 1) (.c (.int 1)))) none)))]⟩
def iZ : bz := ⟨3, 3, [.ret (.gen .tuple ["day", "scene", "own_day"] [some 2, none, none] (.tp [1, 2]) .zp [(.ix (.v 0) (.g 20)), (.v 1)] [(.cmp .eq (.v 2) (.v 0))] (.ix (.v 1) (.g 15)))]⟩
def dK : bz := ⟨1, 1, [.ret (.c (.str "shut"))]⟩
def cR : bz := ⟨3, 8, [.for (.tp [3, 4]) .zp [(.ix (.v 1) (.g 20)), (.v 2)] [.asg (.tp [5, 6, 7]) (.call 17 [(.v 1), (.ix (.v 3) (.g 16))]), .ifs (.cmp .mem (.v 4) (.v 7)) [.ret (.tup [(.mc [("Shut", 35), ("Away", 37), ("Full", 43), ("Tired", 39)] (.v 0) []), (.ix (.v 3) (.g 15)), (.v 4)])] []], .ret (.c .non)]⟩
def dG : bz := ⟨1, 1, [.ret (.c (.str "away"))]⟩
def cQ : bz := ⟨3, 9, [.for (.tp [3, 4, 5, 6, 7]) .seq [(.ix (.v 1) (.g 18))] [.for (.nm 8) .seq [(.call 15 [(.v 1), (.v 2), (.v 3)])] [.ifs (.cmp .mem (.v 8) (.v 7)) [.ret (.tup [(.mc [("Away", 37)] (.v 0) []), (.v 3), (.v 8)])] []]], .ret (.c .non)]⟩
def dA : bz := ⟨1, 1, [.ret (.c (.str "tired"))]⟩
def cm : bz := ⟨3, 9, [.for (.tp [3, 4, 5, 6, 7]) .seq [(.ix (.v 1) (.g 18))] [.asg (.nm 8) (.call 41 [(.call 15 [(.v 1), (.v 2), (.v 3)]), (.v 6)]), .ifs (.notN (.v 8)) [.ret (.tup [(.mc [("Tired", 39)] (.v 0) []), (.v 3), (.v 8)])] []], .ret (.c .non)]⟩
def dQ : bz := ⟨2, 3, [.for (.nm 2) .rng2 [(.v 1), (.bf .len [(.v 0)])] [.ifs (.cmp .eq (.bin .sub (.ix (.v 0) (.v 2)) (.ix (.v 0) (.bin .sub (.v 2) (.v 1)))) (.v 1)) [.ret (.ix (.v 0) (.v 2))] []], .ret (.c .non)]⟩
def dR : bz := ⟨1, 1, [.ret (.c (.str "full"))]⟩
def cN : bz := ⟨3, 4, [.for (.nm 3) .rng1 [(.bf .len [(.ix (.v 1) (.g 2))])] [.ifs (.isN (.call 27 [(.v 1), (.v 3), (.call 34 [(.v 1), (.v 2), (.v 3)])])) [.ret (.tup [(.mc [("Full", 43)] (.v 0) []), (.v 3)])] []], .ret (.c .non)]⟩
def kA : bz := ⟨0, 0, [.ret (.lst [(.new "Shut"), (.new "Away"), (.new "Full"), (.new "Tired")])]⟩
def fO : bz := ⟨2, 4, [.for (.nm 2) .seq [(.frz (.call 46 []))] [.asg (.nm 3) (.mc [("Shut", 36), ("Away", 38), ("Full", 44), ("Tired", 40)] (.v 2) [(.v 0), (.v 1)]), .ifs (.notN (.v 3)) [.ret (.v 3)] []], .ret (.c .non)]⟩
def iV : bz := ⟨3, 7, [.asg (.nm 3) (.lst []), .asg (.nm 4) (.c (.int 0)), .for (.nm 5) .rng1 [(.bf .len [(.v 2)])] [.asg (.nm 6) (.v 4), .ifs (.and (.cmp .gt (.v 5) (.c (.int 0))) (.cmp .ne (.ix (.ix (.v 2) (.v 5)) (.c (.int 1))) (.ix (.ix (.v 2) (.bin .sub (.v 5) (.c (.int 1)))) (.c (.int 1))))) [.asg (.nm 6) (.frz (.bin .add (.v 6) (.ix (.v 0) (.c (.int 1)))))] [], .ifs (.and (.cmp .eq (.ix (.ix (.v 2) (.v 5)) (.c (.int 3))) (.c (.str "moon"))) (.cmp .lt (.v 6) (.ix (.ix (.ix (.v 0) (.c (.int 2))) (.v 1)) (.c (.int 1))))) [.asg (.nm 6) (.ix (.ix (.ix (.v 0) (.c (.int 2))) (.v 1)) (.c (.int 1)))] [], .asg (.nm 4) (.frz (.bin .add (.v 6) (.ix (.ix (.v 2) (.v 5)) (.c (.int 2))))), .ex (.meth .append (.v 3) [(.tup [(.ix (.ix (.v 2) (.v 5)) (.c (.int 0))), (.v 6), (.v 4)])])], .ret (.v 3)]⟩
def f9 : bz := ⟨3, 7, [.asg (.tp [3, 4]) (.ix (.ix (.v 0) (.c (.int 2))) (.v 1)), .for (.tp [5, 6]) .zp [(.v 2), (.call 56 [(.v 0), (.v 1), (.v 2)])] [.ifs (.and (.cmp .eq (.ix (.v 5) (.c (.int 3))) (.c (.str "sun"))) (.cmp .gt (.ix (.v 6) (.c (.int 2))) (.v 4))) [.ret (.tup [(.c (.str "late")), (.ix (.v 5) (.c (.int 0)))])] [], .ifs (.cmp .gt (.ix (.v 6) (.c (.int 2))) (.v 3)) [.ret (.tup [(.c (.str "long")), (.ix (.v 5) (.c (.int 0)))])] []], .ret (.c .non)]⟩
def gm : bz := ⟨1, 1, [.ret (.bin .mul (.tup [(.c .non)]) (.bf .len [(.ix (.v 0) (.g 20))]))]⟩
def eE : bz := ⟨1, 1, [.ret (.trg (.bf .len [(.ix (.v 0) (.g 2))]))]⟩
def fF : bz := ⟨3, 7, [.ifs (.cmp .gt (.bf .len [(.v 2)]) (.c (.int 5))) [.ret (.c (.bl false))] [], .asg (.nm 3) (.frz (.lst [(.lst [])])), .for (.nm 4) .rng1 [(.bf .len [(.v 2)])] [.asg (.nm 5) (.frz (.lst [])), .for (.nm 6) .seq [(.v 3)] [.asg (.nm 5) (.frz (.bin .add (.v 5) (.comp ["_law_row", "_law_scene_here"] [some 6, none] (.nm 1) .seq [(.v 2)] [(.nin (.v 1) (.v 0))] (.frz (.bin .add (.v 0) (.lst [(.v 1)]))))))], .asg (.nm 3) (.frz (.comp ["_law_book_here", "_law_day", "_law_row"] [some 0, some 1, none] (.nm 2) .seq [(.v 5)] [(.isN (.call 60 [(.v 0), (.v 1), (.v 2)]))] (.v 2)))], .ret (.frz (.tr (.cmp .ne (.v 3) (.lst []))))]⟩
def fX : bz := ⟨3, 3, [.ret (.frz (.comp ["_law_day", "_law_scene_here", "_law_at"] [some 2, none, none] (.tp [1, 2]) .zp [(.ix (.v 0) (.c (.int 5))), (.v 1)] [(.cmp .eq (.v 2) (.v 0))] (.v 1)))]⟩
def f8 : bz := ⟨3, 5, [.asg (.nm 3) (.lst []), .for (.nm 4) .rng1 [(.bf .len [(.ix (.v 0) (.c (.int 2)))])] [.ifs (.tr (.cmp .ne (.comp ["_law_player", "_law_scene_here"] [some 2, none] (.nm 1) .seq [(.call 70 [(.v 0), (.v 1), (.v 4)])] [(.cmp .mem (.v 0) (.ix (.v 1) (.c (.int 4))))] (.v 1)) (.lst []))) [.ex (.meth .append (.v 3) [(.v 4)])] []], .ret (.v 3)]⟩
def fL : bz := ⟨2, 9, [.for (.tp [2, 3, 4, 5, 6]) .seq [(.ix (.v 0) (.c (.int 4)))] [.asg (.nm 7) (.call 76 [(.v 0), (.v 1), (.v 2)]), .for (.nm 8) .seq [(.v 7)] [.ifs (.tr (.cmp .eq (.comp ["_law_day", "_law_own_days", "_law_back"] [some 8, some 7, none] (.nm 2) .rng1 [(.bin .add (.v 5) (.c (.int 1)))] [(.cmp .nmem (.bin .sub (.v 0) (.v 2)) (.v 1))] (.v 2)) (.lst []))) [.ret (.tup [(.c (.str "tired")), (.v 2), (.v 8)])] []]], .ret (.c .non)]⟩
def dJ : bz := ⟨2, 10, [.for (.tp [2, 3]) .zp [(.ix (.v 0) (.c (.int 5))), (.v 1)] [.asg (.nm 4) (.frz (.tr (.ix (.comp ["_law_scene_here", "_law_place"] [some 2, none] (.nm 1) .seq [(.ix (.v 0) (.c (.int 3)))] [(.cmp .eq (.ix (.v 1) (.c (.int 0))) (.ix (.v 0) (.c (.int 1))))] (.ix (.v 1) (.c (.int 2)))) (.c (.int 0))))), .ifs (.and (.notN (.v 3)) (.cmp .mem (.v 3) (.v 4))) [.ret (.tup [(.c (.str "shut")), (.ix (.v 2) (.c (.int 0))), (.v 3)])] []], .for (.tp [5, 6, 7, 8, 9]) .seq [(.ix (.v 0) (.c (.int 4)))] [.for (.nm 3) .seq [(.call 76 [(.v 0), (.v 1), (.v 5)])] [.ifs (.cmp .mem (.v 3) (.v 9)) [.ret (.tup [(.c (.str "away")), (.v 5), (.v 3)])] []]], .for (.nm 3) .rng1 [(.bf .len [(.ix (.v 0) (.c (.int 2)))])] [.ifs (.not (.call 69 [(.v 0), (.v 3), (.call 70 [(.v 0), (.v 1), (.v 3)])])) [.ret (.tup [(.c (.str "full")), (.v 3)])] []], .ret (.call 78 [(.v 0), (.v 1)])]⟩
def dz : bz := ⟨3, 5, [.for (.nm 3) .seq [(.call 68 [(.v 0)])] [.asg (.nm 4) (.call 32 [(.v 1), (.v 2), (.v 3)]), .ifs (.isN (.call 47 [(.v 0), (.v 4)])) [.ret (.v 4)] []], .ret (.c .non)]⟩
def dH : bz := ⟨1, 3, [.asg (.nm 1) (.call 61 [(.v 0)]), .for (.nm 2) .rng1 [(.bf .len [(.v 1)])] [.asg (.nm 1) (.call 104 [(.v 0), (.v 1), (.v 2)]), .ifs (.isN (.v 1)) [.ret (.c .non)] []], .ret (.v 1)]⟩
def f7 : bz := ⟨1, 6, [.asg (.nm 1) (.bin .mul (.tup [(.c .non)]) (.bf .len [(.ix (.v 0) (.c (.int 5)))])), .for (.nm 2) .rng1 [(.bf .len [(.ix (.v 0) (.c (.int 5)))])] [.asg (.nm 3) (.lst []), .for (.nm 4) .rng1 [(.bf .len [(.ix (.v 0) (.c (.int 2)))])] [.asg (.nm 5) (.frz (.bin .add (.bin .add (.sl (.v 1) none (some (.v 2))) (.tup [(.v 4)])) (.sl (.v 1) (some (.bin .add (.v 2) (.c (.int 1)))) none))), .ifs (.and (.tr (.cmp .eq (.v 3) (.lst []))) (.isN (.call 80 [(.v 0), (.v 5)]))) [.ex (.meth .append (.v 3) [(.v 4)])] []], .ifs (.tr (.cmp .eq (.v 3) (.lst []))) [.ret (.c .non)] [], .asg (.nm 1) (.frz (.bin .add (.bin .add (.sl (.v 1) none (some (.v 2))) (.tup [(.ix (.v 3) (.c (.int 0)))])) (.sl (.v 1) (some (.bin .add (.v 2) (.c (.int 1)))) none)))], .ret (.v 1)]⟩
end Hd
end
section
namespace Hd
open PySem L2 I PySem.Spec PyProof.Rows
def pr : bz := ⟨1, 5, [.asg (.nm 1) (.call 11 [(.v 0), (.c (.int 4)), (.c (.int 5))]), .asg (.nm 2) (.call 105 [(.v 1)]), .asg (.nm 3) (.call 318 [(.v 1)]), .ifs (.or (.cmp .ne (.v 2) (.v 3)) (.cmp .ne (.call 105 [(.v 1)]) (.v 3))) [.ret (.c (.bl false))] [], .ifs (.isN (.v 3)) [.ret (.c (.bl true))] [], .asg (.nm 4) (.frz (.comp ["_law_day"] [none] (.nm 0) .seq [(.v 2)] [(.or (.not (.isi .int (.v 0))) (.isi .bool (.v 0)))] (.v 0))), .ret (.frz (.and (.isi .tuple (.v 2)) (.tr (.cmp .eq (.v 4) (.lst [])))))]⟩
def Cz : List (Nat × Str × Int) := [(0, "CAST", 4), (2, "DAYS", 2), (5, "LENGTH", 2), (10, "MOST_ON_A_DAY", 5), (14, "MOVE", 1), (15, "NAME", 0), (16, "PLACE", 1), (17, "PLACES", 3), (18, "PLAYERS", 4), (20, "SCENES", 5), (23, "WORD", 3)]
def tbl : List Rw := [
cz 10 "number_at" dM (aw 11) ["rows", "name", "at", "row"],
cz 68 "all_days" eE (aw 12) ["book"],
cz 16 "place_at" eD (aw 13) ["book", "name"],
cz 12 "scene_at" eA (aw 14) ["book", "name"],
cz 17 "place_named" cP (aw 15) ["book", "name"],
cz 14 "scene_named" cS (aw 16) ["book", "name"],
cz 61 "no_case" gm (aw 18) ["book"],
cz 32 "laid" oA (aw 19) ["case", "scene", "day"],
cz 34 "on_day" iZ (aw 20) ["book", "case", "day"] true,
cz 15 "called" g8 (aw 21) ["book", "case", "player", "days"],
cz 13 "start_behind" cw (aw 23) ["book", "day", "scene", "ahead", "end", "hours", "light", "start"],
cz 18 "slip_of" fU (aw 24) ["book", "day", "scene", "end", "hours", "light"],
cz 20 "end_behind" dB (aw 27) ["book", "day", "scene", "ahead", "end", "own_end"],
cz 26 "row_behind" ca (aw 28) ["book", "day", "scenes", "ahead", "end", "at", "scene", "own_end", "others"],
cz 27 "ordered" gh (aw 29) ["book", "day", "names"],
cz 41 "tired_day" dQ (aw 31) ["days", "run", "at"],
cz 35 "word" dK (cb 33 0) ["self"] false (some ("Shut", "Shut.word")),
cz 36 "broken" cR (cb 33 1) ["self", "book", "case", "scene", "day", "name", "rent", "shut"] false (some ("Shut", "Shut.broken")),
cz 37 "word" dG (cb 34 0) ["self"] false (some ("Away", "Away.word")),
cz 38 "broken" cQ (cb 34 1) ["self", "book", "case", "name", "pay", "hold", "run", "away", "day"] false (some ("Away", "Away.broken")),
cz 43 "word" dR (cb 35 0) ["self"] false (some ("Full", "Full.word")),
cz 44 "broken" cN (cb 35 1) ["self", "book", "case", "day"] false (some ("Full", "Full.broken")),
cz 39 "word" dA (cb 36 0) ["self"] false (some ("Tired", "Tired.word")),
cz 40 "broken" cm (cb 36 1) ["self", "book", "case", "name", "pay", "hold", "run", "away", "day"] false (some ("Tired", "Tired.broken")),
cz 46 "rules" kA (aw 37) [],
cz 47 "blocked" fO (aw 38) ["book", "case", "rule", "reason"],
cz 104 "laid_first" dz (aw 40) ["book", "case", "scene", "day", "tried"],
cz 105 "first_fit" dH (aw 41) ["book", "case", "scene"],
cz 0 "_law_cell_at" bQ (aw 43) ["_law_script", "_law_k"],
cz 1 "_law_take" dF (aw 44) ["_law_row", "_law_base", "_law_rest", "_law_number"],
cz 3 "_law_far" gO (aw 45) ["_law_row", "_law_most", "_law_total", "_law_k"],
cz 5 "_law_money" ec (aw 46) ["_law_row", "_law_way"],
cz 6 "_law_names" dX (aw 47) ["_law_row", "_law_many", "_law_letters", "_law_size", "_law_base", "_law_at", "_law_first", "_law_step"],
cz 4 "_law_days" fq (aw 48) ["_law_row", "_law_many", "_law_unit", "_law_found", "_law_k", "_law_hours", "_law_lights"],
cz 2 "_law_some_days" bM (aw 49) ["_law_row", "_law_many", "_law_share"],
cz 7 "_law_places" dg (aw 50) ["_law_row", "_law_many", "_law_count"],
cz 8 "_law_players" cG (aw 51) ["_law_row", "_law_many", "_law_count", "_law_found", "_law_name", "_law_pay", "_law_hold", "_law_run"],
cz 9 "_law_scene" d7 (aw 52) ["_law_row", "_law_name", "_law_places_here", "_law_players_here", "_law_unit", "_law_place", "_law_length", "_law_word", "_law_cast"],
cz 11 "_law_book" dP (aw 53) ["_law_script", "_law_most_days", "_law_most_scenes", "_law_head", "_law_many", "_law_unit", "_law_crew", "_law_move", "_law_days_here", "_law_places_here", "_law_players_here", "_law_count", "_law_scenes", "_law_k", "_law_name"],
cz 70 "_law_there" fX (aw 54) ["_law_book_here", "_law_case", "_law_day"],
cz 76 "_law_calls" f8 (aw 55) ["_law_book_here", "_law_case", "_law_player", "_law_found", "_law_day"],
cz 56 "_law_ends" iV (aw 56) ["_law_book_here", "_law_day", "_law_scenes", "_law_found", "_law_end", "_law_k", "_law_start"],
cz 60 "_law_slips" f9 (aw 57) ["_law_book_here", "_law_day", "_law_scenes", "_law_hours", "_law_light", "_law_scene_here", "_law_spot"],
cz 69 "_law_fits" fF (aw 58) ["_law_book_here", "_law_day", "_law_scenes", "_law_rows", "_law_k", "_law_longer", "_law_row"],
cz 78 "_law_tired" fL (aw 59) ["_law_book_here", "_law_case", "_law_name", "_law_pay", "_law_hold", "_law_run", "_law_away", "_law_own_days", "_law_day"],
cz 80 "_law_blocked" dJ (aw 60) ["_law_book_here", "_law_case", "_law_scene_here", "_law_day", "_law_shut", "_law_name", "_law_pay", "_law_hold", "_law_run", "_law_away"],
cz 318 "_law_due" f7 (aw 61) ["_law_book_here", "_law_case", "_law_k", "_law_days_here", "_law_day", "_law_there_here"]]
def JH : List Str := ["Shut", "Away", "Full", "Tired"]
def GS : List Str := ["Shut", "Away", "Full", "Tired"]
def GP : List (Str × Str × Bool) := []
def sg : Sg := u9 (nz Cz) tbl GS GP
def Ds : Nat → Option bz := eR tbl
def wZ : Rw := ⟨0, "law", ["_law_script"], pr, aw 62, ["_law_script", "_law_book_here", "_law_found", "_law_due_here", "_law_odd"], false, none⟩
theorem Aw : tbl.all (yB sg) = true := by decide +kernel
theorem jG : yB sg wZ = true := by decide +kernel
theorem fQ : iY tbl JH GS GP = true := by decide +kernel
end Hd
end
section
namespace I
open PySem L2
def Wl {α : Type} (r : ai α) (Q : α → ae → Prop) : Prop := ∃ v st, r = .ok v st ∧ Q v st
def kFor (F : FT) (G : List T) (t : Tg) (k : Ik) (body : List S) (ρ : aD) (ws : List W) (st : ae) : ai (Fl × aD) := match ag k ws st with
 | some (xs, gs) => am gs (oM F G t body) xs ρ st
 | none => .bad
def Ey (ys : List T) (st : ae) : ai W := fresh (.lst ys) st
def JE (F : FT) (G : List T) (ix : List (Option Nat)) (t : Tg) (k : Ik) (ifs : List E) (el : E) (ρ : aD) (ws : List W) (st : ae) : ai W := match ag k ws st with
 | some (xs, gs) => if xs.length ≤ aS then (ao gs (bY F G ix t ifs el ρ) xs [] st).bind Ey else .bad
 | none => .bad
section
variable {F : FT} {G : List T} {st : ae} {ρ : aD} {t : Tg} {k : Ik} {src ifs : List E} {body : List S} {gs : List (Nat × List T)} {xs acc : List T}
theorem FH : jk F G (.for t k src body) ρ st = (aW F G src ρ st).bind (kFor F G t k body ρ) := rfl
theorem IG : aj F G (.comp N ix t k src ifs el) ρ st = (aW F G src ρ st).bind (JE F G ix t k ifs el ρ) := rfl
theorem A2 {α : Type} {a b : α} (h : xs.length ≤ 1000) : (if xs.length ≤ aS then a else b) = a := if_pos (yC h)
theorem EX (h0 : 0 ≤ n) (h : n ≤ 1000) : ag .rng1 [.d (.int n)] st = some (rng 0 n.toNat, []) := BL h0 h
theorem G5 : wI .append xs [x] = if xs.length < aS then some (xs ++ [x], .non) else none := rfl
theorem Hh : wI .reverse xs [] = some (xs.reverse, .non) := rfl
theorem Ho : wI .insert xs [.int i, x] = if 0 ≤ i ∧ i ≤ xs.length ∧ xs.length < aS then some (xs.take i.toNat ++ x :: xs.drop i.toNat, .non) else none := rfl
theorem Jn : bg (.nm i) w ρ = if i < ρ.length then some (ρ.set i (some w)) else none := rfl
theorem Hy : bg (.tp is) (.d (.tup xs)) ρ = if is.length = xs.length ∧ is.all (· < ρ.length) then some ((is.zip xs).foldl (fun ρ p => ρ.set p.1 (some (.d p.2))) ρ) else none := rfl
theorem Jf : ag .seq [.d (.lst xs)] st = some (xs, []) := rfl
theorem Hl : ag .seq [.d (.tup xs)] st = some (xs, []) := rfl
theorem Ji : ag .enm [.d (.lst xs)] st = some (xs.zipIdx.map fun q => .tup [.int q.2, q.1], []) := rfl
theorem II : cI [] ρ = [] := rfl
theorem IT : cI (none :: ix) ρ = none :: cI ix ρ := rfl
theorem IS {j} : cI (some j :: ix) ρ = ρ[j]?.getD none :: cI ix ρ := rfl
theorem dw {step} {X} (h : am [] step xs ρ st = X) (P : Nat → aD → ae → Prop) (h0 : P 0 ρ st) (hp : ∀ i x ρ σ, xs[i]? = some x → P i ρ σ → Wl (step x ρ σ) fun o σ' => o.1 = .nx ∧ P (i + 1) o.2 σ') :
 ∃ ρ' σ', P xs.length ρ' σ' ∧ X = .ok (.nx, ρ') σ' := by
 obtain ⟨ρ', σ', e, p⟩ := p9 (gs := []) P h0 (fun _ _ _ _ _ => rfl) fun i x ρ σ hx p => by
  obtain ⟨⟨f, ρ'⟩, σ', e, h1, h2⟩ := hp i x ρ σ hx p
  cases h1
  exact ⟨ρ', σ', e, h2⟩
 exact ⟨ρ', σ', p, h.symm.trans e⟩
theorem cH {step} : ∀ {xs acc} {st} {X}, ao [] step xs acc st = X → ∀ P : Nat → List T → ae → Prop, P 0 acc st → (∀ i x a σ, xs[i]? = some x → P i a σ → Wl (step x σ) fun o σ' => P (i + 1) (a ++ o.toList) σ') →
 ∃ ys σ', P xs.length ys σ' ∧ X = .ok ys σ'
 | [], acc, st, _, h, P, h0, _ => ⟨acc, st, h0, h.symm⟩
 | x :: xs, acc, st, _, h, P, h0, hp => by
  obtain ⟨o, σ, e, h1⟩ := hp 0 x _ st rfl h0
  simp only [ao] at h
  rw [e] at h
  refine cH h (fun i => P (i + 1)) ?_ fun i y a σ hy => hp _ y a σ (by simpa using hy)
  cases o with
  | none => simpa using h1
  | some t => exact h1
theorem av (hb : bg t (.d x) ρ = some ρ') (h : Wl (cC F G body ρ' st) Q) : Wl (oM F G t body x ρ st) Q := by rw [AA hb]; exact h
theorem aK {x} {ρ'} {Q} (hb : bg t (.d x) (cI ix ρ) = some ρ') (h : Wl ((cy F G ifs ρ' st).bind (Io F G el ρ' st.length)) Q) : Wl (bY F G ix t ifs el ρ x st) Q := by rw [Bp hb]; exact h
theorem bE {ws} {Q} (hw : ws.length = D.ar) (h : Wl ((cC F G D.body (ws.map some ++ List.replicate (D.sl - D.ar) none) st).bind (xI st.length)) Q) : Wl (ax F G D ws st) Q := by rw [aE hw]; exact h
end
theorem IH : eX .non = true := rfl
theorem Ja : eX (.bl b) = true := rfl
theorem Ib : eX (.int i) = true := rfl
theorem Hf : eX (.str z) = true := rfl
theorem IN : eX (.tup xs) = true := rfl
theorem HQ : eX (.lst xs) = true := rfl
abbrev FW : Type := List W → ae → ai W
theorem up {D} {P : FW → Prop} (h : Ds f = some D) (hp : P (ax (run G Ds n) G D)) : P (run G Ds (n + 1) f) := by
 have e : run G Ds (n + 1) f = ax (run G Ds n) G D := by
  funext ws st
  show (match Ds f with | some D => ax _ G D ws st | none => .bad) = _
  rw [h]
 rw [e]
 exact hp
end I
end
section
namespace Hd
open PySem L2 I
theorem xz : aY 48271 = true := cj (by decide) (by decide)
theorem Cb : aY 7919 = true := cj (by decide) (by decide)
theorem w8 : aY 69621 = true := cj (by decide) (by decide)
theorem IW : aY (10 ^ 9) = true := cj (by decide) (by decide)
theorem r9 : (2 : Int) < 2 ^ 1000 := by decide +kernel
theorem sE : (5 : Int) < 2 ^ 1000 := by decide +kernel
theorem tu {b : Int} (h : b ≤ 10 ^ 60) : b < 2 ^ 1000 := Int.lt_of_le_of_lt h (by decide +kernel)
section
variable {α : Type} {a b c d : Int} {i : Int} {x y z : Option (List T)} {st l : ae} {k n : Nat}
theorem J7 (h0 : 0 ≤ i) (h : i < 2) : db [T.int a, .int b] i = some (.int (if i = 0 then a else b)) := by
 have : i = 0 ∨ i = 1 := by omega
 rcases this with e | e <;> subst e <;> rfl
theorem Kk (h0 : 0 ≤ i) (h : i < 3) : db [T.int a, .int b, .int c] i = some (.int (if i = 0 then a else if i = 1 then b else c)) := by
 have : i = 0 ∨ i = 1 ∨ i = 2 := by omega
 rcases this with e | e | e <;> subst e <;> rfl
theorem JZ (h0 : 0 ≤ i) (h : i < 4) : db [T.int a, .int b, .int c, .int d] i = some (.int (if i = 0 then a else if i = 1 then b else if i = 2 then c else d)) := by
 have : i = 0 ∨ i = 1 ∨ i = 2 ∨ i = 3 := by omega
 rcases this with e | e | e | e <;> subst e <;> rfl
theorem Kd {a b c d} (h0 : 0 ≤ i) (h : i < 4) : db [T.str a, .str b, .str c, .str d] i = some (.str (if i = 0 then a else if i = 1 then b else if i = 2 then c else d)) := by
 have : i = 0 ∨ i = 1 ∨ i = 2 ∨ i = 3 := by omega
 rcases this with e | e | e | e <;> subst e <;> rfl
theorem Ky : 3 ≤ aS := by decide
theorem JV : 0 ≤ aS := by decide
theorem Kv : 1 ≤ aS := by decide
theorem JY : 2 ≤ aS := by decide
theorem J6 : 4 ≤ aS := by decide
theorem J0 : 5 ≤ aS := by decide
theorem JW : 6 ≤ aS := by decide
theorem a9 : (st ++ x :: l)[st.length]? = some x := by simp
theorem kP : (st ++ x :: l).set st.length y = st ++ y :: l := by simp
theorem aG : (st ++ l)[st.length + n]? = l[n]? := by grind
theorem xX : (st ++ l).set (st.length + n) y = st ++ l.set n y := by simp
theorem iN : (st ++ l).take (st.length + n) = st ++ l.take n := by
 rw [List.take_append, List.take_of_length_le (by omega)]; congr 2; omega
theorem CA : (st.set k y ++ x :: l)[st.length]? = some x := by simp
theorem AW : (st.set k y ++ x :: l).set st.length z = st.set k y ++ z :: l := by simp
theorem vW : (st.set k y ++ l)[st.length + n]? = l[n]? := by
 have := aG (st := st.set k y) (l := l) (n := n); simp_all
theorem yF : (st.set k y ++ l).set (st.length + n) z = st.set k y ++ l.set n z := by simp
theorem uv : (st.set k y ++ l).take (st.length + n) = st.set k y ++ l.take n := by
 have := iN (st := st.set k y) (l := l) (n := n); simp_all
theorem cF (h : st[k]? = some y) : st.set k y = st := by
 refine List.ext_getElem? fun i => ?_
 by_cases hi : k = i
 · subst hi; rw [List.getElem?_set_self (List.getElem?_eq_some_iff.mp h).1, h]
 simp_all
theorem eu (h : st[k]? = some y) : k < st.length := (List.getElem?_eq_some_iff.mp h).1
theorem DF {n m : Nat} : (n + m < n) = False := by simp
theorem ni (hk : k < st.length) : (st.set k y ++ l)[k]? = some y := by rw [List.getElem?_append_left (by simp_all)]; simp_all
theorem nV (hk : k < st.length) : (st.set k y ++ l).set k z = st.set k z ++ l := by simp_all
end
def aP (s : R) : Option (List T) := some [.int s.r, .int s.c]
def dU (f : FW) (args : List W) (s : R) (Q : T → R → Prop) : Prop := ∀ (k : Nat) (st : ae), st[k]? = some (aP s) → Wl (f (.ref k :: args) st) fun w σ => ∃ v s', w = .d v ∧ σ = st.set k (aP s') ∧ Q v s'
section
variable {f : FW} {args : List W} {s : R} {Q : T → R → Prop}
theorem dU.b (h : dU f args s Q) {k} {st : ae} (hk : k < st.length) (l : ae) : ∃ v s', Q v s' ∧ f (.ref k :: args) (st.set k (aP s) ++ l) = .ok (.d v) (st.set k (aP s') ++ l) := by
 obtain ⟨_, _, e, v, s', rfl, rfl, q⟩ := h k _ (ni hk)
 rw [nV hk] at e
 exact ⟨v, s', q, e⟩
theorem dU.a (h : dU f args s Q) {k} {st : ae} (hk : k < st.length) : ∃ v s', Q v s' ∧ f (.ref k :: args) (st.set k (aP s)) = .ok (.d v) (st.set k (aP s')) := by simpa using h.b hk []
theorem dU.c (h : dU f args s Q) (st l : ae) : ∃ v s', Q v s' ∧ f (.ref st.length :: args) (st ++ aP s :: l) = .ok (.d v) (st ++ aP s' :: l) := by
 obtain ⟨_, _, e, v, s', rfl, rfl, q⟩ := h _ _ a9
 rw [kP] at e
 exact ⟨v, s', q, e⟩
theorem dU.d (h : dU f args s Q) (st : ae) (x : Option _) : ∃ v s', Q v s' ∧ f (.ref (st.length + 1) :: args) (st ++ [x, aP s]) = .ok (.d v) (st ++ [x, aP s']) := by
 simpa using h.c (st ++ [x]) []
theorem dU.e (h : dU f args s Q) (st : ae) (x y : Option _) : ∃ v s', Q v s' ∧ f (.ref (st.length + 1 + 1) :: args) (st ++ [x, y, aP s]) = .ok (.d v) (st ++ [x, y, aP s']) := by
 simpa using h.c (st ++ [x, y]) []
end
def Fu (n : Nat) (s : R) : Prop := 0 ≤ s.c ∧ s.c + n ≤ 10 ^ 6
theorem Fu.le {s} (h : Fu n s) (hm : m ≤ n) : Fu m s := ⟨h.1, by have := h.2; omega⟩
theorem Fu.it (h : Fu (k * (N - i) + m) s) (hi : i < N) : Fu (k * (N - (i + 1)) + m + k) s := by
 rw [show N - i = N - (i + 1) + 1 by omega, Nat.mul_succ] at h
 exact h.le (by omega)
theorem Fu.nd (h : Fu (k * (N - N) + m) s) : Fu m s := h.le (by omega)
def cJ (f : FW) : Prop := ∀ (s : R) (b : Int) (n : Nat), Fu (n + 1) s → 0 < b → b ≤ 10 ^ 60 → ∃ v s', 0 ≤ v ∧ v < b ∧ Fu n s' ∧ ∀ k st, st[k]? = some (aP s) → f [.ref k, .d (.int b)] st = .ok (.d (.int v)) (st.set k (aP s'))
section
variable {f : FW} (hT : cJ f) (s : R) (m : Int)
include hT
theorem cJ.b {k : Nat} {st : ae} (hk : k < st.length) {n : Nat} (hn : Fu (n + 1) s) (h0 : 0 < m := by first | decide | omega) (h1 : m ≤ 10 ^ 60 := by first | decide | omega) :
 ∃ v s', 0 ≤ v ∧ v < m ∧ Fu n s' ∧ (∀ l, f [.ref k, .d (.int m)] (st.set k (aP s) ++ l) = .ok (.d (.int v)) (st.set k (aP s') ++ l)) ∧ f [.ref k, .d (.int m)] (st.set k (aP s)) = .ok (.d (.int v)) (st.set k (aP s')) := by
 obtain ⟨v, s', a1, a2, a3, e⟩ := hT s m n hn h0 h1
 exact ⟨v, s', a1, a2, a3, fun l => by rw [e _ _ (ni hk), nV hk], by rw [e _ _ (List.getElem?_set_self hk), List.set_set]⟩
theorem cJ.c (st : ae) {n : Nat} (hn : Fu (n + 1) s) (h0 : 0 < m := by first | decide | omega) (h1 : m ≤ 10 ^ 60 := by first | decide | omega) :
 ∃ v s', 0 ≤ v ∧ v < m ∧ Fu n s' ∧ ∀ l, f [.ref st.length, .d (.int m)] (st ++ aP s :: l) = .ok (.d (.int v)) (st ++ aP s' :: l) := by
 obtain ⟨v, s', a1, a2, a3, e⟩ := hT s m n hn h0 h1
 exact ⟨v, s', a1, a2, a3, fun l => by rw [e _ _ a9, kP]⟩
end
local macro_rules | `(tactic| walk_at "dq") => `(tactic| first | assumption | omega | (simp only [bN, List.length_map, List.length_zipIdx, List.length_set, List.length_append, List.length_cons, List.length_nil]; omega) | exact cj (by omega) (by omega) | exact tu (by omega))
def yM : String := "Kh JX J8 B9 A3 oR uH zg zM Ex Dw Gf JI Hn vM ED Gn Er Hi EY Gx zP Aq DS Dk ES DE Fa FR Ic Ge GA Fb Jg zt Ab Jt Jb EC FX F4 Ev B8 D4 IH Ja Ib Hf IN HQ Dz Gb GZ DL D7 Fh Ei EE Ej EI JS IF EA Da Ir DU Gw Go E3 HK D2 JM HF F3 kO Kz IZ DJ FV FN DM FP Di BA C9 Gr Jw IV FK Ef E7 DG zX AT xh vP Iv ET JD JR Io List.length_cons List.length_nil List.length_append List.map_cons List.map_nil List.getElem?_cons_zero List.getElem?_cons_succ List.cons_append List.nil_append List.append_assoc List.replicate_succ List.replicate_zero List.append_nil List.set_cons_zero List.set_cons_succ List.length_set List.set_set FH kFor IG JE Ey A2 EX Jf Hl Ji Int.toNat_natCast II IT IS Option.getD_some List.zip_cons_cons List.zip_nil_left List.foldl_cons List.foldl_nil take_set jX mH a9 kP aG xX iN CA AW vW yF uv Iz IX DF Nat.lt_irrefl List.take_succ_cons List.take_zero Nat.reduceAdd Nat.reduceSub Nat.reduceLT Nat.zero_add Nat.add_zero if_true if_false ite_true ite_false reduceIte Do zz Fs tR F7 Jh HL Hs Hb ID J7 Kk JZ Kd Ih Hr w_add w_sub Bw z7 AQ w_mod HS G7 FF Gy Ee uO AO w_lt Iw IU IM w_eq FJ HX EQ AG Ar Dy kM Cr AE BW An Ch FS Et I.qU I.qq I.qv I.qy I.vA Ft IL Aa Cv Bi Option.isNone_some Option.isNone_none Bool.false_eq_true G5 Hh Ho List.take_length Jn Hy decide_true decide_false Bool.not_true Bool.not_false Int.reduceLT Int.reduceLE xz Cb w8 IW r9 sE JV Kv JY Ky J6 J0 JW"
local macro_rules | `(tactic| walk_at "wq") => do { let ls ← ((I.ws (Hd.yM ++ " oG zk")).mapM fun n => `(Lean.Parser.Tactic.simpLemma| $(Lean.mkIdent n):term)); `(tactic| simp (disch := walk_at "dq") only [$[$ls:simpLemma],*, *]) }
theorem BQ : cJ (ax F G0 dF) := by
 intro s b n ⟨hc0, hc1⟩ hb0 hb1
 have hb2 := tu hb1
 have fu : ∀ x, Fu n ⟨x, _⟩ := fun x => ⟨by show 0 ≤ s.c + 1; omega, by show s.c + 1 + n ≤ _; omega⟩
 by_cases hc : 10 ^ 18 < s.r
 · refine ⟨(s.r - 10 ^ 18) % b, ⟨10 ^ 18 + (s.r - 10 ^ 18) / b, _⟩, Int.emod_nonneg _ (by omega), Int.emod_lt_of_pos _ hb0, fu _, fun k st h => ?_⟩
   have h2 : ∀ x, (st.set k x)[k]? = some x := fun x => List.getElem?_set_self (eu h)
   unfold aP at h ⊢
   rw [aE rfl]
   unfold dF
   walk_at "wq"
 · refine ⟨_, ⟨s.r, _⟩, Int.emod_nonneg (Jx s.r (s.c + 1) / 5) (by omega), Int.emod_lt_of_pos _ hb0, fu _, fun k st h => ?_⟩
   have h2 : ∀ x, (st.set k x)[k]? = some x := fun x => List.getElem?_set_self (eu h)
   unfold aP at h ⊢
   rw [aE rfl]
   unfold dF
   walk_at "wq"
   rfl
def vk (f : FW) : Prop := ∀ (s : R) (m : Int) (n : Nat), 0 < m → Fu (n + 7) s → dU f [.d (.int m)] s fun v s' => ∃ i, v = .int i ∧ 0 ≤ i ∧ i < m ∧ Fu n s'
theorem Ea (hT : cJ (F 1)) : vk (ax F G0 gO) := by
 intro s m n hm hf k st h
 have hk := eu h
 rw [← cF h]
 refine bE rfl ?_
 unfold gO
 walk_at "wq"
 generalize hX : am _ _ _ _ _ = X
 obtain ⟨_, _, ⟨t, r, x3, rfl, rfl, hr⟩, rfl⟩ := dw hX (fun i ρ σ => ∃ t r x3, ρ = [some _, some _, some (.d (.int t)), x3] ∧ σ = st.set k (aP r) ∧ Fu (1 * (7 - i) + n) r) ⟨0, s, _, rfl, rfl, hf.le (by omega)⟩ (by
  rintro i x ρ σ hx ⟨t, r, x3, rfl, rfl, hr⟩
  have hi := (List.getElem?_eq_some_iff.mp hx).1
  obtain ⟨v, r', _, _, hc, _, e⟩ := hT.b r (10 ^ 9) hk (hr.it hi) (by decide) (by decide)
  refine av rfl ?_
  walk_at "wq"
  exact ⟨_, _, rfl, rfl, _, _, _, rfl, rfl, hc⟩)
 walk_at "wq"
 exact ⟨_, _, rfl, _, r, rfl, rfl, _, rfl, Int.emod_nonneg _ (by omega), Int.emod_lt_of_pos _ hm, hr.nd⟩
def ik (f : FW) : Prop := ∀ (s : R) (n : Nat), Fu (n + 8) s → dU f [] s fun v s' => ∃ i, v = .int i ∧ 0 ≤ i ∧ i < 10 ^ 60 ∧ Fu n s'
theorem xV {F : FT} (hT : cJ (F 1)) (hF : vk (F 3)) : ik (ax F G0 ec) := by
 intro s n hf k st h
 have hk := eu h
 rw [← cF h]
 refine bE rfl ?_
 unfold ec
 obtain ⟨w, r, w0, w1, wc, e1, e2⟩ := hT.b s 4 hk hf
 by_cases hc : w = 3
 · obtain ⟨_, r', ⟨i, rfl, i0, i1, hr⟩, e3⟩ := (hF r (10 ^ 60) n (by decide) wc).a hk
   walk_at "wq"
   exact ⟨_, _, rfl, _, r', rfl, rfl, i, rfl, i0, i1, hr⟩
 · obtain ⟨b, b0, b1, hb⟩ : ∃ b : Int, 0 < b ∧ b ≤ 1000 ∧ (if w = 0 then 5 else if w = 1 then 100 else 1000) = b := ⟨_, by split <;> (try split) <;> decide, by split <;> (try split) <;> decide, rfl⟩
   obtain ⟨v, r', v0, v1, vc, e3, e4⟩ := hT.b r b hk wc
   walk_at "wq"
   exact ⟨_, _, rfl, _, r', rfl, rfl, v, rfl, v0, by omega, vc.le (by omega)⟩
def sr (f : FW) : Prop := ∀ (ns : List Int) (i : Int), 0 ≤ i → ∃ c : Int, ∀ st, f [.d (.lst (ns.map T.int)), .d (.int i)] st = .ok (.d (.int c)) st
theorem B7 : sr (ax F G0 bQ) := by
 intro ns i h0
 have l1 : (ns.map T.int).length = ns.length := List.length_map _
 by_cases hc : i < ns.length
 · have e : db (ns.map T.int) i = some (.int ns[i.toNat]) := bW h0 (by simp)
   exact ⟨ns[i.toNat], fun st => by rw [aE rfl]; unfold bQ; walk_at "wq"⟩
 · exact ⟨0, fun st => by rw [aE rfl]; unfold bQ; walk_at "wq"⟩
theorem eO (h : (rng 0 n)[i]? = some x) : i < n ∧ x = .int i := by
 obtain ⟨hi, rfl⟩ := pH h
 simp_all
def oZ (f : FW) : Prop := ∀ (s : R) (many : Nat), many ≤ 100 → ∀ n, Fu (n + 101) s → dU f [.d (.int many)] s fun v s' => ∃ ds : List Int, v = .tup (ds.map T.int) ∧ ds.length ≤ many ∧ Fu n s'
theorem CI (hT : cJ (F 1)) : oZ (ax F G0 bM) := by
 intro s many hm n hf k st h
 have hk := eu h
 rw [← cF h]
 refine bE rfl ?_
 unfold bM
 obtain ⟨w, r, w0, w1, wc, e1, e2⟩ := hT.b s 8 hk hf
 walk_at "wq"
 generalize hX : ao _ _ _ _ _ = X
 obtain ⟨_, _, ⟨ds, r', rfl, rfl, hl, c1⟩, rfl⟩ := cH hX (fun i a σ => ∃ (ds : List _) (r' : R), a = ds.map T.int ∧ σ = st.set k (aP r') ∧ ds.length ≤ i ∧ Fu (1 * (many - i) + n) r') ⟨[], r, rfl, rfl, Nat.le_refl _, wc.le (by omega)⟩ (by
  rintro i x a σ hx ⟨ds, r', rfl, rfl, hl, c1⟩
  obtain ⟨hi, rfl⟩ := eO hx
  obtain ⟨v, q, _, _, hc, _, e⟩ := hT.b r' (3 + w) hk (c1.it hi)
  refine aK rfl ?_
  by_cases hv : v = 0
  · walk_at "wq"
    exact ⟨_, _, rfl, ds ++ [(i : Int)], q, by simp, rfl, by simp; omega, hc⟩
  · walk_at "wq"
    exact ⟨_, _, rfl, ds, q, by simp, rfl, by omega, hc⟩)
 rw [bN] at hl c1
 walk_at "wq"
 exact ⟨_, _, rfl, _, r', rfl, rfl, ds, rfl, hl, c1.nd⟩
def uf (d : Int × Int) : Prop := 0 ≤ d.1 ∧ d.1 ≤ 10 ^ 12 ∧ 0 ≤ d.2 ∧ d.2 ≤ d.1
def yN (f : FW) : Prop := ∀ (s : R) (many : Nat) (unit : Int), many ≤ 100 → 0 < unit → unit ≤ 10 ^ 10 → Fu (7 * many + 0) s → dU f [.d (.int many), .d (.int unit)] s fun v s' => ∃ ds : List (Int × Int), v = .tup (ds.map kD) ∧ ds.length = many ∧ ∀ d ∈ ds, uf d
theorem Bl {F : FT} (hT : cJ (F 1)) : yN (ax F G0 fq) := by
 intro s many unit hm hu0 hu1 hf k st h
 have hk := eu h
 rw [← cF h]
 refine bE rfl ?_
 unfold fq
 walk_at "wq"
 generalize hX : am _ _ _ _ _ = X
 obtain ⟨_, _, ⟨ds, r, x4, x5, x6, rfl, rfl, hl, hd, hr⟩, rfl⟩ := dw hX (fun i ρ σ => ∃ (ds : List _) (r : R) (x4 x5 x6 : Option W), ρ = [some _, some _, some _, some _, x4, x5, x6] ∧ σ = st.set k (aP r) ++ [some (ds.map kD)] ∧ ds.length = i ∧ (∀ d ∈ ds, uf d) ∧ Fu (7 * (many - i) + 0) r) ⟨[], s, _, _, _, rfl, rfl, rfl, by simp, hf⟩ (by
  rintro i x ρ σ hx ⟨ds, r, x4, x5, x6, rfl, rfl, hl, hd, hr⟩
  obtain ⟨hi, rfl⟩ := eO hx
  have hr := hr.it hi
  obtain ⟨a, r1, a0, a1, c1, e1, _⟩ := hT.b r 14 hk hr
  obtain ⟨b, r2, b0, b1, c2, e2, _⟩ := hT.b r1 8 hk c1
  obtain ⟨c, r3, c0, c01, c3, e3, _⟩ := hT.b r2 3 hk c2
  obtain ⟨d, r4, d0, d1, c4, e4, _⟩ := hT.b r3 5 hk c3
  obtain ⟨z, z0, z1, hz⟩ : ∃ z : Int, 0 ≤ z ∧ z < 20 ∧ (if d / 2 = 0 then 4 + a else if d / 2 = 1 then 12 + b else c) = z := ⟨_, by split <;> (try split) <;> omega, by split <;> (try split) <;> omega, rfl⟩
  obtain ⟨w, w0, w1, hw⟩ : ∃ w, 0 ≤ w ∧ w ≤ 20 * 10 ^ 10 ∧ unit * z = w := ⟨_, Int.mul_nonneg (by omega) (by omega), by
   have := Int.mul_le_mul hu1 (Int.le_of_lt z1) z0 (by decide)
   omega, rfl⟩
  obtain ⟨f, r5, f0, f1, c5, e5, _⟩ := hT.b r4 12 hk c4
  have u0 : 0 ≤ unit * f := Int.mul_nonneg (by omega) f0
  obtain ⟨g, r6, g0, g1, c6, e6, _⟩ := hT.b r5 (w + 1) hk c5
  obtain ⟨y, r7, y0, y1, c7, e7, _⟩ := hT.b r6 3 hk c6
  obtain ⟨l, l0, l1, hl2⟩ : ∃ l : Int, 0 ≤ l ∧ l ≤ w ∧ (if y = 0 then w else if y = 1 then if unit * f < w then unit * f else w else g) = l := ⟨_, by split <;> (try split) <;> (try split) <;> omega, by split <;> (try split) <;> (try split) <;> omega, rfl⟩
  have lm : (ds.map kD).length < aS := by rw [List.length_map, hl]; exact Nat.lt_of_lt_of_le (by omega : i < 1000) (by decide)
  refine av rfl ?_
  walk_at "wq"
  exact ⟨_, _, rfl, rfl, ds ++ [(w, l)], r7, _, _, _, rfl, by simp [kD], by simp [hl], fun q hq => by
   rcases List.mem_append.mp hq with e | e
   · exact hd q e
   · rw [List.mem_singleton.mp e]; exact ⟨w0, by omega, l0, l1⟩, c7⟩)
 rw [bN] at hl
 walk_at "wq"
 exact ⟨_, _, rfl, _, r, rfl, rfl, ds, rfl, hl, hd⟩
open PySem L2 I PyProof.Rows PySem.Builtin.Str
theorem lK (z : Str) (n : Int) : (ee z n).length ≤ z.length * n.toNat + z.length := by
 unfold ee
 split
 · exact Nat.zero_le _
 · split
   · omega
   · have key : ∀ (k : Nat) (acc : Array _), ((List.replicate k z.cps).foldl (· ++ ·) acc).size = acc.size + z.length * k := by
      intro k
      induction k with
      | zero => simp
      | succ k ih => intro acc; rw [List.replicate_succ, List.foldl_cons, ih, Array.size_append, Nat.mul_succ]; show acc.size + z.length + z.length * k = _; omega
     show Array.size _ ≤ _
     simp_all
theorem strs_map : ∀ (xs : List _), cV (xs.map T.str) = some xs
 | [] => rfl
 | x :: xs => by show (cV _).map _ = _; rw [strs_map xs]; rfl
theorem xa {st} (h : (xs.map (·.length)).sum + xs.length * sep.length ≤ aS) : GQ .join (.d (.str sep)) [.lst (xs.map T.str)] st = .ok (.d (.str (Txt.join sep xs))) st := by
 show (match match cV _ with | some ys => if (ys.map _).sum + ys.length * sep.length ≤ aS then some _ else none | none => none with | some u => fresh u st | none => .bad) = _
 rw [strs_map]
 dsimp only
 rw [if_pos h]
 rfl
theorem mO {st} (h0 : 0 ≤ i) (h1 : i < 26) : eM (.d (.str "abcdefghijklmnopqrstuvwxyz")) (.d (.int i)) st = .ok (.d (.str (j9 (bK i)))) st := by
 have hk := by
  have : di.cps.toList.length = 26 := rfl
  omega
 have z : db di.cps.toList i = some (bK i) := bW h0 (by
  unfold bK
  simp_all)
 show (if di.length ≤ aS then match db di.cps.toList i with | some c => ai.ok _ st | none => ai.bad else ai.bad) = _
 rw [z]
 rfl
theorem y9 {st} (h : z.length ≤ 1000) : xD (.d (.str z)) l u st = .ok (.d (.str (Txt.slice z l u))) st := by
 show (if z.length ≤ aS then ai.ok _ st else ai.bad) = _
 rw [if_pos (yC h)]
theorem Ec {n} {st} (h : z.length ≤ 1000) (h0 : 0 ≤ n) (h1 : n ≤ 1000) : aV .mul (.d (.str z)) (.d (.int n)) st = .ok (.d (.str (ee z n))) st := by
 show (match if z.length ≤ 1000 ∧ 0 ≤ n ∧ n ≤ 1000 then some _ else none with | some t => fresh t st | none => .bad) = _
 rw [if_pos ⟨h, h0, h1⟩]
 rfl
theorem pK {st} (h : a.length + b.length ≤ 1000) : aV .add (.d (.str a)) (.d (.str b)) st = .ok (.d (.str (a ++ b))) st := uO (yC h)
theorem qe (xs : List Nat) (lo m : Nat) (h : lo + m ≤ xs.length) : ((List.range m).map fun i => lo + i).filterMap (fun i => xs[i]?) = (xs.drop lo).take m := by
 induction m with
 | zero => simp
 | succ m ih =>
  rw [List.range_succ, List.map_append, List.filterMap_append, ih (by omega)]
  have hl : m < (xs.drop lo).length := by rw [List.length_drop]; omega
  rw [List.take_succ_eq_append_getElem hl]
  simp only [List.map_cons, List.filterMap_cons]
  rw [List.getElem?_eq_getElem (by omega)]
  simp
theorem vf (x : Str) (l u : Option _) (lo m : Nat) (h : lo + m ≤ x.length) (e : strSliceIndices l u 1 x.length = (List.range m).map fun i => lo + i) : (Txt.slice x l u).cps.toList = (x.cps.toList.drop lo).take m := by
 have hx : x.cps.toList.length = x.length := rfl
 unfold Txt.slice
 rw [e]
 by_cases hm : m = x.length
 · have h0 : lo = 0 := by omega
   subst h0
   rw [if_pos (by simp [hm]), hm, List.drop_zero, ← hx, List.take_length]
 · have := qe x.cps.toList lo m (by omega)
   simp_all
theorem n6 (x : Str) (k : Nat) (h : k ≤ x.length) : (Txt.slice x none (some k)).cps.toList = x.cps.toList.take k := by
 have := vf x none (some k) 0 k (by omega) (by
  unfold strSliceIndices sliceRange
  have h0 : ¬ (k : Int) < 0 := by omega
  simp only [h0, if_false]
  have e : max (0 : Int) (min k x.length) = k := by omega
  rw [e]
  have e2 : (if (0 : Int) < k then (k : Int) - 0 + 1 - 1 / 1 else 0).toNat = k := by
   grind
  grind)
 simp_all
theorem jv (x : Str) (k : Nat) (h : k ≤ x.length) : (Txt.slice x none (some k)).length = k := by
 show (Txt.slice x _ _).cps.size = k
 rw [← Array.length_toList, n6 x k h, List.length_take]
 have hx : x.cps.toList.length = x.length := rfl
 omega
theorem vZ (z : Str) (n : Nat) (h : 2 ≤ n) : n * z.length ≤ (ee z n).length := by
 unfold ee
 rw [if_neg (by omega)]
 split
 · have : z.length = 0 := by
    have hn : ((n : Int) == 1) = false := by simp; omega
    simp_all
   rw [this]
   omega
 · have key : ∀ (k : Nat) (acc : Array _), ((List.replicate k z.cps).foldl (· ++ ·) acc).size = acc.size + z.length * k := by
    intro k
    induction k with
    | zero => simp
    | succ k ih => intro acc; rw [List.replicate_succ, List.foldl_cons, ih, Array.size_append, Nat.mul_succ]; show acc.size + z.length + z.length * k = _; omega
   show _ ≤ Array.size _
   rw [key, Nat.mul_comm]
   simp
theorem mY (h0 : 0 ≤ i) (h1 : i < 26) (g0 : 0 ≤ j) (g1 : j < 26) (e : bK i = bK j) : i = j := by
 have all : ∀ a : Fin 26, ∀ b, di.cps.toList.getD a.val 0 = di.cps.toList.getD b.val 0 → a = b := by decide +kernel
 have := all ⟨i.toNat, by omega⟩ ⟨j.toNat, by omega⟩ e
 have := congrArg Fin.val this
 simp only at this
 omega
theorem rq (p f : Int) (hp : p = 1 ∨ p = 3 ∨ p = 5 ∨ p = 7) (i j : Nat) (hi : i < 8) (hj : j < 8) (e : (f + p * i) % 26 = (f + p * j) % 26) : i = j := by grind
def dI (ks : List Str) : Prop := ∀ (i j : Nat) (hi : i < ks.length) (hj : j < ks.length), ks[i] = ks[j] → i = j
theorem yn (a b : Str) : (a ++ b).cps.toList = a.cps.toList ++ b.cps.toList := by
 show (a.cps ++ b.cps).toList = _
 simp
structure fz (many : Nat) (nms : List Str) : Prop where
 len : nms.length = many
 unl : dI nms
 sz : ∀ n ∈ nms, n.length ≤ 100
theorem rC (bs : Str) (h0 : 1 ≤ bs.length) (h1 : bs.length ≤ 8) {many} (hm : many ≤ 8) : fz many ((List.range many).map fun (k : Nat) => Txt.slice (ee bs 8) none (some (k + 1))) := by
 refine ⟨by simp, fun i j hi hj e => ?_, fun n hn => ?_⟩
 · simp only [List.length_map, List.length_range] at hi hj
   have g := vZ bs 8 (by decide)
   have a1 := jv (ee bs (8 : Nat)) (i + 1) (by omega)
   have a2 := jv (ee bs (8 : Nat)) (j + 1) (by omega)
   grind
 · obtain ⟨k, _, rfl⟩ := List.mem_map.mp hn
   have a := Txt.slice_le (ee bs 8) none (some (k + 1))
   have b := lK bs 8
   rw [show (8 : Int).toNat = 8 from rfl] at b
   omega
theorem rA (bs : Str) (h1 : bs.length ≤ 8) (p f a : Int) (hp : p = 1 ∨ p = 3 ∨ p = 5 ∨ p = 7) {many} (hm : many ≤ 8) : fz many ((List.range many).map fun (k : Nat) => Txt.slice bs none (some a) ++ j9 (bK ((f + p * k) % 26)) ++ Txt.slice bs (some (a + 1)) none) := by
 refine ⟨by simp, fun i j hi hj e => ?_, fun n hn => ?_⟩
 · simp only [List.length_map, List.length_range] at hi hj
   simp only [List.getElem_map, List.getElem_range] at e
   have e' := congrArg (fun z => z.cps.toList) e
   simp only [yn, List.append_assoc] at e'
   have e2 := List.append_cancel_left e'
   injection e2 with e3 _
   have m0 : ∀ z : Int, 0 ≤ z % 26 ∧ z % 26 < 26 := fun z => by omega
   exact rq _ _ hp i j (by omega) (by omega) (mY (m0 _).1 (m0 _).2 (m0 _).1 (m0 _).2 e3)
 · obtain ⟨k, _, rfl⟩ := List.mem_map.mp hn
   have s1 := Txt.slice_le bs none (some a)
   have s2 := Txt.slice_le bs (some (a + 1)) none
   rw [Str.length_append, Str.length_append]
   show _ + 1 + _ ≤ 100
   omega
theorem l7 : ∀ {xs : List Str}, (∀ x ∈ xs, x.length = 1) → (xs.map (·.length)).sum = xs.length
 | [], _ => rfl
 | x :: xs, h => by
  rw [List.map_cons, List.sum_cons, l7 fun y hy => h y (List.mem_cons_of_mem _ hy), h x List.mem_cons_self, List.length_cons]
  omega
def dk (f : FW) : Prop := ∀ (k : Nat) (st : ae) (s : R) (many : Nat), many ≤ 8 → ∀ n, Fu (n + 13) s → st[k]? = some (aP s) → Wl (f [.ref k, .d (.int many)] st) fun w σ => ∃ nms s', w = .ref st.length ∧ σ = st.set k (aP s') ++ [some (nms.map T.str)] ∧ fz many nms ∧ Fu n s'
theorem wW {F : FT} (hT : cJ (F 1)) : dk (ax F G0 dX) := by
 intro k st s many hm n hf h
 have hk := eu h
 rw [← cF h]
 refine bE rfl ?_
 unfold dX
 obtain ⟨w, r, w0, w1, wc, e1, e2⟩ := hT.b s 8 hk hf
 obtain ⟨z, hz⟩ : ∃ z : Nat, 1 + w = (z : Int) := ⟨(1 + w).toNat, by omega⟩
 walk_at "wq"
 generalize hX : ao _ _ _ _ _ = X
 obtain ⟨_, _, ⟨xs, r2, rfl, rfl, hl, ho, c1⟩, rfl⟩ := cH hX (fun i a σ => ∃ (xs : List Str) (r' : R), a = xs.map T.str ∧ σ = st.set k (aP r') ∧ xs.length = i ∧ (∀ x ∈ xs, x.length = 1) ∧ Fu (1 * (z - i) + (n + 4)) r') ⟨[], r, rfl, rfl, rfl, by simp, wc.le (by omega)⟩ (by
  rintro i x a σ hx ⟨xs, r', rfl, rfl, hl, ho, c1⟩
  obtain ⟨hi, rfl⟩ := eO hx
  obtain ⟨v, q, v0, v1, hc, _, e⟩ := hT.b r' 26 hk (c1.it hi)
  have wl := fun st => mO (st := st) v0 v1
  refine aK rfl ?_
  walk_at "wq"
  exact ⟨_, _, rfl, xs ++ [j9 (bK v)], q, by simp, rfl, by simp [hl], fun x hx => by
   rcases List.mem_append.mp hx with e | e
   · exact ho x e
   · rw [List.mem_singleton.mp e]; rfl, hc⟩)
 rw [bN] at hl c1
 have c1 := c1.nd
 have zl : Str.length ("" : Str) = 0 := by decide +kernel
 have sums := l7 ho
 have hj := fun st' => xa (sep := "") (xs := xs) (st := st') (by rw [zl]; exact yC (by omega))
 have bl : (Txt.join "" xs).length = z := by
  unfold Txt.join
  rw [size_glued, zl]
  omega
 generalize Txt.join "" xs = bs at *
 obtain ⟨a, r3, a0, a1, ac, e3, e4⟩ := hT.b r2 4 hk c1
 by_cases hc : a = 0
 · walk_at "wq"
   generalize hX2 : ao _ _ _ _ _ = X
   obtain ⟨_, _, ⟨rfl, rfl⟩, rfl⟩ := cH hX2 (fun i a σ => a = ((List.range i).map fun (k : Nat) => Txt.slice (ee bs 8) none (some ((k : Int) + 1))).map T.str ∧ σ = st.set k (aP r3)) ⟨rfl, rfl⟩ (by
    rintro i x a σ hx ⟨rfl, rfl⟩
    obtain ⟨hi, rfl⟩ := eO hx
    have rl := lK bs 8
    rw [show (8 : Int).toNat = 8 from rfl] at rl
    have hr := fun st => Ec (z := bs) (n := 8) (st := st) (by omega) (by decide) (by decide)
    have hs := fun l u st => y9 (z := ee bs 8) (l := l) (u := u) (st := st) (by omega)
    refine aK rfl ?_
    walk_at "wq"
    exact ⟨_, _, rfl, by simp [List.range_succ], rfl⟩)
   rw [bN]
   walk_at "wq"
   exact ⟨_, _, rfl, _, r3, rfl, rfl, rC bs (by omega) (by omega) hm, ac.le (by omega)⟩
 · obtain ⟨b, r4, b0, b1, bc, e5, e6⟩ := hT.b r3 z hk ac
   obtain ⟨f, r5, f0, f1, fc, e7, e8⟩ := hT.b r4 26 hk bc
   obtain ⟨g, r6, g0, g1, gc, e9, _⟩ := hT.b r5 4 hk fc
   obtain ⟨p, pp, hp⟩ : ∃ p : Int, (p = 1 ∨ p = 3 ∨ p = 5 ∨ p = 7) ∧ (if g = 0 then 1 else if g = 1 then 3 else if g = 2 then 5 else 7) = p := ⟨_, by grind, rfl⟩
   walk_at "wq"
   generalize hX2 : ao _ _ _ _ _ = X
   obtain ⟨_, _, ⟨rfl, rfl⟩, rfl⟩ := cH hX2 (fun i a σ => a = ((List.range i).map fun (k : Nat) => Txt.slice bs none (some b) ++ j9 (bK ((f + p * (k : Int)) % 26)) ++ Txt.slice bs (some (b + 1)) none).map T.str ∧ σ = st.set k (aP r6)) ⟨rfl, rfl⟩ (by
    rintro i x a σ hx ⟨rfl, rfl⟩
    obtain ⟨hi, rfl⟩ := eO hx
    have sl1 := Txt.slice_le bs none (some b)
    have sl2 := Txt.slice_le bs (some (b + 1)) none
    have hs := fun l u st => y9 (z := bs) (l := l) (u := u) (st := st) (by omega)
    have wl := fun st => mO (i := (f + p * (i : Int)) % 26) (st := st) (Int.emod_nonneg _ (by decide)) (Int.emod_lt_of_pos _ (by decide))
    have lm : (j9 (bK ((f + p * (i : Int)) % 26))).length = 1 := rfl
    have a1 := fun st => pK (a := Txt.slice bs none (some b)) (b := j9 (bK ((f + p * (i : Int)) % 26))) (st := st) (by omega)
    have a2 := fun st => pK (a := Txt.slice bs none (some b) ++ j9 (bK ((f + p * (i : Int)) % 26))) (b := Txt.slice bs (some (b + 1)) none) (st := st) (by rw [Str.length_append]; omega)
    refine aK rfl ?_
    walk_at "wq"
    exact ⟨_, _, rfl, by simp [List.range_succ], rfl⟩)
   rw [bN]
   walk_at "wq"
   exact ⟨_, _, rfl, _, r6, rfl, rfl, rA bs (by omega) p f b pp hm, gc⟩
section
variable {f : FW} {s : R} {many : Nat}
theorem dk.b (h : dk f) {k} {st : ae} (hk : k < st.length) (l : ae) (hm : many ≤ 8) {n} (h0 : Fu (n + 13) s) : ∃ nms s', fz many nms ∧ Fu n s' ∧ f [.ref k, .d (.int many)] (st.set k (aP s) ++ l) = .ok (.ref (st.length + l.length)) (st.set k (aP s') ++ (l ++ [some (nms.map T.str)])) := by
 obtain ⟨_, _, e, nms, s', rfl, rfl, a, b⟩ := h k _ s _ hm n h0 (ni hk (l := l))
 rw [nV hk, List.length_append, List.length_set, List.append_assoc] at e
 exact ⟨nms, s', a, b, e⟩
theorem dk.c (h : dk f) (st l : ae) (hm : many ≤ 8) (h0 : Fu 13 s) : ∃ nms s', fz many nms ∧ f [.ref st.length, .d (.int many)] (st ++ aP s :: l) = .ok (.ref (st.length + (l.length + 1))) (st ++ aP s' :: (l ++ [some (nms.map T.str)])) := by
 obtain ⟨_, _, e, nms, s', rfl, rfl, a, _⟩ := h _ _ s _ hm 0 h0 (a9 (st := st))
 rw [kP, List.length_append, List.append_assoc] at e
 exact ⟨nms, s', a, e⟩
end
theorem ju {α : Type} {f : α → T} {l : List α} {i} {x} (h : (l.map f)[i]? = some x) : ∃ a, l[i]? = some a ∧ a ∈ l ∧ i < l.length ∧ f a = x := by
 rw [List.getElem?_map] at h
 cases e : l[i]? with
 | none => rw [e] at h; cases h
 | some a =>
  rw [e] at h
  injection h with h
  obtain ⟨hi, he⟩ := List.getElem?_eq_some_iff.mp e
  exact ⟨a, rfl, he ▸ List.getElem_mem hi, hi, h⟩
theorem gq {α : Type} {l : List α} {i} {a} (h : l[i]? = some a) : l.take (i + 1) = l.take i ++ [a] := by rw [List.take_add_one, h]; rfl
theorem fk {α : Type} {P : α → Prop} {l} {a} (h : ∀ x ∈ l, P x) (ha : P a) : ∀ x ∈ l ++ [a], P x := fun x hx => (List.mem_append.mp hx).elim (h x) fun e => by simp_all
theorem EG {α : Type} {f : α → T} {l : List α} {i : Int} (h0 : 0 ≤ i) (h1 : i < l.length) : ∃ a ∈ l, db (l.map f) i = some (f a) :=
 have hi : i.toNat < l.length := by omega
 ⟨_, List.getElem_mem hi, bW h0 (by simp_all)⟩
theorem eY {α : Type} {f : α → T} {l : List α} (h : l.length ≤ 1000) : (l.map f).length < aS := by rw [List.length_map]; exact Nat.lt_of_le_of_lt h (by decide)
def j8 (p : Place) : Prop := p.name.length ≤ 100 ∧ 0 ≤ p.rent ∧ p.rent < 10 ^ 60 ∧ p.shut.length ≤ 100
def iH (p : aI) : Prop := p.name.length ≤ 100 ∧ 0 ≤ p.pay ∧ p.pay < 10 ^ 60 ∧ 0 ≤ p.hold ∧ p.hold ≤ p.pay ∧ 1 ≤ p.run ∧ p.run ≤ 8 ∧ p.away.length ≤ 100
def gK (pl : List Place) (qs : List aI) (p : aa) : Prop := p.name.length ≤ 100 ∧ p.place ∈ pl.map (·.name) ∧ 0 ≤ p.length ∧ p.length ≤ 10 ^ 12 ∧ p.word.length ≤ 4 ∧ p.cast.length ≤ qs.length ∧ ∀ c ∈ p.cast, c ∈ qs.map (·.name)
def pU (f : FW) : Prop := ∀ (s : R) (many : Nat), many ≤ 100 → Fu 1000 s → dU f [.d (.int many)] s fun v s' => ∃ ps : List Place, v = .tup (ps.map Place.t) ∧ ps.length ≤ 8 ∧ dI (ps.map (·.name)) ∧ ∀ p ∈ ps, j8 p
theorem sw (hT : cJ (F 1)) (hM : ik (F 5)) (hS : oZ (F 2)) (hN : dk (F 6)) : pU (ax F G0 dg) := by
 intro s many hm hf k st h
 have hk := eu h
 rw [← cF h]
 refine bE rfl ?_
 unfold dg
 obtain ⟨a, r1, a0, a1, c1, e1, f1⟩ := hT.b s 3 hk hf
 obtain ⟨b, r2, b0, b1, c2, e2, f2⟩ := hT.b r1 7 hk c1
 obtain ⟨c, r3, c0, c01, c3, e3, f3⟩ := hT.b r2 4 hk c2
 obtain ⟨n, n8, hn⟩ : ∃ n : Nat, n ≤ 8 ∧ (if (if decide (c = 0) = true then (1 : Int) else 0) = 0 then 1 + a else b) = n := ⟨(if (if decide (c = 0) = true then (1 : Int) else 0) = 0 then 1 + a else b).toNat, by split <;> omega, by split <;> omega⟩
 obtain ⟨nms, r4, no, c4, e4⟩ := hN.b hk [] n8 c3
 rw [List.append_nil, List.length_nil] at e4
 have nl := no.len
 walk_at "wq"
 generalize hX : ao _ _ _ _ _ = X
 obtain ⟨_, _, ⟨ps, r, rfl, rfl, hp, ho, c5⟩, rfl⟩ := cH hX (fun i a σ => ∃ (ps : List _) (r : R), a = ps.map Place.t ∧ σ = st.set k (aP r) ∧ ps.map (·.name) = nms.take i ∧ (∀ p ∈ ps, j8 p) ∧ Fu (109 * (n - i) + 0) r) ⟨[], r4, rfl, rfl, rfl, by simp, c4.le (by omega)⟩ (by
  rintro i x a σ hx ⟨ps, r, rfl, rfl, hp, ho, c5⟩
  obtain ⟨nm, hi, hm', hl, rfl⟩ := ju hx
  obtain ⟨_, q1, ⟨m, rfl, m0, m1, d1⟩, g1⟩ := (hM r _ (c5.it (nl ▸ hl))).a hk
  obtain ⟨_, q2, ⟨ds, rfl, dl, d2⟩, g2⟩ := (hS q1 _ hm _ d1).a hk
  refine aK rfl ?_
  walk_at "wq"
  exact ⟨_, _, rfl, ps ++ [⟨nm, m, ds⟩], q2, by simp [Place.t], rfl, by rw [gq hi, List.map_append, hp]; rfl, fk ho ⟨no.sz nm hm', m0, m1, by show ds.length ≤ 100; omega⟩, d2⟩)
 rw [List.length_map, List.take_length] at hp
 walk_at "wq"
 exact ⟨_, _, rfl, _, r, rfl, rfl, ps, rfl, by rw [← List.length_map, hp]; omega, by rw [hp]; exact no.unl, ho⟩
def lY (f : FW) : Prop := ∀ (s : R) (many : Nat), many ≤ 100 → Fu 1000 s → dU f [.d (.int many)] s fun v s' => ∃ ps : List aI, v = .tup (ps.map aI.t) ∧ ps.length ≤ 8 ∧ dI (ps.map (·.name)) ∧ ∀ p ∈ ps, iH p
theorem qX {F : FT} (hT : cJ (F 1)) (hF : vk (F 3)) (hM : ik (F 5)) (hS : oZ (F 2)) (hN : dk (F 6)) : lY (ax F G0 cG) := by
 intro s many hm hf k st h
 have hk := eu h
 rw [← cF h]
 refine bE rfl ?_
 unfold cG
 obtain ⟨a, r1, a0, a1, c1, e1, f1⟩ := hT.b s 4 hk hf
 obtain ⟨b, r2, b0, b1, c2, e2, f2⟩ := hT.b r1 7 hk c1
 obtain ⟨c, r3, c0, c01, c3, e3, f3⟩ := hT.b r2 3 hk c2
 obtain ⟨n, n8, hn⟩ : ∃ n : Nat, n ≤ 8 ∧ (if (if decide (c = 0) = true then (1 : Int) else 0) = 0 then a else b) = n := ⟨(if (if decide (c = 0) = true then (1 : Int) else 0) = 0 then a else b).toNat, by split <;> omega, by split <;> omega⟩
 obtain ⟨nms, r4, no, c4, e4⟩ := hN.b (s := r3) hk [some []] n8 c3
 have nl := no.len
 walk_at "wq"
 generalize hX : am _ _ _ _ _ = X
 obtain ⟨_, _, ⟨ps, r, x4, x5, x6, x7, rfl, rfl, hp, ho, c5⟩, rfl⟩ := dw hX (fun i ρ σ => ∃ (ps : List aI) (r : R) (x4 x5 x6 x7 : Option W), ρ = [some (.ref k), some (.d (.int many)), some (.d (.int n)), some (.ref st.length), x4, x5, x6, x7] ∧ σ = st.set k (aP r) ++ [some (ps.map aI.t)] ∧ ps.map (·.name) = nms.take i ∧ (∀ p ∈ ps, iH p) ∧ Fu (119 * (n - i) + 0) r) ⟨[], r4, none, none, none, none, rfl, rfl, by simp, by simp, c4.le (by omega)⟩ (by
  rintro i x ρ σ hx ⟨ps, r, x4, x5, x6, x7, rfl, rfl, hp, ho, c5⟩
  obtain ⟨nm, hi, hm', hl, rfl⟩ := ju hx
  have hpl : ps.length ≤ 8 := by have := congrArg List.length hp; simp at this; omega
  have lm := eY (f := aI.t) (l := ps) (by omega)
  obtain ⟨_, q1, ⟨m, rfl, m0, m1, d1⟩, g1⟩ := (hM r _ (c5.it (nl ▸ hl))).b hk [some (ps.map aI.t)]
  obtain ⟨_, q2, ⟨v, rfl, v0, v1, d2⟩, g2⟩ := (hF q1 (m + 1) _ (by omega) d1).b hk [some (ps.map aI.t)]
  obtain ⟨y, q3, y0, y1, d3, g3, _⟩ := hT.b q2 3 hk d2
  obtain ⟨hd, h0, h1, hh⟩ : ∃ hd : Int, 0 ≤ hd ∧ hd ≤ m ∧ (if y = 0 then 0 else if y = 1 then m else v) = hd := ⟨_, by split <;> (try split) <;> omega, by split <;> (try split) <;> omega, rfl⟩
  obtain ⟨u, q4, u0, u1, d4, g4, _⟩ := hT.b q3 2 hk d3
  obtain ⟨t, t0, t1, ht⟩ : ∃ t : Int, 0 < t ∧ t ≤ 8 ∧ (if u = 0 then 2 else 8) = t := ⟨_, by split <;> decide, by split <;> decide, rfl⟩
  obtain ⟨z, q5, z0, z1, d5, g5, _⟩ := hT.b q4 t hk d4
  obtain ⟨_, q6, ⟨ds, rfl, dl, d6⟩, g6⟩ := (hS q5 _ hm _ d5).b hk [some (ps.map aI.t)]
  refine av rfl ?_
  walk_at "wq"
  exact ⟨_, _, rfl, rfl, ps ++ [⟨nm, m, hd, 1 + z, ds⟩], q6, _, _, _, _, rfl, by simp [aI.t], by rw [gq hi, List.map_append, hp]; rfl, fk ho ⟨no.sz nm hm', m0, m1, h0, h1, by show 1 ≤ 1 + z; omega, by show 1 + z ≤ 8; omega, by show ds.length ≤ 100; omega⟩, d6⟩)
 rw [List.length_map, List.take_length] at hp
 walk_at "wq"
 exact ⟨_, _, rfl, _, r, rfl, rfl, ps, rfl, by rw [← List.length_map, hp]; omega, by rw [hp]; exact no.unl, ho⟩
def uy (f : FW) : Prop := ∀ (s : R) (nm : Str) (pl : List Place) (qs : List aI) (unit : Int), nm.length ≤ 100 → 0 < pl.length → pl.length ≤ 1000 → qs.length ≤ 1000 → 0 < unit → unit ≤ 10 ^ 10 → Fu 1004 s → dU f [.d (.str nm), .d (.tup (pl.map Place.t)), .d (.tup (qs.map aI.t)), .d (.int unit)] s fun v s' => ∃ sc : aa, v = sc.t ∧ sc.name = nm ∧ gK pl qs sc
theorem yb {F : FT} (hT : cJ (F 1)) : uy (ax F G0 d7) := by
 intro s nm pl qs unit hnm hp0 hp1 hq hu0 hu1 hf k st h
 have hk := eu h
 rw [← cF h]
 refine bE rfl ?_
 unfold d7
 have lp : (pl.map Place.t).length = pl.length := List.length_map _
 obtain ⟨a, r1, a0, a1, c1, e1, f1⟩ := hT.b s pl.length hk hf
 obtain ⟨p, hp, ep⟩ := EG (f := Place.t) a0 a1
 replace ep : db (pl.map Place.t) a = some (.tup [.str p.name, .int p.rent, .tup (p.shut.map T.int)]) := ep
 obtain ⟨b, r2, b0, b1, c2, e2, f2⟩ := hT.b r1 6 hk c1
 obtain ⟨c, r3, c0, c01, c3, e3, f3⟩ := hT.b r2 4 hk c2
 obtain ⟨wd, w4, hw⟩ : ∃ wd : Str, wd.length ≤ 4 ∧ (if c = 0 then ("any" : Str) else if c = 1 then "sun" else if c = 2 then "moon" else "any") = wd := ⟨_, by split <;> (try split) <;> (try split) <;> decide +kernel, rfl⟩
 have ul : unit * (1 + b) ≤ 10 ^ 10 * 6 := Int.mul_le_mul hu1 (by omega) (by omega) (by decide)
 have u0 : 0 ≤ unit * (1 + b) := Int.mul_nonneg (by omega) (by omega)
 walk_at "wq"
 generalize hX : ao _ _ _ _ _ = X
 obtain ⟨_, _, ⟨cs, r, rfl, rfl, hl, hcs, c5⟩, rfl⟩ := cH hX (fun i a σ => ∃ (cs : List Str) (r : R), a = cs.map T.str ∧ σ = st.set k (aP r) ∧ cs.length ≤ i ∧ (∀ x ∈ cs, x ∈ qs.map (·.name)) ∧ Fu (1 * (qs.length - i) + 1) r) ⟨[], r3, rfl, rfl, Nat.le_refl _, by simp, c3.le (by omega)⟩ (by
  rintro i x a σ hx ⟨cs, r, rfl, rfl, hl, hcs, c5⟩
  obtain ⟨q, hi, hm', hl', rfl⟩ := ju hx
  obtain ⟨v, r', _, _, hc, _, e⟩ := hT.b r 3 hk (c5.it hl')
  refine aK rfl ?_
  unfold aI.t
  by_cases hv : v = 0
  · walk_at "wq"
    exact ⟨_, _, rfl, _, r', by simp, rfl, by simp; omega, fk hcs (List.mem_map_of_mem hm'), hc⟩
  · walk_at "wq"
    exact ⟨_, _, rfl, cs, r', by simp, rfl, by omega, hcs, hc⟩)
 rw [List.length_map] at hl c5
 obtain ⟨d, r6, d0, d1, c6, e6, f6⟩ := hT.b r 2 hk c5.nd
 have so : ∀ ts, ts.length ≤ cs.length → (∀ x ∈ ts, x ∈ cs) → gK pl qs ⟨nm, _, _, wd, ts⟩ := fun ts h1 h2 => ⟨hnm, List.mem_map_of_mem hp, u0, by show unit * (1 + b) ≤ _; omega, w4, Nat.le_trans h1 hl, fun x hx => hcs x (h2 x hx)⟩
 by_cases hd : d = 1
 · walk_at "wq"
   exact ⟨_, _, rfl, _, r6, rfl, rfl, ⟨nm, _, _, wd, cs.reverse⟩, by simp [aa.t], rfl, so _ (by simp) (by simp)⟩
 · walk_at "wq"
   exact ⟨_, _, rfl, _, r6, rfl, rfl, _, rfl, rfl, so _ (Nat.le_refl _) fun x h => h⟩
theorem Al (a b : Int) : some [T.int a, .int b] = aP ⟨a, b⟩ := rfl
structure aJ (md ms : Int) (b : aq) : Prop where
 crew : 0 ≤ b.crew ∧ b.crew < 10 ^ 60
 move : 0 ≤ b.move ∧ b.move ≤ 10 ^ 12
 d1 : 1 ≤ b.days.length
 d2 : (b.days.length : Int) ≤ md
 p8 : b.places.length ≤ 8
 q8 : b.players.length ≤ 8
 s8 : (b.scenes.length : Int) ≤ ms
 days : ∀ d ∈ b.days, uf d
 places : ∀ p ∈ b.places, j8 p
 players : ∀ p ∈ b.players, iH p
 scenes : ∀ p ∈ b.scenes, gK b.places b.players p
 unl : dI (b.places.map (·.name)) ∧ dI (b.players.map (·.name)) ∧ dI (b.scenes.map (·.name))
def u4 (f : FW) : Prop := ∀ (st : ae) (ns : List Int) (md ms : Int), 0 < md → md ≤ 100 → 0 ≤ ms → ms ≤ 8 → ∃ b, aJ md ms b ∧ f [.d (.lst (ns.map T.int)), .d (.int md), .d (.int ms)] st = .ok (.d b.t) st
theorem BR {F : FT} (hC : sr (F 0)) (hT : cJ (F 1)) (hF : vk (F 3)) (hM : ik (F 5)) (hD : yN (F 4)) (hN : dk (F 6)) (hP : pU (F 7)) (hQ : lY (F 8)) (hS : uy (F 9)) : u4 (ax F G0 dP) := by
 intro st ns md ms hm0 hm1 hs0 hs1
 suffices h : Wl (ax F G0 dP [.d (.lst (ns.map T.int)), .d (.int md), .d (.int ms)] st) fun w σ => ∃ b, aJ md ms b ∧ w = .d b.t ∧ σ = st by
  obtain ⟨_, _, e, b, hb, rfl, rfl⟩ := h
  exact ⟨b, hb, e⟩
 refine bE rfl ?_
 unfold dP
 have hrow := Al
 obtain ⟨z0, Z0⟩ := hC ns 0 (by decide)
 obtain ⟨z1, Z1⟩ := hC ns 1 (by decide)
 obtain ⟨z2, Z2⟩ := hC ns 2 (by decide)
 obtain ⟨z3, Z3⟩ := hC ns 3 (by decide)
 have fu : ∀ (z : Int) (i : Nat), i ≤ 20 → Fu 1004 ⟨z, i⟩ := fun z i h => ⟨by show (0 : Int) ≤ i; omega, by show (i : Int) + 1004 ≤ 10 ^ 6; omega⟩
 obtain ⟨a, r1, a0, a1, c1, e1⟩ := hT.c ⟨z0, 0⟩ md st (fu z0 0 (by decide))
 obtain ⟨many, hmn⟩ : ∃ many : Nat, 1 + a = (many : Int) := ⟨(1 + a).toNat, by omega⟩
 obtain ⟨_, r2, ⟨x, rfl, x0, x1, c2⟩, e2⟩ := (hF r1 (10 ^ 10) _ (by decide) c1).c st []
 obtain ⟨y, r3, y0, y1, c3, e3⟩ := hT.c r2 4 st c2
 obtain ⟨unit, u0, u1, hu⟩ : ∃ unit : Int, 0 < unit ∧ unit ≤ 10 ^ 10 ∧ (if y = 0 then 1 else if y = 1 then 1 else if y = 2 then 10 ^ 6 else 1 + x) = unit := ⟨_, by split <;> (try split) <;> (try split) <;> omega, by split <;> (try split) <;> (try split) <;> omega, rfl⟩
 obtain ⟨_, r4, ⟨crew, rfl, w0, w1, c4⟩, e4⟩ := (hM r3 _ c3).c st []
 obtain ⟨m, r5, m0, m1, c5, e5⟩ := hT.c r4 3 st c4
 have sm : aY m = true := cj (by omega) (by omega)
 have mv : unit * m ≤ 10 ^ 10 * 2 := Int.mul_le_mul u1 (by omega) (by omega) (by decide)
 obtain ⟨_, _, ⟨ds, rfl, dl, hds⟩, e6⟩ := (hD ⟨z1, 1⟩ many unit (by omega) u0 u1 ((fu z1 1 (by decide)).le (by omega))).d st (aP r5)
 obtain ⟨_, _, ⟨pl, rfl, pl8, pu, hpl⟩, e7⟩ := (hP ⟨z2, 2⟩ many (by omega) ((fu z2 2 (by decide)).le (by decide))).d st (aP r5)
 obtain ⟨_, _, ⟨qs, rfl, ql8, qu, hqs⟩, e8⟩ := (hQ ⟨z3, 3⟩ many (by omega) ((fu z3 3 (by decide)).le (by decide))).d st (aP r5)
 obtain ⟨x5, r6, x50, x51, c6, e9⟩ := hT.c r5 (ms + 1) st c5
 obtain ⟨n, n8, hk0, hn⟩ : ∃ n : Nat, (n : Int) ≤ ms ∧ (n = 0 ∨ 0 < pl.length) ∧ x5 * (if decide ((0 : Int) < (pl.length : Int)) = true then 1 else 0) = (n : Int) := by
  by_cases hz : pl.length = 0
  · exact ⟨0, by omega, .inl rfl, by rw [hz]; simp⟩
  · exact ⟨x5.toNat, by omega, .inr (by omega), by rw [if_pos (by simpa using (by omega : 0 < pl.length))]; omega⟩
 have sif : ∀ b : Bool, aY (if b = true then 1 else 0) = true := fun b => by cases b <;> exact cj (by decide) (by decide)
 have lp : (pl.map Place.t).length = pl.length := List.length_map _
 obtain ⟨nms, r7, no, e10⟩ := hN.c (s := r6) (many := n) st [some []] (by omega) (c6.le (by decide))
 rw [List.length_cons, List.length_nil] at e10
 have nl := no.len
 walk_at "wq"
 generalize hX : am _ _ _ _ _ = X
 obtain ⟨_, _, ⟨scs, x13, x14, rfl, rfl, hsn, hsc⟩, rfl⟩ := dw hX (fun i ρ σ => ∃ (scs : List aa) (x13 x14 : Option W), ρ = [some (.d (.lst (ns.map T.int))), some (.d (.int md)), some (.d (.int ms)), some (.ref st.length), some (.d (.int many)), some (.d (.int unit)), some (.d (.int crew)), some (.d (.int (unit * m))), some (.d (.tup (ds.map kD))), some (.d (.tup (pl.map Place.t))), some (.d (.tup (qs.map aI.t))), some (.d (.int n)), some (.ref (st.length + 1)), x13, x14] ∧ σ = st ++ [aP r7, some (scs.map aa.t)] ∧ scs.map (·.name) = nms.take i ∧ ∀ p ∈ scs, gK pl qs p) ⟨[], none, none, rfl, rfl, by simp, by simp⟩ (by
  rintro i x ρ σ hx ⟨scs, x13, x14, rfl, rfl, hsn, hsc⟩
  obtain ⟨nm, hi, rfl⟩ : ∃ nm, nms[i]? = some nm ∧ x = .tup [.int i, .str nm] := by
   rw [List.getElem?_map, List.getElem?_zipIdx, List.getElem?_map] at hx
   cases e : nms[i]? with
   | none => rw [e] at hx; cases hx
   | some nm => simp_all
  obtain ⟨hil, hie⟩ := List.getElem?_eq_some_iff.mp hi
  have hsl : scs.length ≤ 8 := by have := congrArg List.length hsn; simp at this; omega
  have lm := eY (f := aa.t) (l := scs) (by omega)
  obtain ⟨c, C0⟩ := hC ns (4 + i) (by omega)
  obtain ⟨_, q, ⟨sc, rfl, hnm, so⟩, eS⟩ := (hS ⟨c, 4 + i⟩ nm pl qs unit (no.sz nm (hie ▸ List.getElem_mem hil)) (by omega) (by omega) (by omega) u0 u1 ⟨by show (0 : Int) ≤ 4 + i; omega, by show (4 + i : Int) + 1004 ≤ 10 ^ 6; omega⟩).e st (aP r7) (some (scs.map aa.t))
  refine av rfl ?_
  walk_at "wq"
  exact ⟨_, _, rfl, rfl, scs ++ [sc], _, _, rfl, by simp, by rw [gq hi, List.map_append, hsn, ← hnm]; rfl, fk hsc so⟩)
 simp only [List.length_map, List.length_zipIdx, List.take_length] at hsn
 walk_at "wq"
 have hsl : scs.length = n := by rw [← List.length_map (f := (·.name)), hsn]; omega
 exact ⟨_, _, rfl, ⟨crew, unit * m, ds, pl, qs, scs⟩, ⟨⟨w0, w1⟩, ⟨Int.mul_nonneg (by omega) m0, by show unit * m ≤ _; omega⟩, by show 1 ≤ ds.length; omega, by show (ds.length : Int) ≤ _; omega, pl8, ql8, by show (scs.length : Int) ≤ _; omega, hds, hpl, hqs, hsc, pu, qu, by show dI (scs.map _); rw [hsn]; exact no.unl⟩, rfl, rfl⟩
def DX (b : aq) (os : List (Option Int)) : Prop := ∀ o ∈ os, ∀ d, o = some d → 0 ≤ d ∧ d < b.days.length
section
variable {b : aq} {st : ae} {s : aa} {p : Place} {q : aI} {os : List (Option Int)}
theorem iJ : eM (.d b.t) (.d (.int 0)) st = .ok (.d (.int b.crew)) st := rfl
theorem g9 : eM (.d b.t) (.d (.int 1)) st = .ok (.d (.int b.move)) st := rfl
theorem jb : eM (.d b.t) (.d (.int 2)) st = .ok (.d (.tup (b.days.map kD))) st := rfl
theorem iC : eM (.d b.t) (.d (.int 3)) st = .ok (.d (.tup (b.places.map Place.t))) st := rfl
theorem iE : eM (.d b.t) (.d (.int 4)) st = .ok (.d (.tup (b.players.map aI.t))) st := rfl
theorem ip : eM (.d b.t) (.d (.int 5)) st = .ok (.d (.tup (b.scenes.map aa.t))) st := rfl
theorem iU : eM (.d s.t) (.d (.int 0)) st = .ok (.d (.str s.name)) st := rfl
theorem iA : eM (.d s.t) (.d (.int 1)) st = .ok (.d (.str s.place)) st := rfl
theorem gY : eM (.d s.t) (.d (.int 4)) st = .ok (.d (.tup (s.cast.map T.str))) st := rfl
theorem ii : eM (.d p.t) (.d (.int 0)) st = .ok (.d (.str p.name)) st := rfl
theorem i8 : eM (.d q.t) (.d (.int 0)) st = .ok (.d (.str q.name)) st := rfl
theorem lz {α β : Type} {f} {g : β → T} {l : List α} {m} : ag .zp [.d (.tup (l.map f)), .d (.tup (m.map g))] st = some ((l.zip m).map fun z => .tup [f z.1, g z.2], []) := by
 show some _ = _
 rw [List.zip_map, List.map_map]
 rfl
theorem nq : ag .seq [.d (ak os)] st = some (os.map cc, []) := rfl
theorem iy {α : Type} {f} {l : List α} : ag .zp [.d (.tup (l.map f)), .d (ak os)] st = some ((l.zip os).map fun z => .tup [f z.1, cc z.2], []) := lz
end
theorem nD : G0[0]? = some (.int 4) := rfl
theorem m8 : G0[1]? = some (.int 0) := rfl
theorem iu : G0[15]? = some (.int 0) := rfl
theorem il : G0[16]? = some (.int 1) := rfl
theorem iQ : G0[17]? = some (.int 3) := rfl
theorem iX : G0[18]? = some (.int 4) := rfl
theorem iP : G0[20]? = some (.int 5) := rfl
theorem gU {α β : Type} {f : α → β} {l : List α} : ((l.map f).length : Int) = l.length := by rw [List.length_map]
local macro_rules | `(tactic| walk_at "bq") => do { let ls ← ((I.ws (Hd.yM ++ " oG zk iJ g9 jb iC iE ip iU iA gY ii i8 lz nq iy nD m8 iu il iQ iX iP gU")).mapM fun n => `(Lean.Parser.Tactic.simpLemma| $(Lean.mkIdent n):term)); `(tactic| simp (disch := walk_at "dq") only [$[$ls:simpLemma],*, *]) }
structure Cs (b : aq) (os : List (Option Int)) : Prop where
 ok : aJ 8 8 b
 len : os.length = b.scenes.length
 days : DX b os
theorem Cs.d8 {os} (h : Cs b os) : b.days.length ≤ 8 := by have := h.ok.d2; omega
theorem Cs.s8 {os} (h : Cs b os) : b.scenes.length ≤ 8 := by have := h.ok.s8; omega
theorem Cs.z8 {os} (h : Cs b os) : (b.scenes.zip os).length ≤ 8 := by have := h.s8; rw [List.length_zip]; omega
structure fb (Ds : Nat → Option bz) : Prop where
 h0 : Ds 0 = some bQ
 h1 : Ds 1 = some dF
 h2 : Ds 2 = some bM
 h3 : Ds 3 = some gO
 h4 : Ds 4 = some fq
 h5 : Ds 5 = some ec
 h6 : Ds 6 = some dX
 h7 : Ds 7 = some dg
 h8 : Ds 8 = some cG
 h9 : Ds 9 = some d7
 h11 : Ds 11 = some dP
section
variable {Ds : Nat → Option bz} (H : fb Ds) (n : Nat)
include H
theorem fb.cell : sr (run G0 Ds (n + 1) 0) := up H.h0 B7
theorem fb.take : cJ (run G0 Ds (n + 1) 1) := up H.h1 BQ
theorem fb.far : vk (run G0 Ds (n + 2) 3) := up H.h3 (Ea (H.take n))
theorem fb.money : ik (run G0 Ds (n + 3) 5) := up H.h5 (xV (H.take _) (H.far n))
theorem fb.some : oZ (run G0 Ds (n + 2) 2) := up H.h2 (CI (H.take n))
theorem fb.names : dk (run G0 Ds (n + 2) 6) := up H.h6 (wW (H.take n))
theorem fb.book : u4 (run G0 Ds (n + 5) 11) := up H.h11 (BR (H.cell _) (H.take _) (H.far _) (H.money _) (up H.h4 (Bl (H.take _))) (H.names _) (up H.h7 (sw (H.take _) (H.money n) (H.some _) (H.names _))) (up H.h8 (qX (H.take _) (H.far _) (H.money n) (H.some _) (H.names _))) (up H.h9 (yb (H.take _))))
end
theorem bP {α : Type} {step} {f} {st} {X} {l : List α} (h : ao [] step (l.map f) [] st = X) (g : α → Option T) (hp : ∀ a ∈ l, Wl (step (f a) st) fun o σ => o = g a ∧ st = σ) : X = .ok (l.filterMap g) st := by
 obtain ⟨_, _, ⟨rfl, rfl⟩, e⟩ := cH h (fun i ys σ => ys = (l.take i).filterMap g ∧ st = σ) ⟨rfl, rfl⟩ (by
  rintro i x a σ hx ⟨rfl, rfl⟩
  obtain ⟨a, hi, hm, hl, rfl⟩ := ju hx
  obtain ⟨o, σ, e, rfl, rfl⟩ := hp a hm
  exact ⟨_, _, e, by rw [gq hi, List.filterMap_append]; rfl, rfl⟩)
 simp_all
theorem vv {step} {st} (P : aD → Prop) (Q : T → Prop) (R : W → Prop) : ∀ {xs} {ρ} {X}, am [] step xs ρ st = X → P ρ → (∃ x ∈ xs, Q x) → (∀ x ∈ xs, ∀ ρ, P ρ → Wl (step x ρ st) fun o σ => st = σ ∧ (¬ Q x ∧ o.1 = .nx ∧ P o.2 ∨ ∃ w, o.1 = .rt w ∧ R w)) → ∃ w ρ', R w ∧ X = .ok (.rt w, ρ') st
 | [], _, _, _, _, ⟨_, h, _⟩, _ => nomatch h
 | x :: xs, ρ, _, h, p, ⟨y, hy, q⟩, hp => by
  obtain ⟨⟨f, ρ'⟩, _, e, rfl, h1⟩ := hp x List.mem_cons_self ρ p
  simp only [am] at h
  rw [e] at h
  rcases h1 with ⟨n, rfl, p'⟩ | ⟨w, rfl, r⟩
  · refine vv P Q R h p' ⟨y, ?_, q⟩ fun x hx => hp x (List.mem_cons_of_mem _ hx)
    rcases List.mem_cons.mp hy with rfl | hy
    · exact absurd q n
    · exact hy
  · exact ⟨w, ρ', r, h.symm⟩
def nR (ys : List T) (st : ae) : ai W := Ac ys st
def C7 (F : FT) (G : List T) (ix : List (Option Nat)) (t : Tg) (k : Ik) (ifs : List E) (el : E) (ρ : aD) (ws : List W) (st : ae) : ai W := match ag k ws st with
 | some (xs, gs) => if xs.length ≤ 1000 then (ao gs (bY F G ix t ifs el ρ) xs [] st).bind nR else .bad
 | none => .bad
def nP (ys : List T) (st : ae) : ai W := .ok (.d (.tup ys)) st
def BH (F : FT) (G : List T) (ix : List (Option Nat)) (t : Tg) (k : Ik) (ifs : List E) (el : E) (ρ : aD) (ws : List W) (st : ae) : ai W := match ag k ws st with
 | some (xs, gs) => if xs.length ≤ aS then (ao gs (bY F G ix t ifs el ρ) xs [] st).bind nP else .bad
 | none => .bad
theorem ints_map : ∀ ns, cx (ns.map T.int) = some ns
 | [] => rfl
 | n :: ns => by
  show (cx _).map _ = _
  rw [ints_map ns]; rfl
theorem pR (p : Str) : ∀ cs : List _, ((cs.map T.str).any fun y => eqT y (.str p)) = decide (p ∈ cs)
 | [] => rfl
 | c :: cs => by
  rw [List.map_cons, List.any_cons, pR p cs]
  show (c == p || _) = _
  rw [Bool.beq_eq_decide_eq, ← Bool.decide_or]
  congr 1
  rw [List.mem_cons, @eq_comm _ p c]
section
variable {F : FT} {G : List T} {st : ae} {ρ : aD} {N : List Str} {ix : List (Option Nat)} {t : Tg} {k : Ik} {src ifs : List E} {el : E}
theorem fM : oG o x y st = aV o x y st := Eq.trans rfl rfl
theorem fR : aj F G (.bin o a b) ρ st = (aj F G a ρ st).bind (uH F G o b ρ) := Eq.trans rfl rfl
theorem qV : aj F G (.gen .tuple N ix t k src ifs el) ρ st = (aW F G src ρ st).bind (BH F G ix t k ifs el ρ) := rfl
theorem jJ : Ac (ns.map T.int) st = .ok (.d (.int (iz ns).length)) st := by
 unfold Ac
 rw [ints_map]
theorem qB (h : ns.length < 63) : GB (.d (.lst (ns.map T.int))) st = .ok (.ref st.length) (st ++ [some ((iz ns).map T.int)]) := by
 show (match cx _ with | some ns => if ns.length < 63 then fresh _ st else .bad | none => .bad) = _
 rw [ints_map]
 exact if_pos h
theorem qC {α : Type} {a b : α} {xs : List T} (h : xs.length ≤ 1000) : (if xs.length ≤ 1000 then a else b) = a := if_pos h
theorem CZ : cc none = .non := rfl
theorem C6 {d : Int} : cc (some d) = .int d := rfl
theorem js {xs : List T} : ag .enm [.d (.tup xs)] st = some (xs.zipIdx.map fun q => .tup [.int q.2, q.1], []) := rfl
theorem jK {cs : List _} : bi .mem (.d (.str p)) (.d (.tup (cs.map T.str))) st = .ok (.d (.bl (decide (p ∈ cs)))) st := ej (by
 show (if bo _ && (cs.map _).all _ then some _ else none) = _
 rw [pR, List.all_map, show cs.all (bo ∘ T.str) = true from List.all_eq_true.mpr fun _ _ => rfl]
 rfl)
theorem jm : bi .eq (.d (cc o)) (.d (.int d)) st = .ok (.d (.bl (decide (o = some d)))) st := by
 cases o with
 | none => rfl
 | some e =>
  rw [show decide _ = decide (e = d) by simp]
  exact w_eq
end
local macro_rules | `(tactic| walk_at "cq") => do { let ls ← ((I.ws (Hd.yM ++ " fM fR iJ g9 jb iC iE ip iU iA gY ii i8 lz nq iy nD m8 iu il iQ iX iP gU C7 nR qV BH nP jJ jK jm CZ C6 qB js qC List.all_cons List.all_nil Bool.and_self and_true")).mapM fun n => `(Lean.Parser.Tactic.simpLemma| $(Lean.mkIdent n):term)); `(tactic| simp (disch := walk_at "dq") only [$[$ls:simpLemma],*, *]) }
theorem jM {α β : Type} (h : α → Bool) (f : α → β) : ∀ l : List α, l.filterMap (fun x => if h x then some (f x) else none) = (l.filter h).map f
 | [] => rfl
 | x :: l => by
  rw [List.filterMap_cons, List.filter_cons, jM h f l]
  cases h x <;> rfl
def cr (zs : List (aa × Option Int)) (d : Int) : List aa := zs.filterMap fun z => if z.2 = some d then some z.1 else none
def eR (P : aa → Bool) (zs : List (aa × Option Int)) : List Int := zs.filterMap fun z => if P z.1 then z.2 else none
theorem tw : d ∈ eR P zs ↔ ∃ z ∈ zs, P z.1 = true ∧ z.2 = some d := by
 unfold eR
 simp
theorem u8 : (eR P zs).length ≤ zs.length := List.length_filterMap_le _ _
theorem oW : (cr zs d).length ≤ zs.length := List.length_filterMap_le _ _
theorem Bu {zs} {d} : (cr zs d).any P = true ↔ d ∈ eR P zs := by
 rw [tw, List.any_eq_true]
 constructor
 · rintro ⟨s, h, p⟩
   obtain ⟨z, hz, e⟩ := List.mem_filterMap.mp h
   split at e
   · cases e; exact ⟨z, hz, p, by assumption⟩
   · cases e
 · rintro ⟨z, hz, p, e⟩
   exact ⟨z.1, List.mem_filterMap.mpr ⟨z, hz, if_pos e⟩, p⟩
theorem AV : zs.filterMap (fun z => if P z.1 then z.2.map T.int else none) = (eR P zs).map T.int := by
 unfold eR
 rw [List.map_filterMap]
 congr 1
 funext z
 cases P _ <;> rfl
theorem Cs.in {os} (h : Cs b os) {P} : ∀ d ∈ eR P (b.scenes.zip os), 0 ≤ d ∧ d < b.days.length := fun d hd => by
 obtain ⟨z, hz, _, e⟩ := tw.mp hd
 exact h.days _ (List.of_mem_zip hz).2 d e
def kr (f : FW) : Prop := ∀ (st : ae) (b : aq) (os : List (Option Int)) (d : Int), Cs b os → f [.d b.t, .d (ak os), .d (.int d)] st = .ok (.d (.lst ((cr (b.scenes.zip os) d).map aa.t))) st
theorem xM : kr (ax F G0 fX) := by
 intro st b os d h
 have hz := h.z8
 rw [aE rfl]
 unfold fX
 walk_at "cq"
 generalize hX : ao _ _ _ _ _ = X
 have e := bP hX (fun z => if z.2 = some d then some z.1.t else none) (by
  rintro ⟨s, o⟩ _
  refine aK rfl ?_
  by_cases ho : o = some d
  · have := decide_eq_true ho
    rw [if_pos ho]
    clear ho
    walk_at "cq"
    exact ⟨_, _, rfl, rfl, rfl⟩
  · walk_at "cq"
    exact ⟨_, _, rfl, rfl, rfl⟩)
 have e2 : (b.scenes.zip os).filterMap (fun z => if z.2 = some d then some z.1.t else none) = (cr (b.scenes.zip os) d).map aa.t := by
  unfold cr
  rw [List.map_filterMap]
  simp
 walk_at "cq"
def CF (f : FW) : Prop := ∀ (α : Type) (l : List α) (row : α → T) (nm : α → Str), (∀ a st, eM (.d (row a)) (.d (.int 0)) st = .ok (.d (.str (nm a))) st) → ∀ a ∈ l, ∀ st, ∃ i x, l[i]? = some x ∧ nm x = nm a ∧ f [.d (.tup (l.map row)), .d (.str (nm a))] st = .ok (.d (.int (i : Nat))) st
theorem za {F : FT} : CF (ax F G0 dM) := by
 intro α l row nm hr a ha st
 obtain ⟨n, hn⟩ : ∃ n, nm a = n := ⟨_, rfl⟩
 obtain ⟨j, hj, hja⟩ := List.mem_iff_getElem.mp ha
 rw [hn, aE rfl]
 have zi : ∀ x, x ∈ ((l.map row).zipIdx.map fun q => T.tup [.int (q.2 : Nat), q.1]) → ∃ (i : Nat) (a : α), l[i]? = some a ∧ x = .tup [.int i, row a] := by
  intro x hx
  obtain ⟨⟨t, i⟩, hq, rfl⟩ := List.mem_map.mp hx
  obtain ⟨c, h1, _, _, h2⟩ := ju (List.mk_mem_zipIdx_iff_getElem?.mp hq)
  exact ⟨i, c, h1, by rw [h2]⟩
 unfold dM
 walk_at "cq"
 generalize hX : am _ _ _ _ _ = X
 obtain ⟨w, ρ', ⟨i, x, h1, h2, rfl⟩, rfl⟩ := vv (fun ρ => ∃ x2 x3, ρ = [some _, some _, x2, x3]) (fun x => x = .tup [.int j, row a]) (fun w => ∃ (i : Nat) (x : α), l[i]? = some x ∧ nm x = n ∧ w = .d (.int i)) hX ⟨_, _, rfl⟩ ⟨_, List.mem_map.mpr ⟨_, List.mk_mem_zipIdx_iff_getElem?.mpr (by simp_all), rfl⟩, rfl⟩ (by
  rintro x hx _ ⟨x2, x3, rfl⟩
  obtain ⟨i, c, hi, rfl⟩ := zi x hx
  refine av rfl ?_
  by_cases hc : nm c = n
  · walk_at "cq"
    exact ⟨_, _, rfl, rfl, .inr ⟨_, rfl, i, c, hi, hc, rfl⟩⟩
  · walk_at "cq"
    refine ⟨_, _, rfl, rfl, .inl ⟨?_, rfl, _, _, rfl⟩⟩
    intro e
    have hij : i = j := by injection e with e; injection e with e _; injection e with e; omega
    simp_all)
 refine ⟨i, x, h1, h2, ?_⟩
 walk_at "cq"
theorem gG {α : Type} {l : List α} {nm} (hu : dI (l.map nm)) {i j : Nat} {a c} (hi : l[i]? = some a) (hj : l[j]? = some c) (h : nm a = nm c) : a = c := by
 obtain ⟨i1, i2⟩ := List.getElem?_eq_some_iff.mp hi
 obtain ⟨j1, j2⟩ := List.getElem?_eq_some_iff.mp hj
 obtain rfl : i = j := hu i j (by simp_all) (by simp_all) (by simp_all)
 rw [← i2, ← j2]
theorem ki {α : Type} {l : List α} {row : α → T} {i : Nat} {a} (h : l[i]? = some a) : db (l.map row) i = some (row a) := bW (by omega) (by simp_all)
theorem pC (h : n ≤ 1000) : n ≤ aS := Nat.le_trans h (by decide)
theorem yj {α β : Type} (f : α → β) : ∀ l : List α, l.filterMap (fun x => some (f x)) = l.map f
 := by simp
theorem mx : ∀ L, (iz L).length ≤ L.length
 | [] => Nat.le_refl _
 | x :: r => by
  have ins : ∀ l, (insI x l).length ≤ l.length + 1 := by
   intro l
   induction l with
   | nil => exact Nat.le_refl _
   | cons z r ih =>
    unfold insI
    split
    · exact Nat.le_refl _
    · split
      · exact Nat.le_succ _
      grind
  exact Nat.le_trans (ins _) (Nat.succ_le_succ (mx r))
def zK (f : FW) : Prop := ∀ (st : ae) (b : aq), aJ 8 8 b → ∀ a ∈ b.places, ∃ i : Nat, b.places[i]? = some a ∧ f [.d b.t, .d (.str a.name)] st = .ok (.d (.int i)) st
theorem Ff (hN : CF (F 10)) : zK (ax F G0 eD) := by
 intro st b hb a ha
 obtain ⟨i, x, h1, h2, e⟩ := hN _ _ Place.t _ (fun _ _ => rfl) a ha st
 obtain ⟨j, hj⟩ := List.mem_iff_getElem?.mp ha
 cases gG hb.unl.1 h1 hj h2
 refine ⟨i, h1, ?_⟩
 rw [aE rfl]
 unfold eD
 walk_at "cq"
def yQ (f : FW) : Prop := ∀ (st : ae) (b : aq), aJ 8 8 b → ∀ a ∈ b.places, f [.d b.t, .d (.str a.name)] st = .ok (.d a.t) st
theorem Dm (hA : zK (F 16)) : yQ (ax F G0 cP) := by
 intro st b hb a ha
 obtain ⟨i, h1, e⟩ := hA st b hb a ha
 have := ki (row := Place.t) h1
 rw [aE rfl]
 unfold cP
 walk_at "cq"
def wD (b : aq) (os : List (Option Int)) (p : Str) : List Int := iz (eR (fun s => decide (p ∈ s.cast)) (b.scenes.zip os))
theorem Cs.set {os} (h : Cs b os) (P : aa → Bool) : (iz (eR P (b.scenes.zip os))).length ≤ 8 := Nat.le_trans (mx _) (Nat.le_trans u8 h.z8)
def gR (f : FW) : Prop := ∀ (st : ae) (b : aq) (os : List (Option Int)) (p : Str), Cs b os → f [.d b.t, .d (ak os), .d (.str p)] st = .ok (.d (.tup ((wD b os p).map T.int))) st
theorem uj : gR (ax F G0 g8) := by
 intro st b os p h
 have hz := h.z8
 rw [aE rfl]
 unfold g8
 walk_at "cq"
 generalize hX : ao _ _ _ _ _ = X
 have e := bP hX (fun z => if decide (p ∈ z.1.cast) then z.2.map _ else none) (by
  rintro ⟨s, o⟩ _
  refine aK rfl ?_
  by_cases hq : p ∈ s.cast <;> cases o <;> (walk_at "cq"; exact ⟨_, _, rfl, rfl, rfl⟩))
 rw [AV (P := fun s => decide (p ∈ s.cast))] at e
 have hl := Nat.le_trans (u8 (P := fun s => decide (p ∈ s.cast))) hz
 unfold wD
 walk_at "cq"
def Gg (F : FT) (f : Nat) (q : Str) (ws : List W) (st : ae) : ai W := F f (.d (.ins q) :: ws) st
def Jv (F : FT) (G : List T) (q : Str) (f : Nat) (es : List E) (ρ : aD) (x : W) (st : ae) : ai W := Im F G [(q, f)] es ρ x st
def EL (q : Str) (x : W) (st : ae) : ai W := G3 [(q, true)] x st
section
variable {F : FT} {G : List T} {st : ae} {ρ : aD} {q q' : Str} {f : Nat} {o : E} {es : List E}
theorem p5 : aj F G (.mc [(q, f)] o es) ρ st = (aj F G o ρ st).bind (Jv F G q f es ρ) := rfl
theorem o3 : Jv F G q f es ρ (.d (.ins q)) st = (aW F G es ρ st).bind (Gg F f q) := by
 show (match [(q, f)].lookup q with | some f => (aW F G es ρ st).bind fun ws st => F f _ st | none => .bad) = _
 rw [List.lookup_cons, beq_self_eq_true]
 rfl
theorem jV : aj F G (.isc [(q, true)] q' o) ρ st = (aj F G o ρ st).bind (EL q) := rfl
theorem jW : EL q (.d (.ins q)) st = .ok (.d (.bl true)) st := by
 show (match ([(q, true)] : List (Str × Bool)).lookup q with | some b => ai.ok (W.d (.bl b)) st | none => .bad) = _
 rw [List.lookup_cons, beq_self_eq_true]
end
theorem du {st} (h : st[i]? = some (some xs)) : look (.ref i) st = some (.lst xs) := by simp only [look, h]
theorem bb {α : Type} {step} {f} {st} (P : aD → Prop) (h : α → Bool) (r : α → W) : ∀ {l : List α} {ρ} {X}, am [] step (l.map f) ρ st = X → P ρ → (∀ a ∈ l, ∀ ρ, P ρ → Wl (step (f a) ρ st) fun o σ => st = σ ∧ (h a = false ∧ o.1 = .nx ∧ P o.2 ∨ h a = true ∧ o.1 = .rt (r a))) → ∃ ρ', (∃ a, l.find? h = some a ∧ X = .ok (.rt (r a), ρ') st) ∨ l.find? h = none ∧ P ρ' ∧ X = .ok (.nx, ρ') st
 | [], ρ, _, hx, p, _ => ⟨ρ, .inr ⟨rfl, p, hx.symm⟩⟩
 | a :: l, ρ, _, hx, p, hp => by
  obtain ⟨⟨fl, ρ'⟩, _, e, rfl, h1⟩ := hp a List.mem_cons_self ρ p
  rw [List.map_cons] at hx
  simp only [am] at hx
  rw [e] at hx
  rcases h1 with ⟨n, rfl, p'⟩ | ⟨n, rfl⟩
  · obtain ⟨ρ2, q⟩ := bb P h r hx p' fun a ha => hp a (List.mem_cons_of_mem _ ha)
    exact ⟨ρ2, by grind⟩
  · exact ⟨ρ', .inl ⟨a, by rw [List.find?_cons, n], hx.symm⟩⟩
theorem cg {α : Type} {step : T → aD → ae → ai (Fl × aD)} {gs : List (Nat × List T)} {f : α → T} (P : aD → ae → Prop) (Q : ae → Prop) (h : α → Bool) (r : α → W) (hs : ∀ ρ σ, P ρ σ → dv gs σ = true) : ∀ {l : List α} {ρ : aD} {st : ae} {X : ai (Fl × aD)}, am gs step (l.map f) ρ st = X → P ρ st → (∀ a ∈ l, ∀ ρ σ, P ρ σ → Wl (step (f a) ρ σ) fun o σ' => (h a = false ∧ o.1 = .nx ∧ P o.2 σ') ∨ (h a = true ∧ o.1 = .rt (r a) ∧ Q σ')) →
 ∃ ρ' σ', (∃ a, l.find? h = some a ∧ Q σ' ∧ X = .ok (.rt (r a), ρ') σ') ∨ (l.find? h = none ∧ P ρ' σ' ∧ X = .ok (.nx, ρ') σ')
 | [], ρ, st, _, hx, p, _ => by
  simp only [List.map_nil, am] at hx
  rw [if_pos (hs ρ st p)] at hx
  exact ⟨ρ, st, .inr ⟨rfl, p, hx.symm⟩⟩
 | a :: l, ρ, st, _, hx, p, hp => by
  obtain ⟨⟨fl, ρ'⟩, σ', e, h1⟩ := hp a List.mem_cons_self ρ st p
  rw [List.map_cons] at hx
  simp only [am] at hx
  rw [if_pos (hs ρ st p), e, oR] at hx
  rcases h1 with ⟨n, rfl, p'⟩ | ⟨n, rfl, q'⟩
  · obtain ⟨ρ2, σ2, q⟩ := cg P Q h r hs (l := l) hx p' fun a ha => hp a (List.mem_cons_of_mem _ ha)
    exact ⟨ρ2, σ2, by rw [List.find?_cons, n]; exact q⟩
  · exact ⟨ρ', σ', .inl ⟨a, by rw [List.find?_cons, n], q', hx.symm⟩⟩
theorem ky (l : List _) : bw (l.map aa.t) ≤ 50 := Nat.le_trans (fh _ 5 fun s => by
 have := fh T.str 0 (fun x => Nat.le_refl _) s.cast
 simp only [aa.t, b9, bw]
 omega l) (by decide)
theorem j5 (p : Int) : ∀ cs : List _, ((cs.map T.int).any fun y => eqT y (.int p)) = decide (p ∈ cs)
 | [] => rfl
 | c :: cs => by
  rw [List.map_cons, List.any_cons, j5 p cs]
  show (c == p || _) = _
  rw [Bool.beq_eq_decide_eq, ← Bool.decide_or]
  congr 1
  rw [List.mem_cons, @eq_comm _ p c]
section
variable {σ : ae} {D : List Int} {d : Int}
theorem nJ (D : List _) : (D.map T.int).all bo = true := by
 rw [List.all_map]
 exact List.all_eq_true.mpr fun _ _ => rfl
theorem lb : bi .mem (.d (.int d)) (.d (.tup (D.map T.int))) σ = .ok (.d (.bl (decide (d ∈ D)))) σ := ej (by
 show (if bo _ && (D.map _).all _ then some _ else none) = _
 rw [j5, nJ]
 rfl)
end
def vH (b : aq) (os : List (Option Int)) (a : aI) : Option Int := (wD b os a.name).find? fun d => decide (d ∈ a.away)
def bI (b : aq) (os : List (Option Int)) : T := match b.players.find? fun a => (vH b os a).isSome with
 | some a => .tup [.str "away", .str a.name, .int ((vH b os a).getD 0)]
 | none => .non
local macro_rules | `(tactic| walk_at "gq") => do { let ls ← ((I.ws (Hd.yM ++ " ub rV fM fR lW kz o8 sP IK pO rZ Bq mV om iJ g9 jb iC iE ip iU iA gY ii i8 lz nq iy nD m8 iu il iQ iX iP gU C7 nR p5 o3 Gg jV jW du qV BH nP jJ jK jm CZ C6 qB js qC List.all_cons List.all_nil Bool.and_self and_true nh")).mapM fun n => `(Lean.Parser.Tactic.simpLemma| $(Lean.mkIdent n):term)); `(tactic| simp (disch := walk_at "dq") only [$[$ls:simpLemma],*, *]) }
def y3 (f : FW) : Prop := ∀ (st : ae) (b : aq) (os : List (Option Int)), Cs b os → f [.d (.ins "Away"), .d b.t, .d (ak os)] st = .ok (.d (bI b os)) st
def mB (q w : Str) (f : FW) : Prop := ∀ st : ae, f [.d (.ins q)] st = .ok (.d (.str w)) st
theorem CV : mB "Away" "away" (ax F G0 dG) := by
 intro st
 rw [aE rfl]
 unfold dG
 walk_at "gq"
theorem Cn (hC : gR (F 15)) (hW : mB "Away" "away" (F 37)) : y3 (ax F G0 cQ) := by
 intro st b os h
 rw [aE rfl]
 unfold cQ bI
 walk_at "gq"
 generalize hX : am _ _ _ _ _ = X
 obtain ⟨ρ', q⟩ := bb (fun ρ => ∃ x3 x4 x5 x6 x7 x8, ρ = [some _, some _, some _, x3, x4, x5, x6, x7, x8]) (fun a => (vH b os a).isSome) (fun a => .d (.tup [.str _, .str _, .int ((vH b os a).getD 0)])) hX ⟨_, _, _, _, _, _, rfl⟩ (by
  rintro a ha _ ⟨x3, x4, x5, x6, x7, x8, rfl⟩
  have C0 := fun st => hC st b os a.name h
  have W0 := fun st => hW st
  refine av rfl ?_
  unfold vH
  walk_at "gq"
  generalize hY : am _ _ _ _ _ = Y
  obtain ⟨ρ', q⟩ := bb (fun ρ => ∃ x8, ρ = [some _, some _, some _, some _, some _, some _, some _, some _, x8]) (fun d => decide (d ∈ a.away)) _ hY ⟨_, rfl⟩ (by
   rintro d _ _ ⟨x8, rfl⟩
   have m0 := fun σ => lb (σ := σ) (d := d) (D := a.away)
   refine av rfl ?_
   by_cases hq : d ∈ a.away
   · walk_at "gq"
     exact ⟨_, _, rfl, rfl, .inr ⟨trivial, rfl⟩⟩
   · walk_at "gq"
     exact ⟨_, _, rfl, rfl, .inl ⟨trivial, rfl, _, rfl⟩⟩)
  rcases q with ⟨d, e, rfl⟩ | ⟨e, ⟨x8, rfl⟩, rfl⟩
  · rw [e]
    exact ⟨_, _, rfl, rfl, .inr ⟨rfl, rfl⟩⟩
  · rw [e]
    exact ⟨_, _, rfl, rfl, .inl ⟨rfl, rfl, _, _, _, _, _, _, rfl⟩⟩)
 rcases q with ⟨a, e, rfl⟩ | ⟨e, ⟨x3, x4, x5, x6, x7, x8, rfl⟩, rfl⟩
 · walk_at "gq"
 · walk_at "gq"
theorem cY {D : List Int} (h : D.Pairwise (· < ·)) : ∀ {j i : Nat} {a c}, D[i]? = some a → D[i + j]? = some c → a + j ≤ c
 | 0, i, a, c, h1, h2 => by
  grind
 | j + 1, i, a, c, h1, h2 => by
  obtain ⟨l2, e2⟩ := List.getElem?_eq_some_iff.mp h2
  have h3 : D[i + j]? = some D[i + j] := List.getElem?_eq_getElem _
  have := cY h h1 h3
  have := List.pairwise_iff_getElem.mp h (i + j) _ (by omega) l2 (by omega)
  omega
def bn (D : List Int) (r : Nat) (d : Int) : Bool := (List.range (r + 1)).all fun k => decide (d - (k : Int) ∈ D)
theorem ql : bn D r d = true ↔ ∀ k, k ≤ r → d - k ∈ D := by
 unfold bn
 rw [List.all_eq_true]
 constructor
 · intro h k hk
   exact of_decide_eq_true (h k (List.mem_range.mpr (by omega)))
 · intro h k hk
   exact decide_eq_true (h k (by have := List.mem_range.mp hk; omega))
theorem iR {D : List Int} (h : D.Pairwise (· < ·)) {r i} {d} (hi : D[i]? = some d) : bn D r d = true ↔ r ≤ i ∧ ∃ a, D[i - r]? = some a ∧ d - a = r := by
 have hl := (List.getElem?_eq_some_iff.mp hi).1
 rw [ql]
 constructor
 · intro hk
   have step : ∀ k, k ≤ r → k ≤ i ∧ D[i - k]? = some (d - k) := by
    intro k
    induction k with
    | zero => grind
    | succ k ih =>
     intro hkr
     obtain ⟨i1, i2⟩ := ih (by omega)
     obtain ⟨j, hj⟩ := List.mem_iff_getElem?.mp (hk _ hkr)
     have hjl := (List.getElem?_eq_some_iff.mp hj).1
     have lt : j < i - k := by
      refine Nat.lt_of_not_le fun hn => ?_
      have := cY h i2 (by rw [show i - k + (j - (i - k)) = j by omega]; exact hj)
      omega
     have h3 : D[i - (k + 1)]? = some D[i - (k + 1)] := List.getElem?_eq_getElem _
     have g1 := cY h h3 (by rw [show i - (k + 1) + 1 = i - k by omega]; exact i2)
     have g2 := cY h hj (by rw [show j + (i - (k + 1) - j) = i - (k + 1) by omega]; exact h3)
     exact ⟨by omega, by rw [h3]; congr 1; omega⟩
   obtain ⟨a1, a2⟩ := step r (Nat.le_refl _)
   exact ⟨a1, _, a2, by omega⟩
 · rintro ⟨hr, a, ha, hd⟩ k hk
   have h3 : D[i - k]? = some D[i - k] := List.getElem?_eq_getElem _
   have g1 := cY h h3 (by rw [show i - k + k = i by omega]; exact hi)
   have g2 := cY h ha (by rw [show i - r + (r - k) = i - k by omega]; exact h3)
   have : d - k = D[i - k] := by omega
   grind
def Fc (D : List Int) (r : Nat) : Option Int := D.find? (bn D r)
def zD (f : FW) : Prop := ∀ (st : ae) (D : List Int) (r : Nat), D.Pairwise (· < ·) → D.length ≤ 8 → r ≤ 8 → f [.d (.tup (D.map T.int)), .d (.int r)] st = .ok (.d (cc (Fc D r))) st
theorem BF {F : FT} : zD (ax F G0 dQ) := by
 intro st D r hr h8 r8
 rw [aE rfl]
 unfold dQ
 have R2 : ag .rng2 [.d (.int r), .d (.int D.length)] st = some (((List.range' r (D.length - r)).map fun (i : Nat) => T.int i), []) := by
  show (if -(aS : Int) ≤ r ∧ (r : Int) ≤ (aS : Int) ∧ -(aS : Int) ≤ D.length ∧ (D.length : Int) ≤ (aS : Int) then some (rng r ((D.length : Int) - r).toNat, ([] : List (Nat × List T))) else none) = _
  have hL : (aS : Int) = 1000000 := rfl
  rw [if_pos (by omega)]
  unfold rng
  rw [List.range'_eq_map_range, List.map_map, show ((D.length : Int) - r).toNat = D.length - r by omega]
  congr 3
 have L0 : fJ .len [.d (.tup (D.map T.int))] st = .ok (.d (.int D.length)) st := by
  rw [kM, List.length_map]
 walk_at "gq"
 generalize hX : am _ _ _ _ _ = X
 obtain ⟨ρ', q⟩ := bb (fun ρ => ∃ x2, ρ = [some (.d (.tup (D.map T.int))), some (.d (.int r)), x2]) (fun i => decide (D.getD i 0 - D.getD (i - r) 0 = r)) (fun i => .d (.int (D.getD i 0))) hX ⟨_, rfl⟩ (by
  rintro i hi _ ⟨x2, rfl⟩
  obtain ⟨i1, i2⟩ := List.mem_range'_1.mp hi
  have a1 : db (D.map T.int) (i : Int) = some (.int (D.getD i 0)) := bW (by omega) (by rw [Int.toNat_natCast, List.getElem?_map, List.getElem?_eq_getElem (by omega), List.getD_eq_getElem?_getD, List.getElem?_eq_getElem (by omega)]; rfl)
  have a2 : db (D.map T.int) ((i : Int) - r) = some (.int (D.getD (i - r) 0)) := bW (by omega) (by rw [show ((i : Int) - r).toNat = i - r by omega, List.getElem?_map, List.getElem?_eq_getElem (by omega), List.getD_eq_getElem?_getD, List.getElem?_eq_getElem (by omega)]; rfl)
  generalize D.getD i 0 = u at *
  generalize D.getD (i - r) 0 = v at *
  refine av rfl ?_
  clear hX hi R2 L0
  by_cases hq : u - v = r
  · have e1 : decide (u - v = (r : Int)) = true := decide_eq_true hq
    clear hq
    walk_at "gq"
    exact ⟨_, _, rfl, rfl, .inr ⟨trivial, rfl⟩⟩
  · have e1 : decide (u - v = (r : Int)) = false := decide_eq_false hq
    clear hq
    walk_at "gq"
    exact ⟨_, _, rfl, rfl, .inl ⟨trivial, rfl, _, rfl⟩⟩)
 have key : ((List.range' r (D.length - r)).find? fun i => decide (D.getD i 0 - D.getD (i - r) 0 = r)).map (fun i => D.getD i 0) = Fc D r := by
  unfold Fc
  by_cases hl : r ≤ D.length
  · have none : ∀ n i : Nat, i + n = r → (D.drop i).find? (bn D r) = (D.drop r).find? (bn D r) := by
     intro n
     induction n with
     | zero => intro i e; rw [show i = r by omega]
     | succ n ih =>
      intro i e
      have hi : i < D.length := by omega
      rw [← List.getElem_cons_drop hi, List.find?_cons]
      have e2 : bn D r D[i] = false := by
       cases e2 : bn D r D[i] with
       | false => rfl
       | true => have := ((iR hr (List.getElem?_eq_getElem hi)).mp e2).1; omega
      rw [e2]
      exact ih (i + 1) (by omega)
    have e0 := none r 0 (by omega)
    rw [List.drop_zero] at e0
    rw [e0]
    have fp : ∀ (n i : Nat), r ≤ i → i + n = D.length → ((List.range' i n).find? fun i => decide (D.getD i 0 - D.getD (i - r) 0 = r)).map (fun i => D.getD i 0) = (D.drop i).find? (bn D r) := by
     intro n
     induction n with
     | zero => grind
     | succ n ih =>
      intro i hri e
      have hi : i < D.length := by omega
      have g : ∀ k, k < D.length → D[k]? = some (D.getD k 0) := fun k hk => by simp_all
      have gi : D.getD i 0 = D[i] := by rw [List.getD_eq_getElem?_getD, List.getElem?_eq_getElem hi]; rfl
      have iff : decide (D.getD i 0 - D.getD (i - r) 0 = (r : Int)) = bn D r D[i] := by
       rw [← gi]
       have := iR (r := r) hr (g i hi)
       cases e2 : bn D r (D.getD i 0) with
       | true =>
        obtain ⟨_, a, ha, hd⟩ := this.mp e2
        grind
       | false =>
        refine decide_eq_false fun hd => ?_
        rw [this.mpr ⟨hri, _, g (i - r) (by omega), hd⟩] at e2
        cases e2
      rw [List.range'_succ, ← List.getElem_cons_drop hi, List.find?_cons, List.find?_cons, iff]
      cases bn D r D[i] with
      | true => rw [← gi]; rfl
      | false => exact ih (i + 1) (by omega) (by omega)
    exact fp (D.length - r) r (Nat.le_refl _) (by omega)
  · rw [show D.length - r = 0 by omega]
    show none = _
    symm
    rw [List.find?_eq_none]
    intro d hd ht
    obtain ⟨i, hi⟩ := List.mem_iff_getElem?.mp hd
    have h1 := (iR hr hi).mp ht
    have h2 := (List.getElem?_eq_some_iff.mp hi).1
    omega
 rw [← key]
 rcases q with ⟨i, e, rfl⟩ | ⟨e, ⟨x2, rfl⟩, rfl⟩
 · rw [e]
   show _ = ai.ok (W.d (.int (D.getD i 0))) st
   walk_at "gq"
 · rw [e]
   show _ = ai.ok (W.d .non) st
   walk_at "gq"
def jh (b : aq) (os : List (Option Int)) (a : aI) : Option Int := Fc (wD b os a.name) a.run.toNat
def gA (b : aq) (os : List (Option Int)) : T := match b.players.find? fun a => (jh b os a).isSome with
 | some a => .tup [.str "tired", .str a.name, .int ((jh b os a).getD 0)]
 | none => .non
def F2 (f : FW) : Prop := ∀ (st : ae) (b : aq) (os : List (Option Int)), Cs b os → f [.d (.ins "Tired"), .d b.t, .d (ak os)] st = .ok (.d (gA b os)) st
theorem Fw (st : ae) : ax F G0 dA [.d (.ins "Tired")] st = .ok (.d (.str "tired")) st := by
 rw [aE rfl]
 unfold dA
 walk_at "gq"
theorem FG (hC : gR (F 15)) (hD : zD (F 41)) (hW : ∀ st, F 39 [.d (.ins "Tired")] st = .ok (.d (.str "tired")) st) : F2 (ax F G0 cm) := by
 intro st b os h
 rw [aE rfl]
 unfold cm gA
 walk_at "gq"
 generalize hX : am _ _ _ _ _ = X
 obtain ⟨ρ', q⟩ := bb (fun ρ => ∃ x3 x4 x5 x6 x7 x8, ρ = [some _, some _, some _, x3, x4, x5, x6, x7, x8]) (fun a => (jh b os a).isSome) (fun a => .d (.tup [.str _, .str _, .int ((jh b os a).getD 0)])) hX ⟨_, _, _, _, _, _, rfl⟩ (by
  rintro a ha _ ⟨x3, x4, x5, x6, x7, x8, rfl⟩
  have C0 := fun st => hC st b os a.name h
  obtain ⟨_, _, _, _, _, r0, r1, _⟩ := h.ok.players a ha
  have D0 : ∀ st, F 41 _ st = .ok (.d (cc (jh b os a))) st := fun st => by
   have := hD st (wD b os a.name) a.run.toNat (dY _) (h.set _) (by omega)
   rwa [show a.run.toNat = a.run by omega] at this
  refine av rfl ?_
  generalize jh b os a = o at *
  cases o with
  | none =>
   walk_at "gq"
   exact ⟨_, _, rfl, rfl, .inl ⟨rfl, rfl, _, _, _, _, _, _, rfl⟩⟩
  | some d =>
   walk_at "gq"
   exact ⟨_, _, rfl, rfl, .inr ⟨rfl, rfl⟩⟩)
 rcases q with ⟨a, e, rfl⟩ | ⟨e, ⟨x3, x4, x5, x6, x7, x8, rfl⟩, rfl⟩
 · walk_at "gq"
 · walk_at "gq"
def JQ (i : Int) : Str := Str.ofString (toString i)
section
variable {F : FT} {G : List T} {st : ae} {ρ : aD} {s : aa}
theorem xF : G0[2]? = some (.int 2) := rfl
theorem wt : G0[5]? = some (.int 2) := rfl
theorem oY : G0[14]? = some (.int 1) := rfl
theorem pW : G0[23]? = some (.int 3) := rfl
theorem pV : eM (.d s.t) (.d (.int 2)) st = .ok (.d (.int s.length)) st := rfl
theorem pc : eM (.d s.t) (.d (.int 3)) st = .ok (.d (.str s.word)) st := rfl
theorem kn {xs : List T} : fJ .list [.d (.lst xs)] st = .ok (.ref st.length) (st ++ [some xs]) := rfl
theorem pj {z : Str} : fJ .str [.d (.str z)] st = .ok (.d (.str z)) st := rfl
theorem pG {i : Int} (h : i.natAbs.log2 < 1920) : fJ .str [.d (.int i)] st = .ok (.d (.str (JQ i))) st := by
 show (match (if i.natAbs.log2 < 1920 then some (T.str (JQ i)) else none) with | some t => fresh t st | none => .bad) = _
 rw [if_pos h]
 rfl
end
local macro_rules | `(tactic| walk_at "eq") => do { let ls ← ((I.ws (Hd.yM ++ " fM fR iJ g9 jb iC iE ip iU iA gY ii i8 lz nq iy nD m8 iu il iQ iX iP gU C7 nR qV BH nP jJ jK jm CZ C6 qB js qC List.all_cons List.all_nil Bool.and_self and_true xF wt oY pW pV pc kn and_self true_and pG pj")).mapM fun n => `(Lean.Parser.Tactic.simpLemma| $(Lean.mkIdent n):term)); `(tactic| simp (disch := walk_at "dq") only [$[$ls:simpLemma],*, *]) }
def eV (ss : List aa) : T := .tup (ss.map fun s => .str s.name)
def vD (b : aq) (ss : List aa) : Prop := ss.length ≤ 8 ∧ ∀ s ∈ ss, s ∈ b.scenes
theorem Au {b : aq} {os} {d} {s} (h : s ∈ cr (b.scenes.zip os) d) : s ∈ b.scenes := by
 obtain ⟨z, hz, e⟩ := List.mem_filterMap.mp h
 split at e
 · cases e; exact (List.of_mem_zip hz).1
 · cases e
def yJ (f : FW) : Prop := ∀ (st : ae) (b : aq), aJ 8 8 b → ∀ a ∈ b.scenes, ∃ i : Nat, b.scenes[i]? = some a ∧ f [.d b.t, .d (.str a.name)] st = .ok (.d (.int i)) st
theorem D5 (hN : CF (F 10)) : yJ (ax F G0 eA) := by
 intro st b hb a ha
 obtain ⟨i, x, h1, h2, e⟩ := hN _ _ aa.t _ (fun _ _ => rfl) a ha st
 obtain ⟨j, hj⟩ := List.mem_iff_getElem?.mp ha
 cases gG hb.unl.2.2 h1 hj h2
 refine ⟨i, h1, ?_⟩
 rw [aE rfl]
 unfold eA
 walk_at "eq"
def uJ (f : FW) : Prop := ∀ (st : ae) (b : aq), aJ 8 8 b → ∀ a ∈ b.scenes, f [.d b.t, .d (.str a.name)] st = .ok (.d a.t) st
theorem FC (hA : yJ (F 12)) : uJ (ax F G0 cS) := by
 intro st b hb a ha
 obtain ⟨i, h1, e⟩ := hA st b hb a ha
 have := ki (row := aa.t) h1
 rw [aE rfl]
 unfold cS
 walk_at "eq"
abbrev Tm := aa × Int × Int
def lh (r : Tm) : T := .tup [.str r.1.name, .int r.2.1, .int r.2.2]
def ce (b : aq) (dy : Int × Int) (s : aa) (o : Option Tm) : Int :=
 let x := match o with
  | some a => if a.1.place = s.place then a.2.2 else a.2.2 + b.move
  | none => 0
 if s.word = "moon" then (if dy.2 > x then dy.2 else x) else x
def jo (b : aq) (dy : Int × Int) (acc : List Tm) (s : aa) : List Tm := acc ++ [(s, ce b dy s acc.getLast?, ce b dy s acc.getLast? + s.length)]
def mT (b : aq) (dy : Int × Int) (ss : List aa) : List Tm := ss.foldl (jo b dy) []
theorem lO {b : aq} {dy : Int × Int} {ss : List aa} {s : aa} : mT b dy (ss ++ [s]) = jo b dy (mT b dy ss) s := by unfold mT; rw [List.foldl_append]; rfl
theorem tB {α : Type} {P : List α → Prop} (h0 : P []) (h1 : ∀ l a, P l → P (l ++ [a])) (l : List α) : P l := by
 rw [← List.reverse_reverse l]
 induction l.reverse with
 | nil => exact h0
 | cons a r ih => rw [List.reverse_cons]; exact h1 _ _ ih
theorem kH (b : aq) (dy : Int × Int) (ss : List aa) : (mT b dy ss).map (·.1) = ss := by
 refine tB (P := fun ss => (mT b dy ss).map (·.1) = ss) rfl (fun l s ih => ?_) ss
 rw [lO]
 unfold jo
 rw [List.map_append, ih]
 rfl
theorem oD (b : aq) (dy : Int × Int) (ss : List aa) : (mT b dy ss).length = ss.length := by
 have := congrArg List.length (kH b dy ss)
 rwa [List.length_map] at this
def nK : Option Tm → Int
 | some a => a.2.2
 | none => 0
def j7 : Option Tm → T
 | some a => a.1.t
 | none => .non
theorem sU {a : Tm} : nK (some a) = a.2.2 := rfl
theorem kq {b : aq} {d : Nat} {dy : Int × Int} (h : b.days[d]? = some dy) : db (b.days.map kD) (d : Int) = some (.tup [.int dy.1, .int dy.2]) := ki (row := kD) h
def uY (f : FW) : Prop := ∀ (st : ae) (b : aq) (d : Nat) (dy : Int × Int) (s : aa) (o : Option Tm), b.days[d]? = some dy → f [.d b.t, .d (.int d), .d s.t, .d (j7 o), .d (.int (nK o))] st = .ok (.d (.int (ce b dy s o))) st
theorem wu : uY (ax F G0 cw) := by
 intro st b d dy s o h
 have D0 := kq h
 unfold cw ce
 cases o with
 | none =>
  show (cC F G0 _ ([.d _, .d _, .d _, .d .non, .d (.int 0)].map some ++ _) st).bind _ = _
  by_cases hw : s.word = "moon" <;> (walk_at "eq")
 | some a =>
  obtain ⟨⟨nm, pl, ln, wd, ct⟩, x, e⟩ := a
  show (cC F G0 _ ([.d _, .d _, .d _, .d (.tup _), .d (.int e)].map some ++ _) st).bind _ = _
  by_cases hp : pl = s.place <;> by_cases hw : s.word = "moon" <;> (walk_at "eq")
def yT (f : FW) : Prop := ∀ (st : ae) (b : aq) (d : Nat) (dy : Int × Int) (ss : List aa), aJ 8 8 b → b.days[d]? = some dy → ss.length ≤ 8 → f [.d b.t, .d (.int d), .d (.lst (ss.map aa.t))] st = .ok (.ref st.length) (st ++ [some ((mT b dy ss).map lh)])
theorem zA {ss : List aa} {i : Nat} {s : aa} {st : ae} (h : ss[i]? = some s) : eM (.d (.lst (ss.map aa.t))) (.d (.int i)) st = .ok (.d s.t) st := by
 rw [zz, ki h]
 rfl
theorem Bo {F : FT} : yT (ax F G0 iV) := by
 intro st b d dy ss hb hd h8
 have D0 := kq hd
 rw [aE rfl]
 unfold iV
 walk_at "eq"
 generalize hX : am _ _ _ _ _ = X
 obtain ⟨_, _, ⟨x5, x6, rfl, rfl⟩, rfl⟩ := dw hX (fun i ρ σ => ∃ x5 x6, ρ = [some (.d b.t), some (.d (.int d)), some (.d (.lst (ss.map aa.t))), some (.ref st.length), some (.d (.int (nK (mT b dy (ss.take i)).getLast?))), x5, x6] ∧ σ = st ++ [some ((mT b dy (ss.take i)).map lh)]) ⟨none, none, rfl, rfl⟩ (by
  rintro i y _ _ hy ⟨x5, x6, rfl, rfl⟩
  obtain ⟨hi, rfl⟩ := eO hy
  obtain ⟨s, hi2⟩ : ∃ s, ss[i]? = some s := ⟨_, List.getElem?_eq_getElem hi⟩
  have I0 := fun st => zA (st := st) hi2
  have lm := eY (f := lh) (l := mT b dy (ss.take i)) (by rw [oD, List.length_take]; omega)
  have hf := kH b dy (ss.take i)
  have hg := oD b dy (ss.take i)
  rw [List.length_take] at hg
  rw [gq hi2, lO]
  generalize mT b dy (ss.take i) = acc at *
  unfold jo
  rw [List.getLast?_concat, List.map_append]
  rw [sU]
  dsimp only
  refine av rfl ?_
  clear hX hy hd
  rcases Nat.eq_zero_or_pos i with h0 | h0
  · cases List.length_eq_zero_iff.mp (by omega : acc.length = 0)
    have e0 : ce b dy s ([] : List Tm).getLast? = if s.word = "moon" then (if dy.2 > 0 then dy.2 else 0) else 0 := rfl
    have e1 : nK ([] : List Tm).getLast? = 0 := rfl
    have g0 : ((i : Int) > 0) = False := eq_false (by omega)
    rw [e0, e1]
    clear hf hg lm e0 e1 hi hi2 h0
    by_cases hw : s.word = "moon" <;> by_cases hx : dy.2 > 0 <;> (walk_at "eq"; exact ⟨_, _, rfl, rfl, _, _, rfl, by rw [iN]; rfl⟩)
  · obtain ⟨r, hr⟩ : ∃ r, acc.getLast? = some r := by
     cases h : acc.getLast? with
     | none => rw [List.getLast?_eq_none_iff.mp h] at hg; have : (0 : Nat) = min i ss.length := hg; omega
     | some r => exact ⟨r, rfl⟩
    have hj : ss[i - 1]? = some r.1 := by
     have := congrArg List.getLast? hf
     rw [List.getLast?_map, hr, List.getLast?_take, if_neg (by omega), List.getElem?_eq_getElem (by omega)] at this
     rw [List.getElem?_eq_getElem (by omega)]
     exact this.symm
    have I1 := fun st => zA (st := st) hj
    rw [show ((i - 1 : Nat) : Int) = (i : Int) - 1 by omega] at I1
    have g0 : ((i : Int) > 0) = True := eq_true (by omega)
    rw [hr]
    have e0 : ce b dy s (some r) = if s.word = "moon" then (if dy.2 > (if r.1.place = s.place then r.2.2 else r.2.2 + b.move) then dy.2 else (if r.1.place = s.place then r.2.2 else r.2.2 + b.move)) else (if r.1.place = s.place then r.2.2 else r.2.2 + b.move) := rfl
    rw [e0, sU]
    clear hf hg hr e0 hi hi2 hj h0
    generalize r.2.2 = en at *
    generalize r.1 = q at *
    obtain ⟨x, hx⟩ : ∃ x, (if q.place = s.place then en else en + b.move) = x := ⟨_, rfl⟩
    rw [hx]
    by_cases hp : q.place = s.place
    · rw [if_pos hp] at hx
      have hp' : (s.place = q.place) = True := eq_true hp.symm
      by_cases hw : s.word = "moon" <;> by_cases hz : dy.2 > x <;> (walk_at "eq"; exact ⟨_, _, rfl, rfl, _, _, rfl, rfl⟩)
    · rw [if_neg hp] at hx
      have hp' : (s.place = q.place) = False := eq_false fun e => hp e.symm
      by_cases hw : s.word = "moon" <;> by_cases hz : dy.2 > x <;> (walk_at "eq"; exact ⟨_, _, rfl, rfl, _, _, rfl, rfl⟩))
 rw [bN, List.take_length]
 clear hX
 walk_at "eq"
def iM (p : Prop) : Prop := p
def cB (dy : Int × Int) (s : aa) (e : Int) : Bool := !(decide (s.word = "sun") && decide (dy.2 < e)) && !decide (dy.1 < e)
def gp (b : aq) (dy : Int × Int) (s : aa) (o : Option Tm) : Int := ce b dy s o + s.length
def mN (b : aq) (dy : Int × Int) (s : aa) (o : Option Tm) : Option Tm := some (s, ce b dy s o, gp b dy s o)
def c8 (b : aq) (dy : Int × Int) : Option Tm → List aa → Prop
 | _, [] => True
 | o, s :: row => cB dy s (gp b dy s o) = true ∧ c8 b dy (mN b dy s o) row
theorem jO {b : aq} {dy : Int × Int} : ∀ (row : List aa) (acc : List Tm), (∀ r ∈ row.foldl (jo b dy) acc, cB dy r.1 r.2.2 = true) ↔ (∀ r ∈ acc, cB dy r.1 r.2.2 = true) ∧ c8 b dy acc.getLast? row
 | [], acc => ⟨fun h => ⟨h, trivial⟩, fun h => h.1⟩
 | s :: row, acc => by
  rw [List.foldl_cons, jO row]
  unfold jo
  rw [List.getLast?_concat]
  show _ ↔ _ ∧ (cB dy s (gp b dy s acc.getLast?) = true ∧ c8 b dy (mN b dy s acc.getLast?) row)
  constructor
  · rintro ⟨h1, h2⟩
    exact ⟨fun r hr => h1 r (List.mem_append_left _ hr), h1 (s, _, _) (List.mem_append_right _ List.mem_cons_self), h2⟩
  · rintro ⟨h1, h2, h3⟩
    refine ⟨fun r hr => ?_, h3⟩
    rcases List.mem_append.mp hr with q | q
    · exact h1 r q
    · cases List.mem_singleton.mp q
      exact h2
theorem v7 {b : aq} {dy : Int × Int} {row : List aa} : (∀ r ∈ mT b dy row, cB dy r.1 r.2.2 = true) ↔ c8 b dy none row := by
 have := jO (b := b) (dy := dy) row []
 unfold mT
 rw [this]
 exact ⟨fun h => h.2, fun h => ⟨(fun r hr => nomatch hr), h⟩⟩
theorem io {b : aq} {dy : Int × Int} {s : aa} : ∀ {row : List aa} {o : Option Tm}, c8 b dy o (row ++ [s]) → c8 b dy o row
 | [], _, _ => trivial
 | _ :: _, _, h => ⟨h.1, io h.2⟩
def jU (b : aq) (dy : Int × Int) (o : Option Tm) (ss : List aa) : Prop := ∃ row : List aa, row.Perm ss ∧ c8 b dy o row
theorem br {α : Type} {l : List α} {i} {a} (h : l[i]? = some a) : (a :: l.eraseIdx i).Perm l := by
 obtain ⟨hi, rfl⟩ := List.getElem?_eq_some_iff.mp h
 rw [List.eraseIdx_eq_take_drop_succ]
 refine List.perm_middle.symm.trans ?_
 simp
theorem rE {ss} (hne : ss ≠ []) : jU b dy o ss ↔ ∃ (i : Nat) (s : aa), ss[i]? = some s ∧ cB dy s (gp b dy s o) = true ∧ jU b dy (mN b dy s o) (ss.eraseIdx i) := by
 constructor
 · rintro ⟨row, hp, hr⟩
   cases row with
   | nil => simp_all
   | cons s row =>
    obtain ⟨i, hi⟩ := List.mem_iff_getElem?.mp (hp.mem_iff.mp List.mem_cons_self)
    exact ⟨i, s, hi, hr.1, row, (List.perm_cons s).mp (hp.trans (br hi).symm), hr.2⟩
 · rintro ⟨i, s, hi, h1, row, hp, hr⟩
   exact ⟨_, ((List.perm_cons s).mpr hp).trans (br hi), h1, hr⟩
section
variable {st : ae} {xs ys : List T} {i k j : Nat}
theorem rB (h : i ≤ xs.length) : xD (.d (.lst xs)) none (some i) st = .ok (.ref st.length) (st ++ [some (xs.take i)]) := by
 have e : gE xs none (some i) = xs.take i := by
  unfold gE
  rw [HT.eU, HT.ff, List.drop_zero, Nat.sub_zero, Nat.min_eq_left h]
 show fresh (.lst _) st = _
 rw [e]
 rfl
theorem qT (h : i < xs.length) : xD (.d (.lst xs)) (some (i + 1)) none st = .ok (.ref st.length) (st ++ [some (xs.drop (i + 1))]) := by
 have hs : HT.cE xs.length 0 (some (i + 1)) = i + 1 := by
  have := HT.ff xs.length 0 (i + 1)
  rw [Int.natCast_add, Int.natCast_one] at this
  rw [this]
  omega
 have e : gE xs (some (i + 1)) none = xs.drop (i + 1) := by
  unfold gE
  rw [HT.eU, hs, List.take_of_length_le (by simp)]
 show fresh (.lst _) st = _
 rw [e]
 rfl
theorem kY (hx : look x st = some (.lst xs)) (hy : look y st = some (.lst ys)) (h : xs.length + ys.length ≤ aS) : aV .add x y st = .ok (.ref st.length) (st ++ [some (xs ++ ys)]) := by
 unfold aV
 rw [hx, hy]
 show (match if xs.length + ys.length ≤ aS then some _ else none with | some t => fresh t st | none => .bad) = _
 rw [if_pos h]
 rfl
end
theorem pi {α : Type} {step} {f} {st} (P : aD → Prop) (hit : α → W → Prop) (miss : α → Prop) : ∀ {l : List α} {ρ} {X}, am [] step (l.map f) ρ st = X → P ρ → (∀ a ∈ l, ∀ ρ, P ρ → Wl (step (f a) ρ st) fun o σ => st = σ ∧ (miss a ∧ o.1 = .nx ∧ P o.2 ∨ ∃ w, hit a w ∧ o.1 = .rt w)) → ∃ ρ', (∃ a ∈ l, ∃ w, hit a w ∧ X = .ok (.rt w, ρ') st) ∨ (∀ a ∈ l, miss a) ∧ P ρ' ∧ X = .ok (.nx, ρ') st
 | [], ρ, _, hx, p, _ => ⟨ρ, .inr ⟨(fun a h => nomatch h), p, hx.symm⟩⟩
 | a :: l, ρ, _, hx, p, hp => by
  obtain ⟨⟨fl, ρ'⟩, _, e, rfl, h1⟩ := hp a List.mem_cons_self ρ p
  rw [List.map_cons] at hx
  simp only [am] at hx
  rw [e] at hx
  rcases h1 with ⟨n, rfl, p'⟩ | ⟨w, n, rfl⟩
  · obtain ⟨ρ2, q⟩ := pi P _ _ hx p' fun a ha => hp a (List.mem_cons_of_mem _ ha)
    refine ⟨ρ2, q.imp (fun ⟨a, h, r⟩ => ⟨a, List.mem_cons_of_mem _ h, r⟩) fun ⟨h, r⟩ => ⟨fun c hc => ?_, r⟩⟩
    rcases List.mem_cons.mp hc with rfl | hc
    · exact n
    · exact h c hc
  · exact ⟨ρ', .inl ⟨a, List.mem_cons_self, w, n, hx.symm⟩⟩
theorem FO {α : Type} {f} {l : List α} {st} : ag .enm [.d (.lst (l.map f))] st = some (l.zipIdx.map fun q => .tup [.int q.2, f q.1], []) := by
 show some ((l.map f).zipIdx.map fun q => T.tup _, []) = _
 rw [List.zipIdx_map, List.map_map]
 rfl
theorem ui {α : Type} {a b : α} {xs : List T} (h : xs.length ≤ aS) : (if xs.length ≤ aS then a else b) = a := if_pos h
theorem sV : G0[10]? = some (.int 5) := rfl
local macro_rules | `(tactic| walk_at "hq") => do { let ls ← ((I.ws (Hd.yM ++ " ub rV fM fR lW kz o8 sP IK pO rZ Bq mV om iJ g9 jb iC iE ip iU iA gY ii i8 lz nq iy nD m8 iu il iQ iX iP gU C7 nR p5 o3 Gg jV jW du sV ui qV BH nP jJ jK jm CZ C6 qB js qC List.all_cons List.all_nil Bool.and_self and_true xF wt oY pW pV pc kn and_self true_and pG pj nh")).mapM fun n => `(Lean.Parser.Tactic.simpLemma| $(Lean.mkIdent n):term)); `(tactic| simp (disch := walk_at "dq") only [$[$ls:simpLemma],*, *]) }
def cu (dy : Int × Int) (s : aa) (e : Int) : T := if s.word = "sun" ∧ dy.2 < e then .tup [.str "late", .str s.name] else if dy.1 < e then .tup [.str "long", .str s.name] else .non
theorem jR : cu dy s e = .non ↔ cB dy s e = true := by
 unfold cu cB
 by_cases h1 : s.word = "sun" <;> by_cases h2 : dy.2 < e <;> simp [h1, h2]
def pE (f : FW) : Prop := ∀ (st : ae) (b : aq) (d : Nat) (dy : Int × Int) (s : aa) (e : Int), b.days[d]? = some dy → f [.d b.t, .d (.int d), .d s.t, .d (.int e)] st = .ok (.d (cu dy s e)) st
theorem rd : pE (ax F G0 fU) := by
 intro st b d dy s e h
 have D0 := kq h
 rw [aE rfl]
 unfold fU cu
 by_cases h1 : s.word = "sun" <;> by_cases h2 : dy.2 < e <;> by_cases h3 : dy.1 < e <;> (walk_at "hq")
def oI (f : FW) : Prop := ∀ (st : ae) (b : aq) (d : Nat) (dy : Int × Int) (s : aa) (o : Option Tm), b.days[d]? = some dy → f [.d b.t, .d (.int d), .d s.t, .d (j7 o), .d (.int (nK o))] st = .ok (.d (if cB dy s (gp b dy s o) then .int (gp b dy s o) else .non)) st
theorem j6 (hS : uY (F 13)) (hL : pE (F 18)) : oI (ax F G0 dB) := by
 intro st b d dy s o h
 have S0 := fun st => hS st b d dy s o h
 have L0 := fun st => hL st b d dy s (gp b dy s o) h
 have sn := jR (dy := dy) (s := s) (e := gp b dy s o)
 rw [aE rfl]
 unfold dB
 unfold gp at *
 generalize ce b dy s o = z at *
 cases hk : cB dy s _ with
 | true =>
  rw [sn.mpr hk] at L0
  walk_at "hq"
 | false =>
  have hn : cu dy s (z + s.length) ≠ .non := fun e => by grind
  have hs : ∃ xs, cu dy s (z + s.length) = .tup xs := by
   unfold cu at hn ⊢
   split
   · exact ⟨_, rfl⟩
   simp_all
  obtain ⟨xs, hx⟩ := hs
  walk_at "hq"
def oP (n : Nat) (f : FW) : Prop := ∀ (st : ae) (b : aq) (d : Nat) (dy : Int × Int) (ss : List aa) (o : Option Tm), b.days[d]? = some dy → ss.length < n → ss.length ≤ 8 → Wl (f [.d b.t, .d (.int d), .d (.lst (ss.map aa.t)), .d (j7 o), .d (.int (nK o))] st) fun w σ => st = σ ∧ ((w = .d .non ∧ ¬ jU b dy o ss) ∨ ∃ row : List aa, row.Perm ss ∧ c8 b dy o row ∧ w = .d (eV row))
theorem Gs {F : FT} {n : Nat} (hE : oI (F 20)) (hR : oP n (F 26)) : oP (n + 1) (ax F G0 ca) := by
 intro st b d dy ss o hd hn h8
 refine bE rfl ?_
 unfold ca
 by_cases hne : ss = []
 · subst hne
   have t0 : ∀ σ : ae, aR (.d (.lst [])) σ = some false := fun _ => rfl
   rw [List.map_nil]
   clear hE hR
   walk_at "hq"
   exact ⟨_, _, rfl, rfl, .inr ⟨[], List.Perm.nil, trivial, rfl⟩⟩
 · have t0 : ∀ σ : ae, aR (.d (.lst (ss.map aa.t))) σ = some true := fun _ => by cases ss with | nil => exact absurd rfl hne | cons _ _ => rfl
   have I0 := fun σ => FO (f := aa.t) (l := ss) (st := σ)
   walk_at "hq"
   generalize hX : am _ _ _ _ _ = X
   obtain ⟨ρ', q⟩ := pi (fun ρ => ∃ x5 x6 x7 x8, ρ = [some (.d b.t), some (.d (.int d)), some (.d (.lst (ss.map aa.t))), some (.d (j7 o)), some (.d (.int (nK o))), x5, x6, x7, x8]) (fun _ w => ∃ row : List aa, row.Perm ss ∧ c8 b dy o row ∧ w = .d (eV row)) (fun q => ¬ (cB dy q.1 (gp b dy q.1 o) = true ∧ jU b dy (mN b dy q.1 o) (ss.eraseIdx q.2))) hX ⟨_, _, _, _, rfl⟩ (by
    rintro ⟨s, i⟩ hq _ ⟨x5, x6, x7, x8, rfl⟩
    have hi : ss[i]? = some s := List.mk_mem_zipIdx_iff_getElem?.mp hq
    have hil := (List.getElem?_eq_some_iff.mp hi).1
    have E0 := fun st => hE st b d dy s o hd
    have el : (ss.eraseIdx i).length + 1 = ss.length := by rw [List.length_eraseIdx_of_lt hil]; omega
    obtain ⟨w, σ, R0, rfl, hw⟩ := hR st b d dy (ss.eraseIdx i) (mN b dy s o) hd (by omega) (by omega)
    have R1 : F 26 [.d b.t, .d (.int d), .d (.lst ((ss.eraseIdx i).map aa.t)), .d s.t, .d (.int (gp b dy s o))] st = .ok w st := R0
    have S0 := fun σ => rB (st := σ) (xs := ss.map aa.t) (i := i) (by rw [List.length_map]; omega)
    have S1 := fun σ => qT (st := σ) (xs := ss.map aa.t) (i := i) (by simp_all)
    have hA : (ss.map aa.t).take i ++ (ss.map aa.t).drop (i + 1) = (ss.eraseIdx i).map aa.t := by
     rw [List.eraseIdx_eq_take_drop_succ, List.map_append, List.map_take, List.map_drop]
    have lA : ((ss.map aa.t).take i).length + ((ss.map aa.t).drop (i + 1)).length ≤ aS := by
     rw [← List.length_append, hA, List.length_map]
     exact pC (by omega)
    generalize (ss.map aa.t).take i = tk at *
    generalize (ss.map aa.t).drop (i + 1) = dr at *
    have A0 := kY (x := .ref st.length) (y := .ref (st.length + 1)) (st := st ++ [some tk, some dr]) (du a9) (du (by rw [aG]; rfl)) lA
    rw [hA, List.length_append, List.append_assoc] at A0
    clear R0 hA lA
    dsimp only
    generalize he : gp b dy s o = e at *
    refine av rfl ?_
    cases hk : cB dy s e with
    | false =>
     walk_at "hq"
     exact ⟨_, _, rfl, rfl, .inl ⟨fun h => h.1.elim, rfl, _, _, _, _, rfl⟩⟩
    | true =>
     replace he : iM _ := he
     rcases hw with ⟨rfl, hw⟩ | ⟨row, hp, hr, rfl⟩
     · replace hw : iM _ := hw
       walk_at "hq"
       exact ⟨_, _, rfl, rfl, .inl ⟨fun h => hw h, rfl, _, _, _, _, rfl⟩⟩
     · have lr : row.length + 1 = ss.length := by rw [← el]; exact congrArg (· + 1) hp.length_eq
       have T0 : ∀ σ, aV .add (.d (.tup [.str s.name])) (.d (eV row)) σ = .ok (.d (eV (s :: row))) σ := fun σ => by
        show (match (if 1 + (row.map fun s => T.str s.name).length ≤ aS then some (T.tup ([.str s.name] ++ row.map fun s => T.str s.name)) else none) with | some t => fresh t σ | none => .bad) = _
        rw [if_pos (pC (by rw [List.length_map]; omega))]
        rfl
       obtain ⟨xs, hx⟩ : ∃ xs, eV row = .tup xs := ⟨_, rfl⟩
       rw [hx] at *
       walk_at "hq"
       exact ⟨_, _, rfl, rfl, .inr ⟨_, ⟨s :: row, ((List.perm_cons s).mpr hp).trans (br hi), ⟨by rw [show gp b dy s o = e from he]; exact hk, hr⟩, rfl⟩, rfl⟩⟩)
   rcases q with ⟨_, _, _, ⟨row, hp, hr, rfl⟩, rfl⟩ | ⟨hm, ⟨x5, x6, x7, x8, rfl⟩, rfl⟩
   · generalize ht : eV row = t at *
     walk_at "hq"
     exact ⟨_, _, rfl, rfl, .inr ⟨row, hp, hr, by rw [show eV row = t from ht]⟩⟩
   · walk_at "hq"
     refine ⟨_, _, rfl, rfl, .inl ⟨rfl, fun hf => ?_⟩⟩
     obtain ⟨i, s, hi, h1, h2⟩ := (rE hne).mp hf
     exact hm (s, i) (List.mk_mem_zipIdx_iff_getElem?.mpr hi) ⟨h1, h2⟩
theorem zL (h : Ds 26 = some ca) (hE : ∀ n, oI (run G0 Ds (n + 3) 20)) : ∀ (k n : Nat), oP k (run G0 Ds (n + k + 3) 26)
 | 0, n => fun st b d dy ss o hd hn h8 => absurd hn (Nat.not_lt_zero _)
 | k + 1, n => up h (Gs (hE _) (zL h hE k n))
def Gc (f : FW) : Prop := ∀ (st : ae) (b : aq) (d : Nat) (dy : Int × Int) (ss : List aa), aJ 8 8 b → b.days[d]? = some dy → vD b ss → Wl (f [.d b.t, .d (.int d), .d (eV ss)] st) fun w σ => st = σ ∧ ((w = .d .non ∧ ¬ (ss.length ≤ 5 ∧ jU b dy none ss)) ∨ (ss.length ≤ 5 ∧ ∃ row : List aa, row.Perm ss ∧ c8 b dy none row ∧ w = .d (eV row)))
theorem DV (hN : uJ (F 14)) (hR : oP 6 (F 26)) : Gc (ax F G0 gh) := by
 intro st b d dy ss hb hd hi
 have h8 := hi.1
 refine bE rfl ?_
 unfold gh
 have L0 : ∀ σ, fJ _ [.d (eV ss)] σ = .ok _ σ := fun σ => by
  show fJ _ [.d (.tup _)] σ = _
  rw [kM, List.length_map]
 have I0 : ∀ σ, ag .seq [.d (eV ss)] σ = some _ := fun _ => rfl
 by_cases h5 : ss.length ≤ 5
 · have g0 : decide ((5 : Int) < ss.length) = false := decide_eq_false (by omega)
   obtain ⟨w, σ, R0, rfl, hw⟩ := hR st b d dy ss none hd (by omega) h8
   have R1 : F 26 [.d _, .d _, .d _, .d .non, .d (.int 0)] st = .ok w st := R0
   replace h5 : iM _ := h5
   walk_at "hq"
   generalize hX : ao _ _ _ _ _ = X
   have e := bP hX _ (by
    intro s hs
    have N0 := fun st => hN st b hb s (hi.2 s hs)
    refine aK rfl ?_
    walk_at "hq"
    exact ⟨_, _, rfl, rfl, rfl⟩)
   rw [yj] at e
   rcases (hw) with ⟨rfl, hw2⟩ | ⟨row, hp, hr, rfl⟩
   · replace hw2 : iM _ := hw2
     walk_at "hq"
     exact ⟨_, _, rfl, rfl, .inl ⟨rfl, fun h => hw2 h.2⟩⟩
   · generalize ht : eV row = t
     walk_at "hq"
     exact ⟨_, _, rfl, rfl, .inr ⟨h5, row, hp, hr, by rw [ht]⟩⟩
 · have g0 : decide ((5 : Int) < ss.length) = true := decide_eq_true (by omega)
   replace h5 : iM _ := h5
   walk_at "hq"
   exact ⟨_, _, rfl, rfl, .inl ⟨rfl, fun h => h5 h.1⟩⟩
def uU (f : FW) : Prop := ∀ (st : ae) (b : aq) (os : List (Option Int)) (d : Int), Cs b os → f [.d b.t, .d (ak os), .d (.int d)] st = .ok (.d (eV (cr (b.scenes.zip os) d))) st
theorem uo : uU (ax F G0 iZ) := by
 intro st b os d h
 have hz := h.z8
 rw [aE rfl]
 unfold iZ
 walk_at "hq"
 generalize hX : ao _ _ _ _ _ = X
 have e := bP hX (fun z => if z.2 = some d then some (.str z.1.name) else none) (by
  rintro ⟨s, o⟩ _
  refine aK rfl ?_
  by_cases ho : o = some d
  · have := decide_eq_true ho
    rw [if_pos ho]
    clear ho
    walk_at "hq"
    exact ⟨_, _, rfl, rfl, rfl⟩
  · walk_at "hq"
    exact ⟨_, _, rfl, rfl, rfl⟩)
 have e2 : (b.scenes.zip os).filterMap (fun z => if z.2 = some d then some (T.str z.1.name) else none) = (cr (b.scenes.zip os) d).map fun s => .str s.name := by
  unfold cr
  rw [List.map_filterMap]
  simp
 unfold eV
 walk_at "hq"
def Bk (b : aq) (os : List (Option Int)) (d : Nat) : Prop := ∃ dy, b.days[d]? = some dy ∧ (cr (b.scenes.zip os) d).length ≤ 5 ∧ jU b dy none (cr (b.scenes.zip os) d)
open Classical in
def dD (b : aq) (os : List (Option Int)) (d : Nat) : Bool := if Bk b os d then false else true
def bG (b : aq) (os : List (Option Int)) : T := match (List.range b.days.length).find? (dD b os) with
 | some d => .tup [.str "full", .int d]
 | none => .non
theorem tY {os} {d} {dy} (h : b.days[d]? = some dy) : dD b os d = true ↔ ¬ ((cr (b.scenes.zip os) d).length ≤ 5 ∧ jU b dy none (cr (b.scenes.zip os) d)) := by
 have e : dD b os d = true ↔ ¬ Bk b os d := by
  unfold dD
  simp
 rw [e]
 unfold Bk
 simp_all
theorem mK {os} (h : Cs b os) (d : Int) : vD b (cr (b.scenes.zip os) d) := ⟨Nat.le_trans oW h.z8, fun _ hs => Au hs⟩
def zx (f : FW) : Prop := ∀ (st : ae) (b : aq) (os : List (Option Int)), Cs b os → f [.d (.ins "Full"), .d b.t, .d (ak os)] st = .ok (.d (bG b os)) st
theorem Cu : ∀ st, ax F G0 dR [.d (.ins "Full")] st = .ok (.d (.str "full")) st := by
 intro st
 rw [aE rfl]
 unfold dR
 walk_at "hq"
theorem Ao (hO : Gc (F 27)) (hD : uU (F 34)) (hW : ∀ st, F 43 [.d (.ins "Full")] st = .ok (.d (.str "full")) st) : zx (ax F G0 cN) := by
 intro st b os h
 have d8 := h.d8
 rw [aE rfl]
 unfold cN bG
 walk_at "hq"
 generalize hX : am _ _ _ _ _ = X
 have er : rng 0 b.days.length = (List.range b.days.length).map fun (i : Nat) => T.int i := by
  unfold rng
  simp
 rw [er] at hX
 obtain ⟨ρ', q⟩ := bb (fun ρ => ∃ x3, ρ = [some _, some _, some _, x3]) _ _ hX ⟨_, rfl⟩ (by
  rintro d hd _ ⟨x3, rfl⟩
  have hl := List.mem_range.mp hd
  have D0 := fun st => hD st b os d h
  obtain ⟨w, σ, O0, rfl, hw⟩ := hO st b d _ _ h.ok (List.getElem?_eq_getElem hl) (mK h d)
  have ft := tY (os := os) (List.getElem?_eq_getElem hl)
  refine av rfl ?_
  rcases hw with ⟨rfl, hw⟩ | ⟨h5, row, hp, hr, rfl⟩
  · have e1 : iM _ := ft.mpr hw
    walk_at "hq"
    exact ⟨_, _, rfl, rfl, .inr ⟨e1, rfl⟩⟩
  · have e1 : iM (dD b os d = false) := by
     cases e : dD b os d with
     | false => rfl
     | true => exact absurd ⟨h5, row, hp, hr⟩ (ft.mp e)
    clear ft hp hr h5
    walk_at "hq"
    exact ⟨_, _, rfl, rfl, .inl ⟨e1, rfl, _, rfl⟩⟩)
 clear hX hO hD
 rcases q with ⟨d, e, rfl⟩ | ⟨e, ⟨x3, rfl⟩, rfl⟩
 · walk_at "hq"
 · walk_at "hq"
section
variable {st : ae} {os a c : List (Option Int)} {i : Nat}
theorem zF (h : i < os.length) : xD (.d (ak os)) none (some i) st = .ok (.d (ak (os.take i))) st := by
 have hl : (os.map cc).length = os.length := List.length_map _
 have e : gE (os.map cc) none (some i) = (os.take i).map cc := by
  unfold gE
  rw [HT.eU, HT.ff, List.drop_zero, Nat.sub_zero, Nat.min_eq_left (by omega), List.map_take]
 show (if HT.cE _ 0 _ = 0 ∧ HT.cE _ _ _ = (os.map _).length then ai.bad else ai.ok _ st) = _
 rw [if_neg (by rw [HT.ff]; omega), e]
 rfl
theorem zy (h : i < os.length) : xD (.d (ak os)) (some (i + 1)) none st = .ok (.d (ak (os.drop (i + 1)))) st := by
 have hl : (os.map cc).length = os.length := List.length_map _
 have hs : HT.cE (os.map cc).length 0 (some (i + 1)) = i + 1 := by
  have := HT.ff (os.map cc).length 0 (i + 1)
  rw [Int.natCast_add, Int.natCast_one] at this
  rw [this]
  omega
 have e : gE (os.map cc) (some (i + 1)) none = (os.drop (i + 1)).map cc := by
  unfold gE
  rw [HT.eU, hs, List.take_of_length_le (by simp), List.map_drop]
 show (if HT.cE _ 0 _ = 0 ∧ HT.cE _ _ _ = (os.map _).length then ai.bad else ai.ok _ st) = _
 rw [if_neg (by omega), e]
 rfl
theorem uC (h : a.length + c.length ≤ 1000) : aV .add (.d (ak a)) (.d (ak c)) st = .ok (.d (ak (a ++ c))) st := by
 show (match if (a.map _).length + (c.map _).length ≤ aS then some _ else none with | some t => fresh t st | none => .bad) = _
 rw [if_pos (pC (by simp_all)), ← List.map_append]
 rfl
theorem wS (h : i < os.length) : os.take i ++ [o] ++ os.drop (i + 1) = os.set i o := by
 rw [List.set_eq_take_append_cons_drop, if_pos h, List.append_assoc]
 rfl
theorem y6 {n : Nat} (h : n ≤ 1000) : aV .mul (.d (.tup [.non])) (.d (.int n)) st = .ok (.d (ak (List.replicate n none))) st := by
 show (match if (0 : Int) ≤ n ∧ (n : Int) ≤ 1000 then some _ else none with | some t => fresh t st | none => .bad) = _
 rw [if_pos (by omega)]
 unfold ak
 rw [List.map_replicate]
 rfl
end
def pF (f : FW) : Prop := ∀ (st : ae) (b : aq), aJ 8 8 b → f [.d b.t] st = .ok (.d (ak (List.replicate b.scenes.length none))) st
theorem rz : pF (ax F G0 gm) := by
 intro st b hb
 have s8 := hb.s8
 have m0 := fun st => y6 (st := st) (n := b.scenes.length) (by omega)
 rw [aE rfl]
 unfold gm
 walk_at "cq"
theorem nF {F : FT} {G : List T} {ρ : aD} {st : ae} {os : List _} {i} {o} (h : i < os.length) (h8 : os.length ≤ 8) : (∀ st, aV .add (.d (ak (os.take i))) (.d (.tup [cc o])) st = .ok (.d (ak (os.take i ++ [o]))) st) ∧ ∀ st, aV .add (.d (ak (os.take i ++ [o]))) (.d (ak (os.drop (i + 1)))) st = .ok (.d (ak (os.set i o))) st := by
 refine ⟨fun st => uC (c := [o]) (by rw [List.length_take]; show _ + 1 ≤ _; omega), fun st => ?_⟩
 rw [uC (by simp; omega), wS h]
def yK (f : FW) : Prop := ∀ (st : ae) (os : List (Option Int)) (i : Nat) (o : Option Int), i < os.length → os.length ≤ 8 → f [.d (ak os), .d (.int i), .d (cc o)] st = .ok (.d (ak (os.set i o))) st
theorem Ah : yK (ax F G0 oA) := by
 intro st os i o h h8
 obtain ⟨p0, p1⟩ := nF (F := F) (G := G0) (ρ := []) (st := st) (o := o) h h8
 have s0 := fun st => zF (st := st) h
 have s1 := fun st => zy (st := st) h
 rw [aE rfl]
 unfold oA
 walk_at "cq"
def Cg (b : aq) (z : aa × Option Int) : Bool := match z.2 with
 | some d => b.places.any fun p => decide (p.name = z.1.place) && decide (d ∈ p.shut)
 | none => false
def bu (b : aq) (os : List (Option Int)) : T := match (b.scenes.zip os).find? (Cg b) with
 | some z => .tup [.str "shut", .str z.1.name, cc z.2]
 | none => .non
section
variable {σ : ae} {d : Int} {D : List Int}
theorem Bh : bi .mem (.d .non) (.d (.tup (D.map T.int))) σ = .ok (.d (.bl false)) σ := jE rfl rfl (by
 show (if bo _ && (D.map _).all _ then some _ else none) = _
 rw [nJ]
 have : ((D.map T.int).any fun y => eqT y .non) = false := by
  rw [List.any_map, List.any_eq_false]
  intro x _ h
  cases h
 rw [this]
 rfl)
end
theorem mj (hb : aJ 8 8 b) {s} {d} {p} (hp : p ∈ b.places) (hn : p.name = s.place) : Cg b (s, some d) = decide (d ∈ p.shut) := by
 rw [Bool.eq_iff_iff, decide_eq_true_eq]
 show (b.places.any fun p => decide _ && decide _) = true ↔ _
 rw [List.any_eq_true]
 constructor
 · rintro ⟨q, hq, e⟩
   simp only [Bool.and_eq_true, decide_eq_true_eq] at e
   obtain ⟨i, hi⟩ := List.mem_iff_getElem?.mp hp
   obtain ⟨j, hj⟩ := List.mem_iff_getElem?.mp hq
   have := gG hb.unl.1 hi hj (by rw [hn, e.1])
   rw [this]
   exact e.2
 · intro h
   exact ⟨p, hp, by simp [hn, h]⟩
def zE (f : FW) : Prop := ∀ (st : ae) (b : aq) (os : List (Option Int)), Cs b os → f [.d (.ins "Shut"), .d b.t, .d (ak os)] st = .ok (.d (bu b os)) st
theorem B6 : mB "Shut" "shut" (ax F G0 dK) := by
 intro st
 rw [aE rfl]
 unfold dK
 walk_at "hq"
theorem B3 {ρ : aD} {st} (hW : mB "Shut" "shut" (F 35)) : aj F G0 (.mc [("Shut", 35), ("Away", 37), ("Full", 43), ("Tired", 39)] (.v 0) []) (some (.d (.ins "Shut")) :: ρ) st = .ok (.d (.str "shut")) st := hW st
theorem Cy (hN : yQ (F 17)) (hW : mB "Shut" "shut" (F 35)) : zE (ax F G0 cR) := by
 intro st b os h
 rw [aE rfl]
 unfold cR bu
 walk_at "hq"
 generalize hX : am _ _ _ _ _ = X
 obtain ⟨ρ', q⟩ := bb (fun ρ => ∃ x3 x4 x5 x6 x7, ρ = [some _, some _, some _, x3, x4, x5, x6, x7]) (Cg b) (fun z => .d (.tup [.str "shut", .str z.1.name, cc z.2])) hX ⟨_, _, _, _, _, rfl⟩ (by
  rintro ⟨s, o⟩ hz _ ⟨x3, x4, x5, x6, x7, rfl⟩
  have hs := h.ok.scenes s (List.of_mem_zip hz).1
  obtain ⟨p, hp, hn⟩ := List.mem_map.mp hs.2.1
  have N0 := fun st => hN st b h.ok p hp
  rw [hn] at N0
  have M0 := fun ρ st => B3 (ρ := ρ) (st := st) hW
  have pt : p.t = .tup _ := rfl
  rw [pt] at N0
  refine av rfl ?_
  have e0 : ∀ d, Cg b (s, some d) = decide _ := fun d => mj h.ok hp hn
  clear hX hN hW hz hs hp hn pt
  cases o with
  | none =>
   have m0 := fun σ => Bh (σ := σ) (D := p.shut)
   walk_at "hq"
   first | exact ⟨_, _, rfl, rfl, .inl ⟨rfl, rfl, _, _, _, _, _, rfl⟩⟩
  | some d =>
   have m0 := fun σ => lb (σ := σ) (d := d) (D := p.shut)
   by_cases hq : d ∈ p.shut
   · have e1 := decide_eq_true hq
     walk_at "hq"
     first | exact ⟨_, _, rfl, rfl, .inr rfl⟩
   · have e1 := decide_eq_false hq
     walk_at "hq"
     first | exact ⟨_, _, rfl, rfl, .inl ⟨rfl, _, _, _, _, _, rfl⟩⟩)
 rcases q with ⟨z, e, rfl⟩ | ⟨e, ⟨x3, x4, x5, x6, x7, rfl⟩, rfl⟩
 · walk_at "hq"
 · walk_at "hq"
def eT : T → Bool
 | .non => true
 | _ => false
theorem fH {α : Type} {l : List α} {h} {t} (h1 : l.find? h = none → t = .non) (h2 : ∀ a, l.find? h = some a → ∃ xs, t = T.tup xs) : (eT t = false ↔ ∃ a ∈ l, h a = true) ∧ (t = .non ∨ ∃ xs, t = T.tup xs) := by
 cases e : l.find? h with
 | none =>
  rw [h1 e]
  refine ⟨⟨fun z => (by cases z), fun ⟨a, ha, hh⟩ => ?_⟩, .inl rfl⟩
  simp_all
 | some a =>
  obtain ⟨xs, rfl⟩ := h2 a e
  exact ⟨⟨fun _ => ⟨a, List.mem_of_find?_eq_some e, List.find?_some e⟩, fun _ => rfl⟩, .inr ⟨xs, rfl⟩⟩
section
variable {b : aq} {os : List (Option Int)}
theorem BZ : (eT (bu b os) = false ↔ ∃ z ∈ b.scenes.zip os, Cg b z = true) ∧ (bu b os = .non ∨ ∃ xs, bu b os = T.tup xs) := fH fun e => by unfold bu; rw [e] fun a e => ⟨_, by unfold bu; rw [e]⟩
theorem CQ : (eT (bI b os) = false ↔ ∃ a ∈ b.players, (vH b os a).isSome = true) ∧ (bI b os = .non ∨ ∃ xs, bI b os = T.tup xs) := fH fun e => by unfold bI; rw [e] fun a e => ⟨_, by unfold bI; rw [e]⟩
theorem Cp : (eT (bG b os) = false ↔ ∃ d ∈ List.range b.days.length, dD b os d = true) ∧ (bG b os = .non ∨ ∃ xs, bG b os = T.tup xs) := fH fun e => by unfold bG; rw [e] fun a e => ⟨_, by unfold bG; rw [e]⟩
theorem zC : (eT (gA b os) = false ↔ ∃ a ∈ b.players, (jh b os a).isSome = true) ∧ (gA b os = .non ∨ ∃ xs, gA b os = T.tup xs) := fH fun e => by unfold gA; rw [e] fun a e => ⟨_, by unfold gA; rw [e]⟩
end
def rl (b : aq) (os : List (Option Int)) : List (Str × T) := [("Shut", bu b os), ("Away", bI b os), ("Full", bG b os), ("Tired", gA b os)]
def k7 (b : aq) (os : List (Option Int)) : T := match (rl b os).find? fun z => !eT z.2 with
 | some z => z.2
 | none => .non
def Dc (b : aq) (os : List (Option Int)) : Bool := !eT (k7 b os)
section
variable {b : aq} {os os' : List (Option Int)}
theorem lN (h : z ∈ rl b os) : z.2 = .non ∨ ∃ xs, z.2 = T.tup xs := by
 unfold rl at h
 simp only [List.mem_cons, List.not_mem_nil, or_false] at h
 rcases h with rfl | rfl | rfl | rfl
 · exact BZ.2
 · exact CQ.2
 · exact Cp.2
 · exact zC.2
theorem i7 : k7 b os = .non ∧ Dc b os = false ∨ ∃ xs, k7 b os = T.tup xs ∧ Dc b os = true := by
 unfold Dc
 have : k7 b os = .non ∨ ∃ xs, k7 b os = T.tup xs := by
  unfold k7
  cases e : (rl b os).find? fun z => !eT _ with
  | none => exact .inl rfl
  | some z => exact lN (List.mem_of_find?_eq_some e)
 rcases this with e | ⟨xs, e⟩
 · exact .inl ⟨e, by rw [e]; rfl⟩
 · exact .inr ⟨xs, e, by rw [e]; rfl⟩
end
def rY (f : FW) : Prop := ∀ st : ae, f [] st = .ok (.ref st.length) (st ++ [some [.ins "Shut", .ins "Away", .ins "Full", .ins "Tired"]])
theorem xn : rY (ax F G0 kA) := by
 intro st
 rw [aE rfl]
 unfold kA
 walk_at "hq"
def HM (f : FW) : Prop := ∀ (st : ae) (b : aq) (os : List (Option Int)), Cs b os → f [.d b.t, .d (ak os)] st = .ok (.d (k7 b os)) st
theorem IE (hR : rY (F 46)) (hS : zE (F 36)) (hA : y3 (F 38)) (hF : zx (F 44)) (hT : F2 (F 40)) : HM (ax F G0 fO) := by
 intro st b os h
 have R0 := fun st => hR st
 have M1 : ∀ z ∈ rl b os, ∀ (ρ : aD) (st : ae), aj F G0 (.mc [("Shut", 36), ("Away", 38), ("Full", 44), ("Tired", 40)] (.v 2) [.v 0, .v 1]) (some (.d b.t) :: some (.d (ak os)) :: some (.d (.ins z.1)) :: ρ) st = .ok (.d z.2) st := by
  intro z hz ρ st
  unfold rl at hz
  simp only [List.mem_cons, List.not_mem_nil, or_false] at hz
  rcases hz with rfl | rfl | rfl | rfl
  · exact hS st b os h
  · exact hA st b os h
  · exact hF st b os h
  · exact hT st b os h
 have M2 : ∀ z ∈ rl b os, z.2 = .non ∨ ∃ xs, z.2 = T.tup xs := fun z hz => lN hz
 rw [aE rfl]
 unfold fO k7
 walk_at "hq"
 generalize hX : am _ _ _ _ _ = X
 obtain ⟨ρ', q⟩ := bb (l := rl b os) (f := fun z => T.ins z.1) (fun ρ => ∃ x2 x3, ρ = [some _, some _, x2, x3]) (fun z => !eT z.2) (fun z => .d z.2) hX ⟨_, _, rfl⟩ (by
  rintro z hz _ ⟨x2, x3, rfl⟩
  have M0 := M1 z hz
  have hs := M2 z hz
  refine av rfl ?_
  obtain ⟨q, t⟩ := z
  rcases hs with rfl | ⟨xs, rfl⟩
  · walk_at "hq"
    exact ⟨_, _, rfl, rfl, .inl ⟨rfl, rfl, _, _, rfl⟩⟩
  · walk_at "hq"
    exact ⟨_, _, rfl, rfl, .inr ⟨rfl, rfl⟩⟩)
 rcases q with ⟨z, e, rfl⟩ | ⟨e, ⟨x2, x3, rfl⟩, rfl⟩
 · walk_at "hq"
 · walk_at "hq"
theorem Dt {R L : List _} {h} (hr : R.Pairwise (· < ·)) (hm : ∀ d, d ∈ L ↔ d ∈ R ∧ h d = true) : R.filter h = iz L := iL (hr.filter _) (dY _) fun y => by rw [i3, hm, List.mem_filter]
def bT (n : Nat) : List Int := (List.range n).map fun (i : Nat) => (i : Int)
theorem jS (n : Nat) : bT (n + 1) = bT n ++ [(n : Int)] := by unfold bT; rw [List.range_succ, List.map_append]; rfl
theorem rf (n : Nat) : (bT n).Pairwise (· < ·) := by
 unfold bT
 rw [List.pairwise_map]
 exact List.Pairwise.imp fun h => by omega List.pairwise_lt_range
theorem im : d ∈ bT n ↔ 0 ≤ d ∧ d < n := by
 unfold bT
 rw [List.mem_map]
 constructor
 · rintro ⟨i, hi, rfl⟩
   grind
 · intro h
   exact ⟨d.toNat, List.mem_range.mpr (by omega), by omega⟩
theorem mD (n : Nat) : (bT n).length = n := by unfold bT; simp
theorem vC (n : Nat) : rng 0 n = (bT n).map T.int := by
 unfold rng bT
 simp
theorem ll (L : List _) : bw (L.map T.int) ≤ 50 := Nat.le_trans (fh _ 0 (fun _ => Nat.le_refl _) L) (by decide)
section
variable {σ : ae} {i j : Nat} {xs : List T}
theorem nil_eq (hi : σ[i]? = some (some xs)) (hj : σ[j]? = some (some [])) (hd : bw xs ≤ 50) : bi .eq (.ref i) (.ref j) σ = .ok (.d (.bl (decide (xs.length = 0)))) σ := jE (a := .lst xs) (b := .lst []) (cW hi) (cW hj) (by
 show (if b9 (.lst xs) ≤ 60 ∧ b9 (.lst []) ≤ 60 then some (eqT (.lst xs) (.lst [])) else none) = _
 rw [if_pos ⟨by simp only [b9]; omega, by simp [b9, bw]⟩, hV])
theorem EJ {l : List aa} {P : aa → Bool} (hi : σ[i]? = some (some ((l.filter P).map aa.t))) (hj : σ[j]? = some (some [])) : bi .ne (.ref i) (.ref j) σ = .ok (.d (.bl (l.any P))) σ := jE (a := .lst ((l.filter P).map aa.t)) (b := .lst []) (cW hi) (cW hj) (by
 have := ky (l.filter P)
 show (if b9 (.lst ((l.filter P).map aa.t)) ≤ 60 ∧ b9 (.lst []) ≤ 60 then some (!eqT (.lst ((l.filter P).map aa.t)) (.lst [])) else none) = _
 rw [if_pos ⟨by simp only [b9]; omega, by simp [b9, bw]⟩, hV, List.length_map]
 congr 1
 clear hi this
 induction l with
 | nil => rfl
 | cons s l ih =>
  rw [List.filter_cons, List.any_cons]
  cases P s
  · exact ih
  · rfl)
end
theorem BM {os} (h : Cs b os) (p : Str) : (bT b.days.length).filter (fun d => (cr (b.scenes.zip os) d).any fun s => decide (p ∈ s.cast)) = wD b os p := Dt (rf _) fun d => by
 rw [Bu, im]
 exact ⟨fun hd => ⟨h.in d hd, hd⟩, (·.2)⟩
def gM (f : FW) : Prop := ∀ (st : ae) (b : aq) (os : List (Option Int)) (p : Str), Cs b os → f [.d b.t, .d (ak os), .d (.str p)] st = .ok (.ref st.length) (st ++ [some ((wD b os p).map T.int)])
theorem on {α β : Type} {step} {f} (P : β → aD → ae → Prop) (Q : ae → Prop) g r : ∀ {l : List α} {s} {ρ} {st} {X}, am [] step (l.map f) ρ st = X → P s ρ st → (∀ a ∈ l, ∀ s ρ σ, P s ρ σ → Wl (step (f a) ρ σ) fun o σ' => (∃ s', g s a = some s' ∧ o.1 = .nx ∧ P s' o.2 σ') ∨ g s a = none ∧ o.1 = .rt r ∧ Q σ') →
 ∃ ρ' σ', (∃ s', l.foldlM g s = some s' ∧ P s' ρ' σ' ∧ X = .ok (.nx, ρ') σ') ∨ l.foldlM g s = none ∧ Q σ' ∧ X = .ok (.rt r, ρ') σ'
 | [], s, ρ, st, _, hx, p, _ => ⟨ρ, st, .inl ⟨s, rfl, p, by rw [← hx]; rfl⟩⟩
 | a :: l, s, ρ, st, _, hx, p, hp => by
  obtain ⟨⟨fl, ρ'⟩, σ', e, h1⟩ := hp a List.mem_cons_self s ρ st p
  rw [List.map_cons] at hx
  simp only [am] at hx
  rw [e] at hx
  rcases h1 with ⟨s', hg, rfl, p'⟩ | ⟨hg, rfl, q⟩
  · obtain ⟨ρ2, σ2, h2⟩ := on P Q g r hx p' fun a ha => hp a (List.mem_cons_of_mem _ ha)
    grind
  · exact ⟨ρ', σ', .inr ⟨by grind, q, hx.symm⟩⟩
def AY (b : aq) (os : List (Option Int)) (i : Nat) (d : Int) : Bool := !Dc b (os.set i (some d))
def vq (b : aq) (os : List (Option Int)) (i : Nat) : Option (List (Option Int)) := ((bT b.days.length).find? (AY b os i)).map fun d => os.set i (some d)
def BU (b : aq) : Option (List (Option Int)) := (List.range b.scenes.length).foldlM (vq b) (List.replicate b.scenes.length none)
def resT (o : Option (List (Option Int))) : T := match o with
 | some os => ak os
 | none => .non
theorem aJ.wide {m n} (h : aJ m n b) (hm : m ≤ 8) (hn : n ≤ 8) : aJ 8 8 b := ⟨h.crew, h.move, h.d1, by have := h.d2; omega, h.p8, h.q8, by have := h.s8; omega, h.days, h.places, h.players, h.scenes, h.unl⟩
theorem Cs.put {os} (h : Cs b os) i {o : Option Int} (ho : ∀ d, o = some d → 0 ≤ d ∧ d < b.days.length) : Cs b (os.set i o) := by
 refine ⟨h.ok, by rw [List.length_set]; exact h.len, fun q hq => ?_⟩
 rcases List.mem_or_eq_of_mem_set hq with q | rfl
 · exact h.days _ q
 · exact ho
theorem vy {os os'} {i} (h : Cs b os) (e : vq b os i = some os') : Cs b os' ∧ ∃ d, os' = os.set i (some d) := by
 obtain ⟨d, hd, rfl⟩ := Option.map_eq_some_iff.mp e
 have := im.mp (List.mem_of_find?_eq_some hd)
 exact ⟨h.put i (by simp_all), d, rfl⟩
theorem pk : ∀ {n} {os os'}, Cs b os → n ≤ os.length → (List.range n).foldlM (vq b) os = some os' → Cs b os' ∧ os'.length = os.length ∧ ∀ i, i < n → ∃ d, os'[i]? = some (some d)
 | 0, os, os', h, _, e => by
  grind
 | n + 1, os, os', h, hn, e => by
  rw [List.range_succ, List.foldlM_append] at e
  obtain ⟨os1, e1, e2⟩ := Option.bind_eq_some_iff.mp e
  obtain ⟨h1, h2, h3⟩ := pk h (by omega) e1
  obtain ⟨os2, e3, e4⟩ := Option.bind_eq_some_iff.mp e2
  cases e4
  obtain ⟨h4, d, rfl⟩ := vy h1 e3
  refine ⟨h4, by grind, fun i hi => ?_⟩
  by_cases hin : n = i
  · subst hin
    exact ⟨d, List.getElem?_set_self (by omega)⟩
  · rw [List.getElem?_set_ne hin]
    exact h3 i (by omega)
theorem pI n : rng 0 n = (List.range n).map fun (i : Nat) => T.int i := by
 unfold rng
 simp
theorem DI {n : Nat} {st} (h : n ≤ 1000) : wX (.d (.int n)) st = .ok (.d (.tup ((bT n).map T.int))) st := by
 show (if (0 : Int) ≤ n ∧ (n : Int) ≤ 1000 then ai.ok _ st else .bad) = _
 rw [if_pos (by omega), Int.toNat_natCast, vC]
theorem kI (hb : aJ 8 8 b) : Cs b (List.replicate b.scenes.length none) := ⟨hb, List.length_replicate, fun o ho d e => by simp_all⟩
local macro_rules | `(tactic| walk_at "hq") => do { let ls ← ((I.ws (Hd.yM ++ " ub rV fM fR lW kz o8 sP IK B5 yS pO rZ Bq mV om iJ g9 jb iC iE ip iU iA gY ii i8 lz nq iy nD m8 iu il iQ iX iP gU C7 nR p5 o3 Gg jV jW du sV ui qV BH nP jJ jK jm CZ C6 qB js qC List.all_cons List.all_nil Bool.and_self and_true xF wt oY pW pV pc kn and_self true_and pG pj nh")).mapM fun n => `(Lean.Parser.Tactic.simpLemma| $(Lean.mkIdent n):term)); `(tactic| simp (disch := walk_at "dq") only [$[$ls:simpLemma],*, *]) }
def pM (f : FW) : Prop := ∀ (st : ae) (b : aq), b.days.length ≤ 8 → f [.d b.t] st = .ok (.d (.tup ((bT b.days.length).map T.int))) st
theorem nc : pM (ax F G0 eE) := by
 intro st b h8
 have t0 := fun st => DI (n := b.days.length) (st := st) (by omega)
 rw [aE rfl]
 unfold eE
 walk_at "hq"
def pL (f : FW) : Prop := ∀ (st : ae) (b : aq) (os : List (Option Int)) (i : Nat), Cs b os → i < os.length → f [.d b.t, .d (ak os), .d (.int i)] st = .ok (.d (resT (vq b os i))) st
theorem kW (hD : pM (F 68)) (hL : yK (F 32)) (hB : HM (F 47)) : pL (ax F G0 dz) := by
 intro st b os i h hi
 have s8 := h.s8
 have D0 := fun st => hD st b h.d8
 have hlen := h.len
 rw [aE rfl]
 unfold dz vq
 walk_at "hq"
 generalize hX : am _ _ _ _ _ = X
 obtain ⟨ρ', q⟩ := bb (fun ρ => ∃ x3 x4, ρ = [some _, some _, some _, x3, x4]) (AY b os i) _ hX ⟨_, _, rfl⟩ (by
  rintro d hd _ ⟨x3, x4, rfl⟩
  have hd := im.mp hd
  have L0 : ∀ st, F 32 [.d _, .d _, .d (.int d)] st = .ok _ st := fun st => hL st os i (some d) hi (by omega)
  have B0 := fun st => hB st b (os.set i (some d)) (h.put i (by simp_all))
  have sh := i7 (b := b) (os := os.set i (some d))
  refine av rfl ?_
  unfold AY
  rcases sh with ⟨e1, e2⟩ | ⟨xs, e1, e2⟩
  · walk_at "hq"
    exact ⟨_, _, rfl, rfl, .inr rfl⟩
  · walk_at "hq"
    exact ⟨_, _, rfl, rfl, .inl ⟨rfl, _, _, rfl⟩⟩)
 rcases q with ⟨d, e, rfl⟩ | ⟨e, ⟨x3, x4, rfl⟩, rfl⟩
 · rw [e]
   show _ = ai.ok (W.d (ak _)) st
   walk_at "hq"
 · rw [e]
   show _ = ai.ok (W.d .non) st
   walk_at "hq"
def oi (f : FW) : Prop := ∀ (st : ae) (b : aq), aJ 8 8 b → f [.d b.t] st = .ok (.d (resT (BU b))) st
theorem wK (hN : pF (F 61)) (hL : pL (F 104)) : oi (ax F G0 dH) := by
 intro st b hb
 have s8 := by have := hb.s8; omega
 have N0 := fun st => hN st b hb
 have c0 := kI hb
 have L0 : fJ .len [.d (ak (List.replicate b.scenes.length none))] st = .ok (.d (.int b.scenes.length)) st := by
  unfold ak
  rw [kM, List.length_map, List.length_replicate]
 rw [aE rfl]
 unfold dH BU
 walk_at "hq"
 generalize hX : am _ _ _ _ _ = X
 rw [pI] at hX
 obtain ⟨ρ', _, q⟩ := on (fun os ρ σ => ∃ x2, ρ = [some _, some (.d (ak os)), x2] ∧ st = σ ∧ Cs b os) _ (vq b) _ hX ⟨_, rfl, rfl, c0⟩ (by
  rintro i hi os _ _ ⟨x2, rfl, rfl, h⟩
  have hi := List.mem_range.mp hi
  have L0 := fun st => hL st b os i h (by rw [h.len]; exact hi)
  have li := fun os' => vy (os' := os') (i := i) h
  refine av rfl ?_
  cases e : vq b os i with
  | none =>
   walk_at "hq"
   exact ⟨_, _, rfl, .inr ⟨rfl, rfl⟩⟩
  | some os' =>
   have h2 := (li _ e).1
   walk_at "hq"
   exact ⟨_, _, rfl, .inl ⟨os', rfl, rfl, _, rfl, rfl, h2⟩⟩)
 clear hX hL N0
 rcases q with ⟨os', e, ⟨x2, rfl, rfl, h⟩, rfl⟩ | ⟨e, rfl, rfl⟩
 · rw [e]
   show _ = ai.ok (W.d (ak _)) st
   walk_at "hq"
 · rw [e]
   show _ = ai.ok (W.d .non) st
   walk_at "hq"
theorem lF {α : Type} : ∀ {row ss : List α}, row.Nodup → (∀ x ∈ row, x ∈ ss) → ss.length ≤ row.length → row.Perm ss
 | [], ss, _, _, h => by simp_all
 | a :: row, ss, hn, hs, h => by
  obtain ⟨h1, h2⟩ := List.nodup_cons.mp hn
  obtain ⟨s1, s2, rfl⟩ := List.append_of_mem (hs a List.mem_cons_self)
  have ih := lF (ss := s1 ++ s2) h2 fun x hx => by
   have := hs x (List.mem_cons_of_mem _ hx)
   rcases List.mem_append.mp this with q | q
   · grind
   · rcases List.mem_cons.mp q with rfl | q
     · exact absurd hx h1
     grind (by simp only [List.length_append, List.length_cons] at h ⊢; omega)
  exact ((List.perm_cons a).mpr ih).trans List.perm_middle.symm
theorem uG (hb : aJ 8 8 b) : b.scenes.Nodup := by
 refine List.pairwise_iff_getElem.mpr fun i j hi hj hij e => ?_
 have := hb.unl.2.2 i j (by simp_all) (by simp_all) (by simp_all)
 omega
theorem rM (hb : aJ 8 8 b) (os) d : (cr (b.scenes.zip os) d).Nodup := by
 have key : ∀ (ss) (os), (cr (ss.zip os) d).Sublist ss := by
  intro ss
  induction ss with
  | nil => intro os; exact List.Sublist.refl _
  | cons s ss ih =>
   intro os
   cases os with
   | nil => exact List.nil_sublist _
   | cons o os =>
    unfold cr at ih ⊢
    rw [List.zip_cons_cons, List.filterMap_cons]
    split
    · exact (ih os).cons _
    grind
 exact (uG hb).sublist (key _ _)
def lw (s : aa) (row : List aa) : Bool := !(row.map aa.t).any fun y => eqT y s.t
theorem mo (hb : aJ 8 8 b) {s s'} (h : s ∈ b.scenes) (h' : s' ∈ b.scenes) : eqT s'.t s.t = true ↔ s' = s := by
 constructor
 · intro e
   have hn := by
    have e : gC _ _ = true := e
    simp only [gC, Bool.and_eq_true] at e
    exact eq_of_beq e.1
   obtain ⟨i, hi⟩ := List.mem_iff_getElem?.mp h'
   obtain ⟨j, hj⟩ := List.mem_iff_getElem?.mp h
   exact gG hb.unl.2.2 hi hj hn
 · rintro rfl
   exact fB _
theorem pJ (hb : aJ 8 8 b) {s} {row} (h : s ∈ b.scenes) (hr : ∀ x ∈ row, x ∈ b.scenes) : lw s row = true ↔ s ∉ row := by
 unfold lw
 rw [List.any_map, Bool.not_eq_true', List.any_eq_false]
 constructor
 · intro k hm
   exact k s hm ((mo hb h h).mpr rfl)
 · intro k x hx e
   exact k ((mo hb h (hr x hx)).mp e ▸ hx)
def bF (ss row : List aa) : List (List aa) := (ss.filter fun s => lw s row).map fun s => row ++ [s]
open Classical in
def cU (b : aq) (dy : Int × Int) (row : List aa) : Bool := if c8 b dy none row then true else false
theorem mr : cU b dy row = true ↔ c8 b dy none row := by
 unfold cU
 simp
def bU (b : aq) (dy : Int × Int) (ss : List aa) : Nat → List (List aa)
 | 0 => [[]]
 | k + 1 => ((bU b dy ss k).flatMap (bF ss)).filter (cU b dy)
theorem fE : ∀ {R : List _}, ss.length ≤ 5 → (R.flatMap (bF ss)).length ≤ 5 * R.length
 | [], _ => Nat.zero_le _
 | r :: R, h => by
  rw [List.flatMap_cons, List.length_append, List.length_cons]
  have h1 : (bF ss r).length ≤ 5 := by
   unfold bF
   grind
  have := fE (R := R) h
  omega
theorem l5 (h : ss.length ≤ 5) : ∀ k, (bU b dy ss k).length ≤ 5 ^ k
 | 0 => Nat.le_refl _
 | k + 1 => by
  have h1 := l5 (b := b) (dy := dy) h k
  have h2 := fE (R := bU b dy ss k) h
  unfold bU
  have h3 := List.length_filter_le (cU b dy) ((bU b dy ss k).flatMap (bF ss))
  omega
theorem eP {b : aq} {dy : Int × Int} {ss : List aa} (hb : aJ 8 8 b) (hs : ∀ s ∈ ss, s ∈ b.scenes) : ∀ (k : Nat) (row : List aa), row ∈ bU b dy ss k ↔ row.Nodup ∧ (∀ x ∈ row, x ∈ ss) ∧ row.length = k ∧ c8 b dy none row
 | 0, row => by
  unfold bU
  rw [List.mem_singleton]
  constructor
  · rintro rfl
    exact ⟨List.nodup_nil, (fun x h => nomatch h), rfl, trivial⟩
  grind
 | k + 1, row => by
  unfold bU
  rw [List.mem_filter, List.mem_flatMap, mr]
  constructor
  · rintro ⟨⟨r, hr, hg⟩, ho⟩
    obtain ⟨h1, h2, h3, _⟩ := (eP hb hs k r).mp hr
    obtain ⟨s, hf, rfl⟩ := List.mem_map.mp hg
    obtain ⟨hm, hn⟩ := List.mem_filter.mp hf
    have hn := (pJ hb (hs s hm) fun x hx => hs x (h2 x hx)).mp hn
    refine ⟨List.nodup_append.mpr ⟨h1, List.nodup_cons.mpr ⟨nofun, List.nodup_nil⟩, fun a ha c hc e => ?_⟩, fun x hx => ?_, by grind, ho⟩
    · grind
    · rcases List.mem_append.mp hx with q | q
      · exact h2 x q
      grind
  · rintro ⟨h1, h2, h3, ho⟩
    refine ⟨?_, ho⟩
    obtain ⟨r, s, rfl⟩ : ∃ r s, row = r ++ [s] := by
     have hne : row ≠ [] := fun e => by rw [e] at h3; cases h3
     exact ⟨_, row.getLast hne, (List.dropLast_concat_getLast _).symm⟩
    obtain ⟨n1, n2, n3⟩ := List.nodup_append.mp h1
    have hsn := fun h => n3 s h s List.mem_cons_self rfl
    have hm := h2 s (List.mem_append_right _ List.mem_cons_self)
    refine ⟨r, (eP hb hs k r).mpr ⟨n1, fun x hx => h2 x (List.mem_append_left _ hx), by grind, io ho⟩, ?_⟩
    exact List.mem_map.mpr ⟨s, List.mem_filter.mpr ⟨hm, (pJ hb (hs s hm) fun x hx => hs x (h2 x (List.mem_append_left _ hx))).mpr hsn⟩, rfl⟩
theorem sG {ss} (hb : aJ 8 8 b) (hs : ∀ s ∈ ss, s ∈ b.scenes) (hn : ss.Nodup) : bU b dy ss ss.length ≠ [] ↔ jU b dy none ss := by
 constructor
 · intro h
   obtain ⟨row, hr⟩ := List.exists_mem_of_ne_nil _ h
   obtain ⟨h1, h2, h3, h4⟩ := (eP hb hs _ _).mp hr
   exact ⟨row, lF h1 h2 (by omega), h4⟩
 · rintro ⟨row, hp, ho⟩
   exact List.ne_nil_of_mem ((eP hb hs _ _).mpr ⟨hp.nodup_iff.mpr hn, fun x hx => hp.mem_iff.mp hx, hp.length_eq, ho⟩)
theorem yc {α : Type} {f g} {l : List α} {k} {st} (h : st[k]? = some (some (l.map g))) : ag .zp [.d (.lst (l.map f)), .ref k] st = some (l.map fun a => .tup [f a, g a], [(k, l.map g)]) := by
 have e : cD (.ref k) st = some (l.map g, [(k, l.map g)]) := by unfold cD; simp only [h]
 show (match cD _ st, cD _ st with
  | some p, some q => if aT _ = aT _ then some _ else none
  | _, _ => none) = _
 rw [e]
 show some _ = _
 rw [List.zip_map', List.map_map]
 rfl
theorem wA (hk : σ[k]? = some (some xs)) : dv [(k, xs)] σ = true := by
 unfold dv
 rw [List.all_cons, hk]
 show gw xs xs && true = true
 rw [ck]
 rfl
def aN (R : List (List aa)) : List T := R.map fun row => .lst (row.map aa.t)
def uB (f : FW) : Prop := ∀ (st : ae) (b : aq) (d : Nat) (dy : Int × Int) (row : List aa), aJ 8 8 b → b.days[d]? = some dy → row.length ≤ 8 → Wl (f [.d b.t, .d (.int d), .d (.lst (row.map aa.t))] st) fun w σ => st = σ ∧ ((w = .d .non ∧ cU b dy row = true) ∨ ((∃ xs, w = .d (.tup xs)) ∧ cU b dy row = false))
theorem wj {F : FT} (hE : yT (F 56)) : uB (ax F G0 f9) := by
 intro st b d dy row hb hd h8
 have D0 := kq hd
 have E0 := fun st => hE st b d dy row hb hd h8
 have hf : row.map aa.t = (mT b dy row).map fun r => r.1.t := by
  have := congrArg (List.map aa.t) (kH b dy row)
  rw [List.map_map] at this
  exact this.symm
 have ok : cU b dy row = (mT b dy row).all fun r => cB dy r.1 r.2.2 := by
  rw [Bool.eq_iff_iff, mr, List.all_eq_true, v7]
 refine bE rfl ?_
 unfold f9
 rw [ok]
 simp only [hf] at E0 ⊢
 generalize mT b dy row = rs at *
 have Z0 := yc (f := fun r : Tm => r.1.t) (g := lh) (l := rs) (k := st.length) (st := st ++ [some (rs.map lh)]) a9
 clear hE hf ok
 walk_at "hq"
 generalize hX : am _ _ _ _ _ = X
 obtain ⟨ρ', σ', q⟩ := cg (fun ρ σ => ∃ x5 x6, ρ = [some (.d b.t), some (.d (.int d)), some (.d (.lst (rs.map fun r => r.1.t))), some (.d (.int dy.1)), some (.d (.int dy.2)), x5, x6] ∧ σ = st ++ [some (rs.map lh)]) (fun σ => σ = st ++ [some (rs.map lh)]) (fun r : Tm => !cB dy r.1 r.2.2) (fun r : Tm => .d (cu dy r.1 r.2.2)) (by rintro _ _ ⟨x5, x6, rfl, rfl⟩; exact wA a9) hX ⟨_, _, rfl, rfl⟩ (by
  rintro ⟨s, z, e⟩ _ _ _ ⟨x5, x6, rfl, rfl⟩
  have su : ("sun" : Str) = Str.ofString "sun" := rfl
  have I2 : ∀ σ, eM (.d (lh (s, z, e))) (.d (.int 2)) σ = .ok (.d (.int e)) σ := fun _ => rfl
  refine av rfl ?_
  clear hX E0 Z0 D0
  generalize st ++ [some (rs.map lh)] = σ at *
  dsimp only
  obtain ⟨v, hv⟩ : ∃ v, cB dy s e = v := ⟨_, rfl⟩
  obtain ⟨t, ht⟩ : ∃ t, cu dy s e = t := ⟨_, rfl⟩
  rw [hv, ht]
  replace hv : iM _ := hv
  replace ht : iM _ := ht
  by_cases h1 : s.word = "sun" <;> by_cases h2 : dy.2 < e <;> by_cases h3 : dy.1 < e <;> (walk_at "hq"; refine ⟨_, _, rfl, ?_⟩; obtain rfl : cB dy s e = v := hv; obtain rfl : cu dy s e = t := ht; simp [cB, cu, h1, h2, h3]))
 clear hX E0 Z0
 rcases q with ⟨r, e, rfl, rfl⟩ | ⟨e, ⟨x5, x6, rfl, rfl⟩, rfl⟩
 · have hk := List.find?_some e
   have hm := List.mem_of_find?_eq_some e
   have hk : cB dy r.1 r.2.2 = false := by simpa using hk
   have ha : iM ((rs.all fun r => cB dy r.1 r.2.2) = false) := by
    show (rs.all fun r => cB dy r.1 r.2.2) = false
    cases h : rs.all fun r => cB dy r.1 r.2.2 with
    | false => rfl
    | true => rw [List.all_eq_true.mp h r hm] at hk; cases hk
   have hx : iM (∃ xs, cu dy r.1 r.2.2 = .tup xs) := by
    show ∃ xs, cu dy r.1 r.2.2 = .tup xs
    by_cases hn : cu dy r.1 r.2.2 = .non
    · rw [jR.mp hn] at hk; cases hk
    · unfold cu at hn ⊢
      split
      · exact ⟨_, rfl⟩
      simp_all
   obtain ⟨xs, hx⟩ := hx
   walk_at "hq"
   exact ⟨_, _, rfl, rfl, .inr ⟨⟨_, rfl⟩, ha⟩⟩
 · have ha : iM ((rs.all fun r => cB dy r.1 r.2.2) = true) := List.all_eq_true.mpr fun r hr => by
    have := List.find?_eq_none.mp e r hr
    simpa using this
   walk_at "hq"
   exact ⟨_, _, rfl, rfl, .inl ⟨rfl, ha⟩⟩
theorem uX R : bw (aN R) ≤ 51 := by
 unfold aN
 induction R with
 | nil => exact Nat.zero_le _
 | cons r R ih =>
  have := ky r
  rw [List.map_cons]
  simp only [bw, b9]
  omega
theorem wE {σ} : m7 (.d s.t) (.d (.lst (row.map aa.t))) σ = .ok (.d (.bl (lw s row))) σ := by
 have h1 := ky row
 have h2 := ky [s]
 have h3 : bw ([s].map aa.t) = max _ 0 := rfl
 show (if b9 _ ≤ 60 ∧ bw _ ≤ 59 then _ else _) = _
 rw [if_pos ⟨by omega, by omega⟩]
 rfl
theorem vT {R : List (List aa)} {σ : ae} {j : Nat} (hj : σ[j]? = some (some [])) : bi .ne (.d (.lst (aN R))) (.ref j) σ = .ok (.d (.bl (!decide (R = [])))) σ := jE (a := .lst (aN R)) (b := .lst []) rfl (cW hj) (by
 have := uX R
 show (if b9 (.lst (aN R)) ≤ 60 ∧ b9 (.lst []) ≤ 60 then some (!eqT (.lst (aN R)) (.lst [])) else none) = _
 rw [if_pos ⟨by simp only [b9]; omega, by simp [b9, bw]⟩, hV]
 congr 3
 unfold aN
 rw [List.length_map]
 cases R <;> simp)
theorem qW (R S) : aN R ++ aN S = aN (R ++ S) := List.map_append.symm
def uW (f : FW) : Prop := ∀ (st : ae) (b : aq) (d : Nat) (dy : Int × Int) (ss : List aa), aJ 8 8 b → b.days[d]? = some dy → vD b ss → ss.Nodup → Wl (f [.d b.t, .d (.int d), .d (.lst (ss.map aa.t))] st) fun w σ => st = σ ∧ ∃ v : Bool, w = .d (.bl v) ∧ (v = true ↔ ss.length ≤ 5 ∧ jU b dy none ss)
theorem Ce {F : FT} (hS : uB (F 60)) : uW (ax F G0 fF) := by
 intro st b d dy ss hb hd hi hn
 suffices h : Wl (ax F G0 fF [.d b.t, .d (.int d), .d (.lst (ss.map aa.t))] st) fun w σ => st = σ ∧ w = .d (.bl (decide (ss.length ≤ 5) && !decide (bU b dy ss ss.length = []))) by
  obtain ⟨w, σ, e, rfl, rfl⟩ := h
  refine ⟨_, _, e, rfl, _, rfl, ?_⟩
  rw [← sG hb hi.2 hn]
  simp
 have h8 := hi.1
 refine bE rfl ?_
 unfold fF
 by_cases h5 : ss.length ≤ 5
 · have g0 : decide ((5 : Int) < ss.length) = false := decide_eq_false (by omega)
   have g1 : decide (ss.length ≤ 5) = true := decide_eq_true h5
   rw [g1]
   walk_at "hq"
   generalize hX : am _ _ _ _ _ = X
   obtain ⟨_, _, ⟨x4, x5, x6, rfl, rfl⟩, rfl⟩ := dw hX (fun i ρ σ => ∃ x4 x5 x6, ρ = [some (.d b.t), some (.d (.int d)), some (.d (.lst (ss.map aa.t))), some (.d (.lst (aN (bU b dy ss i)))), x4, x5, x6] ∧ st = σ) ⟨none, none, none, rfl, rfl⟩ (by
    rintro i y _ _ hy ⟨x4, x5, x6, rfl, rfl⟩
    obtain ⟨hi2, rfl⟩ := eO hy
    have rl := l5 (b := b) (dy := dy) h5 i
    have i5 : 5 ^ i ≤ 5 ^ 5 := Nat.pow_le_pow_right (by decide) (by omega)
    have hsub := fun row => eP (dy := dy) hb hi.2 i row
    rw [show bU b dy ss (i + 1) = ((bU b dy ss i).flatMap (bF ss)).filter (cU b dy) from rfl]
    generalize bU b dy ss i = R at *
    have I0 : ∀ σ, ag .seq [.d (.lst (aN R))] σ = some (R.map fun row => .lst (row.map aa.t), []) := fun _ => rfl
    refine av rfl ?_
    clear hX hy
    walk_at "hq"
    generalize hY : am _ _ _ _ _ = Y
    obtain ⟨_, _, ⟨x6, rfl, rfl⟩, rfl⟩ := dw hY (fun j ρ σ => ∃ x6, ρ = [some (.d b.t), some (.d (.int d)), some (.d (.lst (ss.map aa.t))), some (.d (.lst (aN R))), some (.d (.int i)), some (.d (.lst (aN ((R.take j).flatMap (bF ss))))), x6] ∧ st = σ) ⟨x6, rfl, rfl⟩ (by
     rintro j y _ _ hy ⟨x6, rfl, rfl⟩
     obtain ⟨row, hj, hm, hjl, rfl⟩ := ju hy
     have hr := (hsub row).mp hm
     have r5 : row.length ≤ 5 := by omega
     have gl := fE (R := R.take j) h5
     have tl : (R.take j).length ≤ R.length := by rw [List.length_take]; omega
     have g5 : (bF ss row).length ≤ 5 := by
      unfold bF
      rw [List.length_map]
      exact Nat.le_trans (List.length_filter_le _ _) h5
     rw [gq hj, List.flatMap_append, List.flatMap_cons, List.flatMap_nil, List.append_nil, ← qW]
     generalize (R.take j).flatMap (bF ss) = acc at *
     have lm : (aN acc).length + (aN (bF ss row)).length ≤ aS := by
      unfold aN aS
      rw [List.length_map, List.length_map]
      omega
     have A0 := kY (x := .d (.lst (aN acc))) (y := .ref st.length) (st := st ++ [some (aN (bF ss row))]) rfl (du a9) lm
     rw [List.length_append, List.append_assoc] at A0
     refine av rfl ?_
     clear hY hy hsub I0 hj hm tl gl rl i5 hS
     walk_at "hq"
     generalize hZ : ao _ _ _ _ _ = Z
     have e := bP hZ (fun s => if lw s row then some (.lst ((row ++ [s]).map aa.t)) else none) (by
      intro s hs
      have n0 := fun σ => wE (σ := σ) (s := s) (row := row)
      have B0 := kY (x := .d (.lst (row.map aa.t))) (y := .ref st.length) (xs := row.map aa.t) (ys := [s.t]) (st := st ++ [some [s.t]]) rfl (du a9) (pC (by rw [List.length_map]; show _ + 1 ≤ _; omega))
      have e1 : (row ++ [s]).map aa.t = row.map aa.t ++ [s.t] := by rw [List.map_append]; rfl
      rw [List.length_append, List.append_assoc] at B0
      rw [e1]
      generalize row.map aa.t = rt at *
      refine aK rfl ?_
      clear hZ A0 lm e1 hr
      cases hk : lw s row with
      | true =>
       rw [hk] at n0
       rw [if_pos rfl]
       clear hk
       walk_at "hq"
       exact ⟨_, _, rfl, rfl, rfl⟩
      | false =>
       rw [hk] at n0
       rw [if_neg (by decide)]
       clear hk
       walk_at "hq"
       exact ⟨_, _, rfl, rfl, rfl⟩)
     rw [jM (fun s => lw s row) (fun s => T.lst ((row ++ [s]).map aa.t))] at e
     have e2 : (ss.filter fun s => lw s row).map (fun s => T.lst ((row ++ [s]).map aa.t)) = aN (bF ss row) := by
      unfold bF aN
      rw [List.map_map]
      rfl
     rw [e2] at e
     generalize aN (bF ss row) = nw at *
     generalize aN acc = ac at *
     clear hZ lm e2 g5 r5 hr
     walk_at "hq"
     exact ⟨_, _, rfl, rfl, _, rfl, rfl⟩)
    rw [List.length_map, List.take_length]
    have gl := fE (R := R) h5
    have hrow : ∀ row ∈ R.flatMap (bF ss), row.length ≤ 8 := by
     intro row hrw
     obtain ⟨r, hr, hg⟩ := List.mem_flatMap.mp hrw
     have := ((hsub r).mp hr).2.2.1
     unfold bF at hg
     obtain ⟨s, _, rfl⟩ := List.mem_map.mp hg
     rw [List.length_append]
     show r.length + 1 ≤ 8
     omega
    generalize R.flatMap (bF ss) = L at *
    have lm : (aN L).length ≤ aS := by
     unfold aN aS
     rw [List.length_map]
     omega
    have I1 : ∀ σ, ag .seq [.d (.lst (aN L))] σ = some (L.map fun row => .lst (row.map aa.t), []) := fun _ => rfl
    have lm2 : (L.map fun row => T.lst (row.map aa.t)).length ≤ aS := lm
    clear hY I0 hsub rl i5 gl
    walk_at "hq"
    generalize hZ : ao _ _ _ _ _ = Z
    have e := bP hZ (fun row => if cU b dy row then some (.lst (row.map aa.t)) else none) (by
     intro row hrw
     obtain ⟨w, σ, S0, rfl, hw⟩ := hS st b d dy row hb hd (hrow row hrw)
     refine aK rfl ?_
     clear hZ I1 lm lm2 hS
     rcases hw with ⟨rfl, hk⟩ | ⟨⟨xs, rfl⟩, hk⟩
     · rw [hk, if_pos rfl]
       clear hk
       walk_at "hq"
       exact ⟨_, _, rfl, rfl, rfl⟩
     · rw [hk, if_neg (by decide)]
       clear hk
       walk_at "hq"
       exact ⟨_, _, rfl, rfl, rfl⟩)
    rw [jM (cU b dy) (fun row => T.lst (row.map aa.t))] at e
    have e2 : (L.filter (cU b dy)).map (fun row => T.lst (row.map aa.t)) = aN (L.filter (cU b dy)) := rfl
    rw [e2] at e
    generalize aN (L.filter (cU b dy)) = nw at *
    generalize aN L = ac at *
    clear hZ lm lm2 e2 hrow
    walk_at "hq"
    exact ⟨_, _, rfl, rfl, _, _, _, rfl, rfl⟩)
   clear hX
   rw [bN]
   have N0 := vT (R := bU b dy ss ss.length) (σ := st ++ [some []]) (j := st.length) a9
   generalize aN (bU b dy ss ss.length) = rt at *
   generalize decide (bU b dy ss ss.length = []) = v at *
   walk_at "hq"
   exact ⟨_, _, rfl, rfl, by rw [Bool.true_and]⟩
 · have g0 : decide ((5 : Int) < ss.length) = true := decide_eq_true (by omega)
   have g1 : decide (ss.length ≤ 5) = false := decide_eq_false h5
   rw [g1, Bool.false_and]
   clear h5
   walk_at "hq"
   exact ⟨_, _, rfl, rfl, rfl⟩
section
variable {σ : ae} {D : List Int} {d : Int} {k : Nat}
theorem we (hk : σ[k]? = some (some (D.map T.int))) : bi .nmem (.d (.int d)) (.ref k) σ = .ok (.d (.bl (!decide (d ∈ D)))) σ := jE (a := .int d) (b := .lst (D.map T.int)) rfl (cW hk) (by
 show (if bo (.int d) && (D.map T.int).all bo then some (!(D.map T.int).any fun y => eqT y (.int d)) else none) = _
 rw [j5, nJ]
 rfl)
theorem vp (hk : σ[k]? = some (some (D.map T.int))) : ag .seq [.ref k] σ = some (D.map T.int, [(k, D.map T.int)]) := by
 show (match σ[k]? with | some (some xs) => some _ | _ => none) = _
 rw [hk]
theorem lU (hk : σ[k]? = some (some (D.map T.int))) : dv [(k, D.map T.int)] σ = true := by
 unfold dv
 rw [List.all_cons, hk]
 show gw _ _ && true = true
 rw [ck]
 rfl
end
theorem uL {r} {d} : decide (((bT (r + 1)).filter fun k => !decide (d - k ∈ D)).length = 0) = bn D r d := by
 unfold bn bT
 generalize List.range _ = l
 induction l with
 | nil => rfl
 | cons x l ih =>
  simp_all
def yR (f : FW) : Prop := ∀ (st : ae) (b : aq) (os : List (Option Int)), Cs b os → f [.d b.t, .d (ak os)] st = .ok (.d (gA b os)) st
section
variable {b : aq} {os : List (Option Int)}
theorem HH (h : eT (bu b os) = false) : k7 b os = bu b os := by
 unfold k7 rl
 grind
theorem HN (h1 : bu b os = .non) (h2 : eT (bI b os) = false) : k7 b os = bI b os := by
 unfold k7 rl
 rw [h1, List.find?_cons, List.find?_cons]
 rw [h2]
 rfl
theorem IB (h1 : bu b os = .non) (h2 : bI b os = .non) (h3 : eT (bG b os) = false) : k7 b os = bG b os := by
 unfold k7 rl
 rw [h1, h2, List.find?_cons, List.find?_cons, List.find?_cons]
 rw [h3]
 rfl
theorem Jk (h1 : bu b os = .non) (h2 : bI b os = .non) (h3 : bG b os = .non) : k7 b os = gA b os := by
 unfold k7 rl
 rw [h1, h2, h3]
 rcases zC |>.2 with e | ⟨xs, e⟩ <;> rw [e] <;> rfl
end
def AN (f : FW) : Prop := ∀ (st : ae) (b : aq) (os : List (Option Int)), Cs b os → f [.d b.t, .d (ak os)] st = .ok (.d (k7 b os)) st
theorem uZ {F : FT} (hT : kr (F 70)) : gM (ax F G0 f8) := by
 intro st b os p h
 have d8 := h.d8
 have z8 := h.z8
 rw [aE rfl, ← BM h]
 unfold f8
 walk_at "hq"
 generalize hX : am _ _ _ _ _ = X
 obtain ⟨_, _, ⟨x4, rfl, rfl⟩, rfl⟩ := dw hX (fun i ρ σ => ∃ x4, ρ = [some (.d b.t), some (.d (ak os)), some (.d (.str p)), some (.ref st.length), x4] ∧ σ = st ++ [some (((bT i).filter (fun d => (cr (b.scenes.zip os) d).any fun s => decide (p ∈ s.cast))).map T.int)]) ⟨none, rfl, rfl⟩ (by
  rintro i y _ _ hy ⟨x4, rfl, rfl⟩
  obtain ⟨hi, rfl⟩ := eO hy
  have T0 := fun st => hT st b os i h
  have l8 := Nat.le_trans (oW (d := i)) z8
  have lm := eY (f := T.int) (l := (bT i).filter fun d => (cr (b.scenes.zip os) d).any fun s => decide (p ∈ s.cast)) (Nat.le_trans (List.length_filter_le _ _) (by rw [mD]; omega))
  rw [jS, List.filter_append, List.map_append, List.filter_cons, List.filter_nil]
  generalize ((bT i).filter _).map _ = cs at *
  refine av rfl ?_
  generalize cr _ i = ss at *
  walk_at "hq"
  generalize hY : ao _ _ _ _ _ = Y
  have e := bP hY (fun s => if decide (p ∈ s.cast) then some _ else none) (by
   intro s _
   refine aK rfl ?_
   by_cases hq : p ∈ s.cast <;> (walk_at "hq"; exact ⟨_, _, rfl, rfl, rfl⟩))
  rw [jM] at e
  have n0 := EJ (σ := st ++ [some cs, some ((ss.filter fun s => decide (p ∈ s.cast)).map _), some []]) (i := st.length + 1) (j := st.length + 2) (by rw [aG]; rfl) (by rw [aG]; rfl)
  cases hh : ss.any fun s => decide (p ∈ s.cast)
  all_goals
   walk_at "hq"
   exact ⟨_, _, rfl, rfl, _, rfl, rfl⟩)
 rw [bN]
 walk_at "hq"
theorem CW {F : FT} (hC : gM (F 76)) : yR (ax F G0 fL) := by
 intro st b os h
 rw [aE rfl]
 unfold fL gA
 walk_at "hq"
 generalize hX : am _ _ _ _ _ = X
 obtain ⟨ρ', σ', q⟩ := cg (fun ρ σ => ∃ l x2 x3 x4 x5 x6 x7 x8, ρ = [some (.d b.t), some (.d (ak os)), x2, x3, x4, x5, x6, x7, x8] ∧ σ = st ++ l) (fun σ => ∃ l, σ = st ++ l) (fun a => (jh b os a).isSome) (fun a => .d (.tup [.str "tired", .str a.name, .int ((jh b os a).getD 0)])) (fun _ _ _ => rfl) hX ⟨[], _, _, _, _, _, _, _, rfl, by rw [List.append_nil]⟩ (by
  rintro a ha _ _ ⟨l, x2, x3, x4, x5, x6, x7, x8, rfl, rfl⟩
  have C0 := hC (st ++ l) b os a.name h
  rw [List.length_append, List.append_assoc] at C0
  obtain ⟨_, _, _, _, _, r0, r1, _⟩ := h.ok.players a ha
  have hr : a.run + 1 = ((a.run.toNat + 1 : Nat) : Int) := by omega
  unfold jh Fc
  generalize wD b os a.name = D at *
  generalize hrr : a.run.toNat = r at *
  have I0 := vp (σ := st ++ (l ++ [some (D.map T.int)])) (k := st.length + l.length) (D := D) (by rw [aG, a9])
  have rl : ag .rng1 [.d (.int (a.run + 1))] (st ++ (l ++ [some (D.map T.int)])) = some ((bT (r + 1)).map T.int, []) := by
   rw [hr, EX (by omega) (by omega), Int.toNat_natCast, vC]
  have ul := mD (r + 1)
  have r8 : r ≤ 8 := by omega
  refine av rfl ?_
  clear hX hC ha h hr hrr r0 r1
  walk_at "hq"
  generalize hY : am _ _ _ _ _ = Y
  obtain ⟨ρ', σ', q⟩ := cg (fun ρ σ => ∃ x8, ρ = [some (.d b.t), some (.d (ak os)), some (.d (.str a.name)), some (.d (.int a.pay)), some (.d (.int a.hold)), some (.d (.int a.run)), some (.d (.tup (a.away.map T.int))), some (.ref (st.length + l.length)), x8] ∧ σ = st ++ (l ++ [some (D.map T.int)])) (fun σ => σ = st ++ (l ++ [some (D.map T.int)])) (bn D r) (fun d => .d (.tup [.str "tired", .str a.name, .int d])) (by rintro _ _ ⟨x8, rfl, rfl⟩; exact lU (by rw [aG, a9])) hY ⟨_, rfl, rfl⟩ (by
   rintro d _ _ _ ⟨x8, rfl, rfl⟩
   refine av rfl ?_
   clear hY C0 I0
   walk_at "hq"
   generalize hZ : ao _ _ _ _ _ = Z
   have e := bP hZ (fun k => if !decide (d - k ∈ D) then some (.int k) else none) (by
    intro k _
    have m0 := we (σ := st ++ (l ++ [some (D.map T.int)])) (k := st.length + l.length) (D := D) (d := d - k) (by rw [aG, a9])
    refine aK rfl ?_
    clear hZ rl
    by_cases hq : d - k ∈ D
    · have e1 : decide (d - k ∈ D) = true := decide_eq_true hq
      clear hq
      walk_at "hq"
      exact ⟨_, _, rfl, rfl, rfl⟩
    · have e1 : decide (d - k ∈ D) = false := decide_eq_false hq
      clear hq
      walk_at "hq"
      exact ⟨_, _, rfl, rfl, rfl⟩)
   rw [jM] at e
   have tf := uL (D := D) (r := r) (d := d)
   have fl : ((bT (r + 1)).filter fun k => !decide (d - k ∈ D)).length ≤ 1000 := Nat.le_trans (List.length_filter_le _ _) (by omega)
   generalize ((bT (r + 1)).filter fun k => !decide (d - k ∈ D)) = L at *
   have N0 := nil_eq (σ := st ++ (l ++ [some (D.map T.int), some (L.map T.int), some []])) (i := st.length + (l.length + 1)) (j := st.length + (l.length + 2)) (xs := L.map T.int) (by rw [aG, aG]; rfl) (by rw [aG, aG]; rfl) (ll L)
   rw [List.length_map, tf] at N0
   clear hZ rl
   cases ht : bn D r d with
   | true =>
    rw [ht] at N0
    walk_at "hq"
    exact ⟨_, _, rfl, .inr ⟨rfl, rfl⟩⟩
   | false =>
    rw [ht] at N0
    walk_at "hq"
    exact ⟨_, _, rfl, .inl ⟨rfl, _, rfl, rfl⟩⟩)
  clear hY C0 I0
  rcases q with ⟨d, e, rfl, rfl⟩ | ⟨e, ⟨x8, rfl, rfl⟩, rfl⟩
  · rw [e]
    walk_at "hq"
    exact ⟨_, _, rfl, .inr ⟨rfl, rfl, _, rfl⟩⟩
  · rw [e]
    walk_at "hq"
    exact ⟨_, _, rfl, .inl ⟨rfl, rfl, _, _, _, _, _, _, _, _, rfl, rfl⟩⟩)
 clear hX
 rcases q with ⟨a, e, ⟨l, rfl⟩, rfl⟩ | ⟨e, ⟨l, x2, x3, x4, x5, x6, x7, x8, rfl, rfl⟩, rfl⟩
 · rw [e]
   clear e
   walk_at "hq"
 · rw [e]
   clear e
   walk_at "hq"
theorem Ep {F : FT} (hT : kr (F 70)) (hC : gM (F 76)) (hF : uW (F 69)) (hR : yR (F 78)) : AN (ax F G0 dJ) := by
 intro st b os h
 have z8 := h.z8
 have d8 := h.d8
 have p8 := h.ok.p8
 rw [aE rfl]
 unfold dJ
 have R0 := fun st => hR st b os h
 have k1 := HH (b := b) (os := os)
 have k2 := HN (b := b) (os := os)
 have k3 := IB (b := b) (os := os)
 have k4 := Jk (b := b) (os := os)
 generalize hbl : k7 b os = bt at *
 clear hR hbl
 walk_at "hq"
 generalize hX : am _ _ _ _ _ = X
 obtain ⟨ρ', q⟩ := bb (fun ρ => ∃ x2 x3 x4 x5 x6 x7 x8 x9, ρ = [some (.d b.t), some (.d (ak os)), x2, x3, x4, x5, x6, x7, x8, x9]) (Cg b) (fun z => .d (.tup [.str "shut", .str z.1.name, cc z.2])) hX ⟨_, _, _, _, _, _, _, _, rfl⟩ (by
  rintro ⟨s, o⟩ hz _ ⟨x2, x3, x4, x5, x6, x7, x8, x9, rfl⟩
  have hs := h.ok.scenes s (List.of_mem_zip hz).1
  obtain ⟨p, hp, hn⟩ := List.mem_map.mp hs.2.1
  obtain ⟨p0, ps, hl⟩ : ∃ p0 ps, (b.places.filter fun p => decide (p.name = s.place)) = p0 :: ps := by
   cases e : b.places.filter fun p => decide (p.name = s.place) with
   | nil =>
    have := (List.mem_filter (p := fun p : Place => decide (p.name = s.place))).mpr ⟨hp, decide_eq_true hn⟩
    rw [e] at this
    cases this
   | cons p0 ps => exact ⟨p0, ps, rfl⟩
  have hp0 : p0 ∈ b.places.filter fun p => decide (p.name = s.place) := by rw [hl]; exact List.mem_cons_self
  obtain ⟨hp1, hp2⟩ := List.mem_filter.mp hp0
  have e0 : ∀ d, Cg b (s, some d) = decide (d ∈ p0.shut) := fun d => mj h.ok hp1 (of_decide_eq_true hp2)
  refine av rfl ?_
  clear hX hT hC hF hs hp hn hp0 hp1 hp2 R0 k1 k2 k3 k4 hz
  walk_at "hq"
  generalize hY : ao _ _ _ _ _ = Y
  have e := bP hY (fun p => if decide (p.name = s.place) then some (.tup (p.shut.map T.int)) else none) (by
   intro p _
   refine aK rfl ?_
   clear hY e0 hl
   have i2 : ∀ σ, eM (.d p.t) (.d (.int 2)) σ = .ok (.d (.tup (p.shut.map T.int))) σ := fun _ => rfl
   by_cases hq : p.name = s.place <;> (walk_at "hq"; exact ⟨_, _, rfl, rfl, rfl⟩))
  have l9 : ps.length ≤ 8 := by
   have := List.length_filter_le (fun p => decide (p.name = s.place)) b.places
   rw [hl, List.length_cons] at this
   omega
  rw [jM, hl, List.map_cons] at e
  clear hY hl
  cases o with
  | none =>
   clear e0
   walk_at "hq"
   exact ⟨_, _, rfl, rfl, .inl ⟨rfl, rfl, _, _, _, _, _, _, _, _, rfl⟩⟩
  | some d =>
   rw [e0 d]
   clear e0
   have m0 := fun σ => lb (σ := σ) (d := d) (D := p0.shut)
   by_cases hq : d ∈ p0.shut
   · have e1 : decide (d ∈ p0.shut) = true := decide_eq_true hq
     clear hq
     walk_at "hq"
     exact ⟨_, _, rfl, rfl, .inr rfl⟩
   · have e1 : decide (d ∈ p0.shut) = false := decide_eq_false hq
     clear hq
     walk_at "hq"
     exact ⟨_, _, rfl, rfl, .inl ⟨rfl, _, _, _, _, _, _, _, _, rfl⟩⟩)
 clear hX
 rcases q with ⟨z, e, rfl⟩ | ⟨e, ⟨x2, x3, x4, x5, x6, x7, x8, x9, rfl⟩, rfl⟩
 · have e2 : bu b os = .tup [.str "shut", .str z.1.name, cc z.2] := by unfold bu; rw [e]
   rw [k1 (by rw [e2]; rfl), e2]
   clear e e2 k1 k2 k3 k4 R0
   walk_at "hq"
 have n1 : bu b os = .non := by unfold bu; rw [e]
 clear e k1
 replace n1 : iM _ := n1
 replace k2 : iM _ := k2
 replace k3 : iM _ := k3
 replace k4 : iM _ := k4
 walk_at "hq"
 generalize hX : am _ _ _ _ _ = X
 obtain ⟨ρ', σ', q⟩ := cg (fun ρ σ => ∃ l x2 x3 x4 x5 x6 x7 x8 x9, ρ = [some (.d b.t), some (.d (ak os)), x2, x3, x4, x5, x6, x7, x8, x9] ∧ σ = st ++ l) (fun σ => ∃ l, σ = st ++ l) (fun a => (vH b os a).isSome) (fun a => .d (.tup [.str "away", .str a.name, .int ((vH b os a).getD 0)])) (fun _ _ _ => rfl) hX ⟨[], _, _, _, _, _, _, _, _, rfl, by rw [List.append_nil]⟩ (by
  rintro a ha _ _ ⟨l, x2, x3, x4, x5, x6, x7, x8, x9, rfl, rfl⟩
  have C0 := hC (st ++ l) b os a.name h
  rw [List.length_append, List.append_assoc] at C0
  unfold vH
  generalize wD b os a.name = D at *
  have I0 := vp (σ := st ++ (l ++ [some (D.map T.int)])) (k := st.length + l.length) (D := D) (by rw [aG, a9])
  refine av rfl ?_
  clear hX hT hC hF ha h R0 n1 k2 k3 k4
  walk_at "hq"
  generalize hY : am _ _ _ _ _ = Y
  obtain ⟨ρ', σ', q⟩ := cg (fun ρ σ => ∃ x3, ρ = [some (.d b.t), some (.d (ak os)), x2, x3, x4, some (.d (.str a.name)), some (.d (.int a.pay)), some (.d (.int a.hold)), some (.d (.int a.run)), some (.d (.tup (a.away.map T.int)))] ∧ σ = st ++ (l ++ [some (D.map T.int)])) (fun σ => σ = st ++ (l ++ [some (D.map T.int)])) (fun d => decide (d ∈ a.away)) (fun d => .d (.tup [.str "away", .str a.name, .int d])) (by rintro _ _ ⟨x3, rfl, rfl⟩; exact lU (by rw [aG, a9])) hY ⟨_, rfl, rfl⟩ (by
   rintro d _ _ _ ⟨x3, rfl, rfl⟩
   have m0 := fun σ => lb (σ := σ) (d := d) (D := a.away)
   refine av rfl ?_
   clear hY C0 I0
   by_cases hq : d ∈ a.away
   · have e1 : decide (d ∈ a.away) = true := decide_eq_true hq
     clear hq
     walk_at "hq"
     exact ⟨_, _, rfl, .inr ⟨rfl, rfl⟩⟩
   · have e1 : decide (d ∈ a.away) = false := decide_eq_false hq
     clear hq
     walk_at "hq"
     exact ⟨_, _, rfl, .inl ⟨rfl, _, rfl, rfl⟩⟩)
  clear hY C0 I0
  rcases q with ⟨d, e, rfl, rfl⟩ | ⟨e, ⟨x8, rfl, rfl⟩, rfl⟩
  · rw [e]
    clear e
    walk_at "hq"
    exact ⟨_, _, rfl, .inr ⟨rfl, rfl, _, rfl⟩⟩
  · rw [e]
    clear e
    walk_at "hq"
    exact ⟨_, _, rfl, .inl ⟨rfl, rfl, _, _, _, _, _, _, _, _, _, rfl, rfl⟩⟩)
 clear hX
 rcases q with ⟨a, e, ⟨l, rfl⟩, rfl⟩ | ⟨e, ⟨l, x2, x3, x4, x5, x6, x7, x8, x9, rfl, rfl⟩, rfl⟩
 · have e2 : bI b os = .tup [.str "away", .str a.name, .int ((vH b os a).getD 0)] := by unfold bI; rw [e]
   rw [(show bu b os = .non → eT (bI b os) = false → bt = bI b os from k2) n1 (by rw [e2]; rfl), e2]
   clear e e2 k2 k3 k4 R0 n1
   walk_at "hq"
 have n2 : bI b os = .non := by unfold bI; rw [e]
 clear e k2
 replace k3 : iM _ := (show bu b os = .non → _ from k3) n1 n2
 replace k4 : iM _ := (show bu b os = .non → _ from k4) n1 n2
 clear n1 n2
 walk_at "hq"
 generalize hX : am _ _ _ _ _ = X
 have er : rng 0 b.days.length = (List.range b.days.length).map fun (i : Nat) => T.int i := by
  unfold rng
  refine List.map_congr_left fun i _ => ?_
  rw [Int.zero_add]
 rw [er] at hX
 obtain ⟨ρ', q⟩ := bb (fun ρ => ∃ x3, ρ = [some (.d b.t), some (.d (ak os)), x2, x3, x4, x5, x6, x7, x8, x9]) (dD b os) (fun d => .d (.tup [.str "full", .int d])) hX ⟨_, rfl⟩ (by
  rintro d hd _ ⟨x3, rfl⟩
  have hl := List.mem_range.mp hd
  have T0 := fun st => hT st b os d h
  obtain ⟨w, σ, F0, rfl, v, rfl, hv⟩ := hF (st ++ l) b d b.days[d] (cr (b.scenes.zip os) d) h.ok (List.getElem?_eq_getElem hl) (mK h d) (rM h.ok os d)
  have ft := tY (b := b) (os := os) (List.getElem?_eq_getElem hl)
  rw [← hv] at ft
  generalize (cr (b.scenes.zip os) d).map aa.t = ss at *
  refine av rfl ?_
  clear hX hd hT hF er hv R0 k3 k4 hC
  generalize st ++ l = σ at *
  cases v with
  | true =>
   have e1 : iM (dD b os d = false) := by
    show dD b os d = false
    cases e : dD b os d with
    | false => rfl
    | true => exact absurd rfl (ft.mp e)
   clear ft
   walk_at "hq"
   exact ⟨_, _, rfl, rfl, .inl ⟨e1, rfl, _, rfl⟩⟩
  | false =>
   have e1 : iM (dD b os d = true) := ft.mpr (by decide)
   clear ft
   walk_at "hq"
   exact ⟨_, _, rfl, rfl, .inr ⟨e1, rfl⟩⟩)
 clear hX hT hF hC er
 rcases q with ⟨d, e, rfl⟩ | ⟨e, ⟨x3, rfl⟩, rfl⟩
 · have e2 : bG b os = .tup [.str "full", .int d] := by unfold bG; rw [e]
   rw [(show eT (bG b os) = false → bt = bG b os from k3) (by rw [e2]; rfl), e2]
   clear e e2 k3 k4 R0
   walk_at "hq"
 · have e2 : bG b os = .non := by unfold bG; rw [e]
   rw [(show bG b os = .non → bt = gA b os from k4) e2]
   clear e e2 k3 k4
   walk_at "hq"
def ef (n : Nat) (p : Int → Bool) : List Int := ((bT n).find? p).toList
theorem uR : ef (n + 1) p = if (ef n p).length = 0 ∧ p n = true then [(n : Int)] else ef n p := by
 unfold ef
 rw [jS, List.find?_append]
 cases (bT n).find? p with
 | some d => rfl
 | none =>
  rw [List.find?_cons]
  cases p n <;> rfl
theorem yv : (ef n p).length ≤ 1 := by
 unfold ef
 simp
def zN (f : FW) : Prop := ∀ (st : ae) (b : aq), aJ 8 8 b → f [.d b.t] st = .ok (.d (resT (BU b))) st
theorem Ag {F : FT} (hB : AN (F 80)) : zN (ax F G0 f7) := by
 intro st b hb
 have s8 : b.scenes.length ≤ 8 := by have := hb.s8; omega
 have d8 : b.days.length ≤ 8 := by have := hb.d2; omega
 have m0 := fun st => y6 (st := st) (n := b.scenes.length) (by omega)
 have c0 := kI hb
 have er := pI b.scenes.length
 rw [aE rfl]
 unfold f7 BU
 have hl0 : (List.replicate b.scenes.length (none : Option Int)).length = b.scenes.length := List.length_replicate
 generalize List.replicate b.scenes.length (none : Option Int) = os0 at *
 walk_at "hq"
 generalize hX : am _ _ _ _ _ = X
 obtain ⟨ρ', σ', q⟩ := on (fun os ρ σ => ∃ l x2 x3 x4 x5, ρ = [some (.d b.t), some (.d (ak os)), x2, x3, x4, x5] ∧ σ = st ++ l ∧ Cs b os) (fun σ => ∃ l, σ = st ++ l) (vq b) (.d .non) hX ⟨[], none, none, none, none, rfl, by rw [List.append_nil], c0⟩ (by
  rintro i hi os _ _ ⟨l, x2, x3, x4, x5, rfl, rfl, h⟩
  have hi : i < os.length := by rw [h.len]; exact List.mem_range.mp hi
  have li := fun os' => vy (b := b) (os := os) (os' := os') (i := i) h
  have hlen := h.len
  obtain ⟨p0, p1⟩ : (∀ (d : Int) (st : ae), aV .add (.d (ak (os.take i))) (.d (.tup [.int d])) st = .ok (.d (ak (os.take i ++ [some d]))) st) ∧ ∀ (d : Int) (st : ae), aV .add (.d (ak (os.take i ++ [some d]))) (.d (ak (os.drop (i + 1)))) st = .ok (.d (ak (os.set i (some d)))) st :=
   ⟨fun d st => (nF (F := F) (G := G0) (ρ := []) (st := []) (o := some d) hi (by omega)).1 st, fun d st => (nF (F := F) (G := G0) (ρ := []) (st := []) (o := some d) hi (by omega)).2 st⟩
  have s0 := fun st => zF (st := st) hi
  have s1 := fun st => zy (st := st) hi
  have B1 : ∀ (d : Int) (st : ae), 0 ≤ d → d < b.days.length → F 80 [.d b.t, .d (ak (os.set i (some d)))] st = .ok (.d (k7 b (os.set i (some d)))) st := fun d st h0 h1 => hB st b (os.set i (some d)) (h.put i (by rintro _ e; cases e; exact ⟨h0, h1⟩))
  have sh := fun d : Int => i7 (b := b) (os := os.set i (some d))
  have lf : vq b os i = ((ef b.days.length (AY b os i)).head?).map fun d => os.set i (some d) := by
   unfold vq ef
   cases (bT b.days.length).find? (AY b os i) <;> rfl
  have ok0 : ∀ d, AY b os i d = !Dc b (os.set i (some d)) := fun _ => rfl
  generalize AY b os i = ok at *
  generalize ak (os.take i) = tk at *
  generalize ak (os.drop (i + 1)) = dr at *
  replace h : iM _ := h
  replace hi : iM _ := hi
  refine av rfl ?_
  clear hX hB er m0 c0
  walk_at "hq"
  generalize hY : am _ _ _ _ _ = Y
  obtain ⟨_, _, ⟨x4, x5, rfl, rfl⟩, rfl⟩ := dw hY (fun j ρ σ => ∃ x4 x5, ρ = [some (.d b.t), some (.d (ak os)), some (.d (.int i)), some (.ref (st.length + l.length)), x4, x5] ∧ σ = st ++ (l ++ [some ((ef j ok).map T.int)])) ⟨_, _, rfl, rfl⟩ (by
   rintro j y _ _ hy ⟨x4, x5, rfl, rfl⟩
   obtain ⟨hj, rfl⟩ := eO hy
   replace p0 := p0 j
   replace p1 := p1 j
   replace B1 := fun st => B1 j st (by omega) (by omega)
   replace sh := sh j
   have ok1 := ok0 j
   have N0 := nil_eq (σ := st ++ (l ++ [some ((ef j ok).map T.int), some []])) (i := st.length + l.length) (j := st.length + (l.length + 1)) (xs := (ef j ok).map T.int) (by rw [aG, a9]) (by rw [aG, aG]; rfl) (ll _)
   rw [List.length_map] at N0
   have lm := eY (f := T.int) (l := ef j ok) (Nat.le_trans yv (by decide))
   rw [uR]
   generalize ef j ok = L at *
   generalize ak os = ct at *
   generalize os.set i (some (j : Int)) = os' at *
   refine av rfl ?_
   clear hY hy sh hj ok0 lf li
   by_cases hl : L.length = 0
   · have e1 : decide (L.length = 0) = true := decide_eq_true hl
     have sh2 := i7 (b := b) (os := os')
     rw [List.length_eq_zero_iff] at hl
     subst hl
     have N1 : bi .eq (.ref (st.length + l.length)) (.ref (st.length + (l.length + 1))) (st ++ (l ++ [some [], some []])) = .ok (.d (.bl true)) (st ++ (l ++ [some [], some []])) := N0
     clear N0 e1
     rcases sh2 with ⟨e2, e3⟩ | ⟨xs, e2, e3⟩
     · rw [e2] at B1
       rw [if_pos ⟨rfl, by rw [ok1, e3]; rfl⟩]
       clear e2 e3 ok1
       walk_at "hq"
       exact ⟨_, _, rfl, rfl, _, _, rfl, List.take_of_length_le (by simp)⟩
     · rw [e2] at B1
       rw [if_neg (by rw [ok1, e3]; decide)]
       clear e2 e3 ok1
       walk_at "hq"
       exact ⟨_, _, rfl, rfl, _, _, rfl, rfl⟩
   · have e1 : decide (L.length = 0) = false := decide_eq_false hl
     rw [if_neg (fun h => hl h.1)]
     clear hl B1 ok1
     walk_at "hq"
     exact ⟨_, _, rfl, rfl, _, _, rfl, rfl⟩)
  rw [bN]
  clear hY sh B1
  have N0 := nil_eq (σ := st ++ (l ++ [some ((ef b.days.length ok).map T.int), some []])) (i := st.length + l.length) (j := st.length + (l.length + 1)) (xs := (ef b.days.length ok).map T.int) (by rw [aG, a9]) (by rw [aG, aG]; rfl) (ll _)
  rw [List.length_map] at N0
  rw [lf] at li
  clear lf ok0
  generalize ef b.days.length ok = L at *
  cases L with
  | nil =>
   have N1 : bi .eq (.ref (st.length + l.length)) (.ref (st.length + (l.length + 1))) (st ++ (l ++ [some [], some []])) = .ok (.d (.bl true)) (st ++ (l ++ [some [], some []])) := N0
   clear li p0 p1 s0 s1 N0
   walk_at "hq"
   exact ⟨_, _, rfl, .inr ⟨rfl, rfl, _, rfl⟩⟩
  | cons d L =>
   have h2 : iM (Cs b (os.set i (some d))) := (li _ rfl).1
   replace p0 := p0 d
   replace p1 := p1 d
   have i0 : eM (.ref (st.length + l.length)) (.d (.int 0)) (st ++ (l ++ [some ((d :: L).map T.int)])) = .ok (.d (.int d)) (st ++ (l ++ [some ((d :: L).map T.int)])) := by
    unfold eM
    rw [du (xs := (d :: L).map T.int) (by rw [aG, a9])]
    show (match db (T.int d :: L.map T.int) 0 with | some t => ai.ok (W.d t) _ | none => .bad) = _
    rw [F7]
   have N1 : bi .eq (.ref (st.length + l.length)) (.ref (st.length + (l.length + 1))) (st ++ (l ++ [some ((d :: L).map T.int), some []])) = .ok (.d (.bl false)) (st ++ (l ++ [some ((d :: L).map T.int), some []])) := N0
   have hs : (d :: L).head?.map (fun d => os.set i (some d)) = some (os.set i (some d)) := rfl
   clear li N0
   generalize (d :: L).head?.map (fun d => os.set i (some d)) = hd at *
   generalize (d :: L).map T.int = ds at *
   generalize os.set i (some d) = os' at *
   walk_at "hq"
   exact ⟨_, _, rfl, .inl ⟨os', rfl, rfl, _, _, _, _, _, rfl, rfl, h2⟩⟩)
 clear hX hB m0
 rcases q with ⟨os', e, ⟨l, x2, x3, x4, x5, rfl, rfl, h⟩, rfl⟩ | ⟨e, ⟨l, rfl⟩, rfl⟩
 · rw [e]
   clear e h
   show _ = ai.ok (W.d (ak os')) st
   walk_at "hq"
 · rw [e]
   clear e
   show _ = ai.ok (W.d .non) st
   walk_at "hq"
theorem BK : bi .ne (.d (resT o)) (.d (resT o)) σ = .ok (.d (.bl false)) σ := by
 have hd : b9 (resT o) ≤ 60 := by
  cases o with
  | none => simp [resT, b9]
  | some os => exact Nat.le_trans (vj os) (by decide)
 show (match if b9 _ ≤ 60 ∧ b9 _ ≤ 60 then some !eqT _ _ else none with | some t => ai.ok _ σ | none => .bad) = _
 rw [if_pos ⟨hd, hd⟩, fB]
 rfl
local macro_rules | `(tactic| walk_at "hq") => do { let ls ← ((I.ws (Hd.yM ++ " fM fR B5 yS iJ g9 jb iC iE ip iU iA gY ii i8 lz nq iy nD m8 iu il iQ iX iP gU C7 nR p5 o3 Gg jV jW du sV ui qV BH nP jJ jK jm CZ C6 qB js qC List.all_cons List.all_nil Bool.and_self and_true xF wt oY pW pV pc kn and_self true_and pG pj")).mapM fun n => `(Lean.Parser.Tactic.simpLemma| $(Lean.mkIdent n):term)); `(tactic| simp (disch := walk_at "dq") only [$[$ls:simpLemma],*, *]) }
def DN : Nat := 22
theorem headD : fb Ds := ⟨rfl, rfl, rfl, rfl, rfl, rfl, rfl, rfl, rfl, rfl, rfl⟩
theorem DO {F : FT} (hB : u4 (F 11)) (hF : oi (F 105)) (hL : zN (F 318)) (ns : List Int) : Wl (ax F G0 pr [.d (.lst (ns.map T.int))] []) fun w _ => w = .d (.bl true) := by
 refine bE rfl ?_
 unfold pr
 obtain ⟨b, hb, B0⟩ := hB [] ns 4 5 (by decide) (by decide) (by decide) (by decide)
 have hb := hb.wide (by decide) (by decide)
 have F0 := fun st => hF st b hb
 have L0 := fun st => hL st b hb
 have E0 := fun σ => BK (o := BU b) (σ := σ)
 have full := fun os e => pk (b := b) (os' := os) (kI hb) (Nat.le_of_eq List.length_replicate.symm) (show (List.range b.scenes.length).foldlM (vq b) (List.replicate b.scenes.length none) = some os from e)
 change ∀ os, BU b = some os → _ at full
 generalize BU b = o at *
 cases o with
 | none =>
  walk_at "hq"
  exact ⟨_, _, rfl, rfl⟩
 | some os =>
  obtain ⟨h, hl, hf⟩ := full os rfl
  have F1 : ∀ st, F 105 [.d b.t] st = .ok (.d (.tup _)) st := F0
  have L1 : ∀ st, F _ _ st = .ok (.d (.tup _)) st := L0
  have E1 : ∀ σ, bi _ (.d (.tup _)) (.d (.tup _)) σ = .ok _ σ := E0
  have s8 := h.s8
  rw [List.length_replicate] at hl
  have all : ∀ o ∈ os, ∃ d, o = some d := fun o ho => by
   obtain ⟨i, hi⟩ := List.mem_iff_getElem?.mp ho
   obtain ⟨d, hd⟩ := hf i (by have := (List.getElem?_eq_some_iff.mp hi).1; omega)
   rw [hd] at hi
   cases hi
   exact ⟨d, rfl⟩
  clear F0 L0 E0 full h hf
  walk_at "hq"
  generalize hX : ao _ _ _ _ _ = X
  have e := bP hX (fun _ => none) (by
   intro o ho
   obtain ⟨d, rfl⟩ := all o ho
   exact ⟨_, _, rfl, rfl, rfl⟩)
  rw [List.filterMap_eq_nil_iff.mpr fun _ _ => rfl] at e
  walk_at "hq"
  exact ⟨_, _, rfl, rfl⟩
theorem uK (ns : List Int) (hl : ns.length ≤ 63) : ∃ st', ax (run G0 Ds DN) G0 pr [.d (.lst (ns.map T.int))] [] = .ok (.d (.bl true)) st' := by
 have kN : uJ (run G0 Ds 17 14) := up rfl (FC (up rfl (D5 (up rfl za))))
 have kE : ∀ n, oI (run G0 Ds (n + 3) 20) := fun n => up rfl (j6 (up rfl wu) (up rfl rd))
 have kR := zL rfl kE 6 8
 have kC : gR (run G0 Ds 18 15) := up rfl uj
 have kw1 : ∀ (n : Nat) (st : ae), run G0 Ds (n + 1) 43 _ st = .ok _ st := fun n => up (P := fun f => ∀ st, f _ st = .ok _ st) rfl Cu
 have kw2 : ∀ (n : Nat) (st : ae), run G0 Ds (n + 1) 39 _ st = .ok _ st := fun n => up (P := fun f => ∀ st, f _ st = .ok _ st) rfl Fw
 have kB : HM (run G0 Ds 20 47) := up rfl (IE (up rfl xn) (up rfl (Cy (up rfl (Dm (up rfl (Ff (up rfl za))))) (up rfl B6))) (up rfl (Cn kC (up rfl CV))) (up rfl (Ao (up rfl (DV kN kR)) (up rfl uo) (kw1 17))) (up rfl (FG kC (up rfl BF) (kw2 17))))
 have kF : oi (run G0 Ds 22 105) := up rfl (wK (up rfl rz) (up rfl (kW (up rfl nc) (up rfl Ah) kB)))
 have kt : ∀ n, kr (run G0 Ds (n + 1) 70) := fun n => up rfl xM
 have kf : uW (run G0 Ds 20 69) := up rfl (Ce (up rfl (wj (up rfl Bo))))
 have kc : ∀ n, gM (run G0 Ds _ 76) := fun n => up rfl (uZ (kt n))
 have kL : AN (run G0 Ds 21 80) := up rfl (Ep (kt 19) (kc 18) kf (up rfl (CW (kc 17))))
 obtain ⟨_, st, e, rfl⟩ := DO (headD.book 17) kF (up rfl (Ag kL)) ns
 exact ⟨st, e⟩
end Hd
end
section
namespace Hd
open PySem L2 I PySem.Spec PyProof.Rows
theorem CB {P : Program} {w : World} {K : PySem.W.Frag} {mg : Str → Option Value} {tabs : List (Addr × Addr)} (base : Heap) (kb : K.In base) (nb : base.Ns mainGlobals mg) (bm : Bm mg base) (hcd : ∀ q ∈ tabs, PySem.W.CodeHd base q.1 q.2) (ht : bx (vo K tabs) tbl) (hd : bx (qO (v8 P w K mg base (tabs.map Prod.snd) (nz Cz) G0)) tbl) (hcs : ∀ q ∈ GS, ∃ C, be K C q ∧ mg q = some (.ref C) ∧ zu K C) (hsb : ∀ z ∈ GP, ∃ C C', be K C z.1 ∧ mg z.2.1 = some (.ref C') ∧ j4 K C ∧ xO K C C' z.2.2) (hc : bx (fun r => G0[r.1]? = some (.int r.2.2) ∧ ∃ t, mg r.2.1 = some (.int r.2.2 t)) Cz) (hb : ∀ x ∈ FZ, mg x = none) (d : Df K mg "law" wZ.st) {f : Addr} {fd : FuncData} (F : vI K "law" "law" wZ.st f fd) : fG P w K mg base mn (2 * DN + 2) f fd ["_law_script"] (nT K tabs) := by
 refine CU (Γ := v8 P w K mg base (tabs.map Prod.snd) (nz Cz) G0) (FB Aw hd (Fg ht kb nb bm hcd) hcs hsb rfl (CD rfl hc) hb) (n := DN) F "_law_script" (vE jG d nofun) (nT K tabs) fun vs H Q E h => ?_
 obtain ⟨a, ns, rfl, hS, hl, hT, q⟩ := h
 exact ⟨rfl, Bt (Γ := v8 P w K mg base (tabs.map Prod.snd) (nz Cz) G0) hS (fun P hP => by obtain ⟨z, hz, rfl⟩ := List.mem_map.mp hP; exact hT z hz) (uK ns hl) fun H' h' => q H' fun z hz => h' z.2 (List.mem_map_of_mem hz)⟩
theorem Co {l : PySem.W.OpenLaw} {w : World} {K : PySem.W.Frag} {h : Heap} {mg : Str → Option Value} {fa : Addr} {tabs : List (Addr × Addr)} (X : K.In h) (G : h.Ns mainGlobals mg) (hfa : mg "law" = some (.ref fa)) (hT : bx (fun q => PySem.W.CodeHd h q.1 q.2 ∧ h.get? q.2 = some (PySem.W.tabObj #[])) tabs) (ht : bx (vo K tabs) tbl) (hl : Kf K "law" wZ.st) (hd : bx (Ie K) tbl) (hk : bx (Kc K) JH) (hn : bx (Kn K) GS) (hs : bx (Ks K) GP) (hc : bx (fun r => ∃ t, PySem.W.nsIn K mainGlobals r.2.1 = some (some (.int r.2.2 t))) Cz) (hb : bx (fun x => PySem.W.nsIn K mainGlobals x = some none) FZ) : oz l w K mg fa h (2 * DN + 2) :=
 rG X G hfa hT hl (oj jG "law") fun base f fd kb nb bm hcd F d => CB base kb nb bm hcd ht (bx.of_mem fun r hr => AR (Γ := v8 l.prog w K mg base (tabs.map Prod.snd) (nz Cz) G0) fQ X G hk r hr (hd.mem r hr)) (yu fQ X G hk hn) (vX fQ X G hk hs) (FM (by decide) hc X G) (fun x hx => PySem.W.mg_none_of X G (hb.mem x hx)) d F
end Hd
open PySem PySem.W PyProof.Rows
set_option maxHeartbeats 0 in
theorem PySem.Challenge.cw_shootdays_k36_first_fit_holds : PySem.Challenge.rw_shootdays_k36_first_fit.Holds := by
 refine holds_law Hd.tlook fun said => ?_
 refine holds_open (q := Hd.vw) (loose := []) (XP := XL Hd.vw []) (YP := Hook.says (kHook Hd.kf Hd.ka Hd.zJ)) (N := 5646) Hd.thl (Hook.of (kHook Hd.kf Hd.ka Hd.zJ)) (Hook.keeps (kHook Hd.kf Hd.ka Hd.zJ)) (fun s e => xl_of s (Bool.and_eq_true_iff.mp e).1) XL.keeps (by rfl) (by rfl) (by rfl) (fun s e => recFacts_of (Bool.and_eq_true_iff.mp e).2) rfl said (by kernel_rfl) ⟨rfl, rfl, rfl, rfl, rfl, by kernel_rfl⟩ ?hw ?hc
 case hw => w_witness2
 k_fill
 refine I.E6 (l := PySem.Challenge.rw_shootdays_k36_first_fit) (n := 2 * Hd.DN + 2) rfl rfl (by decide) (fun w h Y => PySem.W.kIn_of Y) (fun w => by kernel_rfl) ?F
 case F =>
  intro w mg mb fa h s0 GG KX G hmg
  have hs8 : (PySem.W.tabIn (L2.JK KX) "on_day").isSome = true := by dsimp only [L2.JK]; kernel_rfl
  obtain ⟨⟨tc8, tP8⟩, tt8⟩ := Option.isSome_iff_exists.mp hs8
  have tT8 := PySem.W.tab_of (x := PySem.Str.ofString "on_day") (W.Ground.T GG) KX rfl tt8
  refine' Hd.Co (tabs := [(tc8, tP8)]) KX G hmg ⟨tT8, trivial⟩ ⟨nofun, nofun, nofun, nofun, nofun, nofun, nofun, nofun, (fun _ => ⟨_, (.head _), tt8⟩), nofun, nofun, nofun, nofun, nofun, nofun, nofun, nofun, nofun, nofun, nofun, nofun, nofun, nofun, nofun, nofun, nofun, nofun, nofun, nofun, nofun, nofun, nofun, nofun, nofun, nofun, nofun, nofun, nofun, nofun, nofun, nofun, nofun, nofun, nofun, nofun, nofun, nofun, trivial⟩ (I.aC (x := "law") (st := Hd.aw 62) ?_ ?_ ?_ ?_) ⟨I.aC .., I.aC .., I.aC .., I.aC .., I.aC .., I.aC .., I.aC .., I.aC .., I.aC .., I.aC .., I.aC .., I.aC .., I.aC .., I.aC .., I.aC .., I.aC .., I.gu .., I.gu .., I.gu .., I.gu .., I.gu .., I.gu .., I.gu .., I.gu .., I.aC .., I.aC .., I.aC .., I.aC .., I.aC .., I.aC .., I.aC .., I.aC .., I.aC .., I.aC .., I.aC .., I.aC .., I.aC .., I.aC .., I.aC .., I.aC .., I.aC .., I.aC .., I.aC .., I.aC .., I.aC .., I.aC .., I.aC .., trivial⟩ ⟨I.pS .., I.pS .., I.pS .., I.pS .., trivial⟩ ⟨I.oO .., I.oO .., I.oO .., I.oO .., trivial⟩ trivial ⟨I.dE .., I.dE .., I.dE .., I.dE .., I.dE .., I.dE .., I.dE .., I.dE .., I.dE .., I.dE .., I.dE .., trivial⟩ ⟨I.bH .., I.bH .., I.bH .., I.bH .., I.bH .., I.bH .., I.bH .., I.bH .., I.bH .., I.bH .., I.bH .., I.bH .., I.bH .., I.bH .., I.bH .., I.bH .., I.bH .., I.bH .., trivial⟩
  all_goals first | k_is | skip
end
