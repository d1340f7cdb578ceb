import PyProof.Rows.All
import Wide.All
import OpenK.KCall
import OpenK.KCls
import OpenK.KDescr
import OpenK.KGet
import OpenK.KLine
import OpenK.KMake
import OpenK.KMore
import OpenK.KOps
import OpenK.KRaise
import OpenK.KWalk
import OpenK.Peek
import Open.Claim
import Open.Head
import Open.Line
import Open.Row
import KE.IntText
import KE.KFromBytes
import KE.KIntText
import KE.KIsAll
import KE.KItem
import KE.KNest
import KE.KRevSl
import KE.KTryMore
import KE.KxBytes
import Wide.FinOn
import Lean
import PyProof.EqAt
import PyProof.EqKinds
import PyProof.TupleCall
import PyProof.NeKinds
import PyProof.TupleOfGen
import PyProof.Rows.SortWalk
import PyProof.Rows.SumAny
import PyProof.Rows.SortRev
import PyProof.Rows.SortStr
import PyProof.TupleOfSeq
import PyProof.MeetsSeq
import KE.KSortAsk
import KE.KSortTup
import PySem.Challenge.RW_shootdays_k57_whole_sheets_read_back
set_option maxRecDepth 100000
set_option maxHeartbeats 8000000
set_option Elab.async false
set_option linter.unusedVariables false
open PySem PySem.Spec PyProof.Rows
noncomputable section
section
open PySem PySem.Spec PyProof.Rows
namespace L2
def defArgs (s : Stmt) : Arguments := match s with
 | .FunctionDef _ a _ _ _ _ _ _ _ _ => a
 | _ => { posonlyargs := [], args := [], vararg := none, kwonlyargs := [], kw_defaults := [], kwarg := none, defaults := [] }
end L2
end
section
open PySem PySem.Spec PyProof.Rows
namespace L2
def defBody (s : Stmt) : List Stmt := match s with
 | .FunctionDef _ _ b _ _ _ _ _ _ _ => b
 | _ => []
end L2
end
section
open PySem PySem.Spec PyProof.Rows
namespace L2
def defScope (s : Stmt) : Scope := match s with
 | .FunctionDef _ _ _ _ _ _ sc _ _ _ => sc
 | _ => { kind := .function, names := [], isGenerator := false, isCoroutine := false }
end L2
end
section
open PySem PySem.Spec PyProof.Rows
namespace Hd
open L2
def top (i : Nat) : Stmt := PySem.Challenge.pw_shootdays_k57_whole_sheets_read_back.main.body.getD i (.Pass ⟨0, 0, 0, 0⟩)
end Hd
end
section
open PySem PySem.Spec PyProof.Rows
namespace Hd
open L2
def dn : Stmt → Str | .FunctionDef x .. => x | _ => ""
def km0 : Value := .str "shootdays.books" 234
def km1 : Value := .str "shootdays.times" 283
def km2 : Value := .str "shootdays.sheets" 314
def km3 : Value := .str "law_shootdays_k57_whole_sheets_read_back" 406
def kfl : Str := "/claim/cut.py"
def fo (s : Stmt) (q : Str) (pm : Value) (c : Addr) : Obj := ⟨.type "function", none, .func (PySem.W.fnOf (dn s) q (defArgs s) (defBody s) (defScope s) .none .none .none pm none (.ref c) .none), #[]⟩
def co (s : Stmt) (y : Str) (t : Tok) (l n : Int) (a b : Addr) (u v : Value) (c : Addr) (p q : Int) (z : Tok) : Obj := ⟨.type "code", none, .fields #[.str (dn s) t, .str y (t + 1), .str kfl (t + 2), .int l 0, .int n 0, .int 0 0, .int 0 0, .int 3 0, .ref a, .bool true, .int 181 0, .ref b, .none, u, v, .ref c, .int p 0, .int q 0, .str kfl z], #[]⟩
def f0 (i : Nat) (pm : Value) (c : Addr) : Obj := fo (top i) (dn (top i)) pm c
def c0 (i : Nat) : Tok → Int → Int → Addr → Addr → Value → Value → Addr → Int → Int → Tok → Obj := co (top i) (dn (top i))
def ke (P : Params) (x : Str) (t : Tok) (v : Value) : DictEntry := ⟨PyData.keyHash P x, .str x t, v⟩
def kg0 (P : Params) : List DictEntry := [ke P "__name__" 165 km3, ke P "__doc__" 166 (.none), ke P "__package__" 167 (.none), ke P "__loader__" 168 (.builtin "__main__.__loader__#opaque"), ke P "__spec__" 169 (.none), ke P "__annotations__" 170 (.ref 6)]
def kg1 (P : Params) : List DictEntry := [ke P "__builtins__" 171 (.ref 4), ke P "__file__" 173 (.str kfl 172), ke P "__cached__" 174 (.none), ke P "ShootError" 206 (.ref 24), ke P "NoSheet" 233 (.ref 46), ke P "MOVE" 237 (.int 1 236)]
def kg2 (P : Params) : List DictEntry := [ke P "DAYS" 239 (.int 2 238), ke P "SCENES" 241 (.int 5 240), ke P "PLACE" 243 (.int 1 242), ke P "LENGTH" 245 (.int 2 244), ke P "WORD" 247 (.int 3 246), ke P "CAST" 249 (.int 4 248)]
def kg3 (P : Params) : List DictEntry := [ke P (dn (top 11)) 259 (.ref 55), ke P (dn (top 12)) 266 (.ref 62), ke P (dn (top 13)) 274 (.ref 69), ke P (dn (top 14)) 282 (.ref 76), ke P (dn (top 16)) 298 (.ref 83), ke P (dn (top 17)) 313 (.ref 90)]
def kg4 (P : Params) : List DictEntry := [ke P "SCENE_WORD" 317 (.int 3 316), ke P (dn (top 20)) 327 (.ref 97), ke P (dn (top 21)) 341 (.ref 104), ke P (dn (top 22)) 350 (.ref 111), ke P (dn (top 23)) 359 (.ref 118), ke P (dn (top 24)) 365 (.ref 123)]
def kg5 (P : Params) : List DictEntry := [ke P (dn (top 25)) 373 (.ref 130), ke P (dn (top 26)) 384 (.ref 137), ke P (dn (top 27)) 393 (.ref 144), ke P (dn (top 28)) 405 (.ref 151), ke P (dn (top 30)) 415 (.ref 158), ke P (dn (top 31)) 425 (.ref 165)]
def kg6 (P : Params) : List DictEntry := [ke P (dn (top 32)) 435 (.ref 172), ke P (dn (top 33)) 443 (.ref 179), ke P (dn (top 34)) 449 (.ref 184), ke P (dn (top 35)) 462 (.ref 191), ke P (dn (top 36)) 468 (.ref 196), ke P (dn (top 37)) 474 (.ref 201)]
def kg7 (P : Params) : List DictEntry := [ke P (dn (top 38)) 488 (.ref 208), ke P (dn (top 39)) 494 (.ref 213), ke P (dn (top 40)) 515 (.ref 220), ke P (dn (top 41)) 527 (.ref 227), ke P (dn (top 42)) 540 (.ref 234), ke P (dn (top 43)) 546 (.ref 239)]
def kg8 (P : Params) : List DictEntry := [ke P (dn (top 44)) 553 (.ref 246), ke P (dn (top 45)) 559 (.ref 251), ke P (dn (top 46)) 575 (.ref 258), ke P (dn (top 47)) 588 (.ref 265), ke P (dn (top 48)) 594 (.ref 270), ke P (dn (top 49)) 600 (.ref 275)]
def kg9 (P : Params) : List DictEntry := [ke P (dn (top 50)) 608 (.ref 282), ke P (dn (top 51)) 622 (.ref 289)]
def kg (P : Params) : Obj := ⟨.type "dict", none, .dict (kg0 P ++ (kg1 P ++ (kg2 P ++ (kg3 P ++ (kg4 P ++ (kg5 P ++ (kg6 P ++ (kg7 P ++ (kg8 P ++ (kg9 P)))))))))).toArray 56, #[]⟩
def kf (P : Params) : PySem.W.Frag := (nat_lit 3, kg P) :: (nat_lit 54, c0 11 250 17 2 49 50 (.ref 51) (.ref 52) 53 257 17 258) :: (nat_lit 55, f0 11 km0 54) :: (nat_lit 61, c0 12 260 22 1 56 57 (.ref 58) (.ref 59) 60 264 22 265) :: (nat_lit 62, f0 12 km0 61) :: (nat_lit 68, c0 13 267 24 2 63 64 (.ref 65) (.ref 66) 67 272 24 273) :: (nat_lit 69, f0 13 km0 68) :: (nat_lit 75, c0 14 275 26 2 70 71 (.ref 72) (.ref 73) 74 280 26 281) :: (nat_lit 76, f0 14 km0 75) :: (nat_lit 82, c0 16 285 29 5 77 78 (.ref 79) (.ref 80) 81 296 29 297) :: (nat_lit 83, f0 16 km1 82) :: (nat_lit 89, c0 17 299 37 3 84 85 (.ref 86) (.ref 87) 88 311 37 312) :: (nat_lit 90, f0 17 km1 89) :: (nat_lit 96, c0 20 318 50 2 91 92 (.ref 93) (.ref 94) 95 325 50 326) :: (nat_lit 97, f0 20 km2 96) :: (nat_lit 103, c0 21 328 53 3 98 99 (.ref 100) (.ref 101) 102 339 53 340) :: (nat_lit 104, f0 21 km2 103) :: (nat_lit 110, c0 22 342 59 3 105 106 (.ref 107) (.ref 108) 109 348 59 349) :: (nat_lit 111, f0 22 km2 110) :: (nat_lit 117, c0 23 351 61 3 112 113 (.ref 114) (.ref 115) 116 357 61 358) :: (nat_lit 118, f0 23 km2 117) :: (nat_lit 122, c0 24 360 63 2 119 120 .none .none 121 363 63 364) :: (nat_lit 123, f0 24 km2 122) :: (nat_lit 129, c0 25 366 65 1 124 125 (.ref 126) (.ref 127) 128 371 65 372) :: (nat_lit 130, f0 25 km2 129) :: (nat_lit 136, c0 26 374 70 3 131 132 (.ref 133) (.ref 134) 135 382 70 383) :: (nat_lit 137, f0 26 km2 136) :: (nat_lit 143, c0 27 385 78 3 138 139 (.ref 140) (.ref 141) 142 391 78 392) :: (nat_lit 144, f0 27 km2 143) :: (nat_lit 150, c0 28 394 82 2 145 146 (.ref 147) (.ref 148) 149 403 82 404) :: (nat_lit 151, f0 28 km2 150) :: (nat_lit 157, c0 30 408 95 2 152 153 (.ref 154) (.ref 155) 156 413 95 414) :: (nat_lit 158, f0 30 km3 157) :: (nat_lit 164, c0 31 416 99 2 159 160 (.ref 161) (.ref 162) 163 423 99 424) :: (nat_lit 165, f0 31 km3 164) :: (nat_lit 171, c0 32 426 108 2 166 167 (.ref 168) (.ref 169) 170 433 108 434) :: (nat_lit 172, f0 32 km3 171) :: (nat_lit 178, c0 33 436 113 1 173 174 (.ref 175) (.ref 176) 177 441 113 442) :: (nat_lit 179, f0 33 km3 178) :: (nat_lit 183, c0 34 444 118 2 180 181 .none .none 182 447 118 448) :: (nat_lit 184, f0 34 km3 183) :: (nat_lit 190, c0 35 450 128 3 185 186 (.ref 187) (.ref 188) 189 460 128 461) :: (nat_lit 191, f0 35 km3 190) :: (nat_lit 195, c0 36 463 135 2 192 193 .none .none 194 466 135 467) :: (nat_lit 196, f0 36 km3 195) :: (nat_lit 200, c0 37 469 138 2 197 198 .none .none 199 472 138 473) :: (nat_lit 201, f0 37 km3 200) :: (nat_lit 207, c0 38 475 141 2 202 203 (.ref 204) (.ref 205) 206 486 141 487) :: (nat_lit 208, f0 38 km3 207) :: (nat_lit 212, c0 39 489 150 5 209 210 .none .none 211 492 150 493) :: (nat_lit 213, f0 39 km3 212) :: (nat_lit 219, c0 40 495 158 3 214 215 (.ref 216) (.ref 217) 218 513 158 514) :: (nat_lit 220, f0 40 km3 219) :: (nat_lit 226, c0 41 516 172 3 221 222 (.ref 223) (.ref 224) 225 525 172 526) :: (nat_lit 227, f0 41 km3 226) :: (nat_lit 233, c0 42 528 180 3 228 229 (.ref 230) (.ref 231) 232 538 180 539) :: (nat_lit 234, f0 42 km3 233) :: (nat_lit 238, c0 43 541 192 3 235 236 .none .none 237 544 192 545) :: (nat_lit 239, f0 43 km3 238) :: (nat_lit 245, c0 44 547 194 1 240 241 (.ref 242) (.ref 243) 244 551 194 552) :: (nat_lit 246, f0 44 km3 245) :: (nat_lit 250, c0 45 554 196 2 247 248 .none .none 249 557 196 558) :: (nat_lit 251, f0 45 km3 250) :: (nat_lit 257, c0 46 560 206 2 252 253 (.ref 254) (.ref 255) 256 573 206 574) :: (nat_lit 258, f0 46 km3 257) :: (nat_lit 264, c0 47 576 221 3 259 260 (.ref 261) (.ref 262) 263 586 221 587) :: (nat_lit 265, f0 47 km3 264) :: (nat_lit 269, c0 48 589 229 1 266 267 .none .none 268 592 229 593) :: (nat_lit 270, f0 48 km3 269) :: (nat_lit 274, c0 49 595 231 3 271 272 .none .none 273 598 231 599) :: (nat_lit 275, f0 49 km3 274) :: (nat_lit 281, c0 50 601 239 2 276 277 (.ref 278) (.ref 279) 280 606 239 607) :: (nat_lit 282, f0 50 km3 281) :: (nat_lit 288, c0 51 609 241 1 283 284 (.ref 285) (.ref 286) 287 620 241 621) :: (nat_lit 289, f0 51 km3 288) :: []
def ka : List Addr := [3, 54, 55, 61, 62, 68, 69, 75, 76, 82, 83, 89, 90, 96, 97, 103, 104, 110, 111, 117, 118, 122, 123, 129, 130, 136, 137, 143, 144, 150, 151, 157, 158, 164, 165, 171, 172, 178, 179, 183, 184, 190, 191, 195, 196, 200, 201, 207, 208, 212, 213, 219, 220, 226, 227, 233, 234, 238, 239, 245, 246, 250, 251, 257, 258, 264, 265, 269, 270, 274, 275, 281, 282, 288, 289]
theorem kae (P : Params) : ka = (kf P).map (·.1) := by kernel_rfl
def vw : Program := { PySem.Challenge.pw_shootdays_k57_whole_sheets_read_back with main := { PySem.Challenge.pw_shootdays_k57_whole_sheets_read_back.main with body := [top 1, top 2, top 4, top 5, top 6, top 7, top 8, top 9, top 10, top 11, top 12, top 13, top 14, top 16, top 17, top 19, top 20, top 21, top 22, top 23, top 24, top 25, top 26, top 27, top 28, top 30, top 31, top 32, top 33, top 34, top 35, top 36, top 37, top 38, top 39, top 40, top 41, top 42, top 43, top 44, top 45, top 46, top 47, top 48, top 49, top 50, top 51] } }
end Hd
end
section
open PySem PySem.W PyProof.Rows
theorem Hd.tlook : PySem.Challenge.rw_shootdays_k57_whole_sheets_read_back.wellSaid = true := by kernel_rfl
theorem Hd.thl : LeftO (OpenLaw.row PySem.Challenge.rw_shootdays_k57_whole_sheets_read_back).prog Hd.vw [] (fun s => xlAt Hd.vw [] s && recOk (OpenRow.toRowW (OpenLaw.row PySem.Challenge.rw_shootdays_k57_whole_sheets_read_back)).records s) (Hook.obs (kHook Hd.kf Hd.ka Hd.kae)) (Hook.val (kHook Hd.kf Hd.ka Hd.kae)) 3576 := fun w => by kernel_rfl
end
section
namespace L2
inductive V where
 | non | bl (b : Bool) | int (i : Int) | str (x : Str) | byt (b : Array UInt8) | flt (b : UInt64) | ref (a : Addr) | ty (n : String)
 deriving DecidableEq
def RelV : V → Value → Prop
 | .non, u => u = Value.none
 | .bl b, u => u = Value.bool b
 | .int i, u => ∃ t, u = Value.int i t
 | .str x, u => ∃ t, u = Value.str x t
 | .byt b, u => ∃ t, u = Value.bytes b t
 | .flt b, u => ∃ t, u = Value.float b t
 | .ref a, u => u = Value.ref a
 | .ty n, u => u = Value.type n
abbrev Vals : List V → List Value → Prop := Paired RelV
theorem Vals.length (r : Vals xs us) : xs.length = us.length := Paired.length r
theorem Vals.get : ∀ {xs} {us} {i : Nat} {x}, Vals xs us → xs[i]? = some x → ∃ u, us[i]? = some u ∧ RelV x u
 | _, _, _, _, .nil, e => by simp at e
 | _, _, 0, _, .cons r _, e => by grind
 | _, _, i + 1, x, .cons _ t, e => by
  obtain ⟨u, h1, h2⟩ := Vals.get t (by simpa using e)
  grind
theorem Vals.set (r : RelV x u) : ∀ {xs} {us} (i : Nat), Vals xs us → Vals (xs.set i x) (us.set i u)
 | _, _, _, .nil => .nil
 | _, _, 0, .cons _ t => .cons r t
 | _, _, i + 1, .cons q t => .cons q (Vals.set r i t)
theorem Vals.append : ∀ {xs ys} {us ws}, Vals xs us → Vals ys ws → Vals (xs ++ ys) (us ++ ws)
 | _, _, _, _, .nil, s => s
 | _, _, _, _, .cons r t, s => .cons r (Vals.append t s)
theorem Vals.take : ∀ {xs} {us} (n : Nat), Vals xs us → Vals (xs.take n) (us.take n)
 | _, _, 0, _ => .nil
 | _, _, _ + 1, .nil => .nil
 | _, _, n + 1, .cons r t => .cons r (Vals.take n t)
theorem Vals.drop : ∀ {xs} {us} (n : Nat), Vals xs us → Vals (xs.drop n) (us.drop n)
 | _, _, 0, r => r
 | _, _, _ + 1, .nil => .nil
 | _, _, n + 1, .cons _ t => Vals.drop n t
def RelO : Option V → Option Value → Prop
 | some v, some u => RelV v u
 | none, none => True
 | _, _ => False
inductive HO where
 | lst (xs : List V)
 | tup (xs : List V)
 | set (S : Int → Bool) (n : Nat)
 | ins (C dx : Addr) (fs : List (Str × V))
 | own (x : Addr)
 | xd (fs : List (Str × V))
 | met (f x : Addr)
 | rng (lo hi : Int)
 | frz (o : Obj) (u : HO)
 | tbl (ps : Array Value)
 | ext (φ : Heap → Prop)
abbrev Hp := Addr → Option HO
def upd (H : Hp) (a : Addr) (o : HO) : Hp := fun b => if b = a then some o else H b
theorem upd_same : upd H a o a = some o := by unfold upd; rw [if_pos rfl]
theorem upd_ne {a b} {o} (h : b ≠ a) : upd H a o b = H b := by unfold upd; rw [if_neg h]
theorem ne_of_none {H : Hp} {a b} {o} (h : H a = some o) (h' : H b = none) : a ≠ b := by
 grind
section
variable (P : Program) (w : World)
def ObjOk (H : Hp) (h : Heap) (a : Addr) : HO → Prop
 | .lst xs => xs.length ≤ sizeLine ∧ ∃ (its : List Value) (n : Nat), Vals xs its ∧ h.get? a = some { cls := .type "list", data := .seq its.toArray n }
 | .tup xs => xs.length ≤ sizeLine ∧ ∃ its : List Value, Vals xs its ∧ IsTup h a its.toArray
 | .set S n => h.SetOf (intKind P w) a S n
 | .ins C dx fs => H dx = some (.own a) ∧ fs.length ≤ 1000 ∧ dx ≠ a ∧ h.get? a = some (PySem.W.instObj C dx) ∧
  ∃ mA, h.Ns1 dx mA ∧ (∀ f, RelO (fs.lookup f) (mA f)) ∧ PySem.Within mA (fs.map (·.1))
 | .own _ => ∃ o, h.get? a = some o
 | .xd fs => ∃ mA, h.Ns1 a mA ∧ ∀ f, RelO (fs.lookup f) (mA f)
 | .rng lo hi => ∃ t u v, h.get? a = some { cls := .type "range", data := .fields #[.int lo t, .int hi u, .int 1 v] }
 | .frz o u => h.get? a = some o ∧ ObjOk H h a u
 | .tbl ps => h.get? a = some { cls := .none, data := .fields ps }
 | .met f x => h.get? a = some (PySem.W.methodObj (.ref f) (.ref x))
 | .ext φ => φ h ∧ (∃ o, h.get? a = some o) ∧ ∀ h1 h2 : Heap, φ h1 → (∀ o, h1.get? a = some o → h2.get? a = some o) → φ h2
def HOk (H : Hp) (h : Heap) : Prop := ∀ a o, H a = some o → ObjOk P w H h a o
end
section
variable {P : Program} {w : World} {H H' : Hp} {h h' : Heap} {a : Addr} {o : HO}
theorem ObjOk.lt (x : ObjOk P w H h a o) : a < h.objs.size := by
 cases o with
 | lst xs => obtain ⟨_, _, _, _, e⟩ := x; exact Heap.lt_size e
 | tup xs => obtain ⟨_, _, _, p⟩ := x; exact p.lt
 | set S n => obtain ⟨o, _, _, _, e, _⟩ := x; exact Heap.lt_size e
 | ins C dx fs => obtain ⟨_, _, _, e, _⟩ := x; exact Heap.lt_size e
 | own y => obtain ⟨_, e⟩ := x; exact Heap.lt_size e
 | xd fs => obtain ⟨_, ⟨_, _, _, e, _⟩, _⟩ := x; exact Heap.lt_size e
 | rng lo hi => obtain ⟨_, _, _, e⟩ := x; exact Heap.lt_size e
 | frz ob u => obtain ⟨e, _⟩ := x; exact Heap.lt_size e
 | tbl ps => exact Heap.lt_size (show h.get? a = some _ from x)
 | met f y => exact Heap.lt_size (show h.get? a = some _ from x)
 | ext φ => obtain ⟨_, ⟨_, e⟩, _⟩ := x; exact Heap.lt_size e
theorem ObjOk.stay (x : ObjOk P w H h a o) (k : ∀ b u, (b = a ∨ H b = some (.own a)) → h.get? b = some u → h'.get? b = some u)
 (ho : ∀ b, H b = some (.own a) → H' b = some (.own a)) : ObjOk P w H' h' a o := by
 induction o with
 | lst xs => obtain ⟨z, its, n, r, e⟩ := x; exact ⟨z, its, n, r, k _ _ (.inl rfl) e⟩
 | tup xs => obtain ⟨z, its, r, ob, e, c⟩ := x; exact ⟨z, its, r, ob, k _ _ (.inl rfl) e, c⟩
 | set S n => obtain ⟨ob, es, ep, t, e, c⟩ := x; exact ⟨ob, es, ep, t, k _ _ (.inl rfl) e, c⟩
 | ins C dx fs =>
  obtain ⟨d, z, ne, e, mA, ⟨od, es, ep, e2, c⟩, r⟩ := x
  exact ⟨ho _ d, z, ne, k _ _ (.inl rfl) e, mA, ⟨od, es, ep, k _ _ (.inr d) e2, c⟩, r⟩
 | own y => obtain ⟨ob, e⟩ := x; exact ⟨ob, k _ _ (.inl rfl) e⟩
 | xd fs => obtain ⟨mA, ⟨od, es, ep, e, c⟩, r⟩ := x; exact ⟨mA, ⟨od, es, ep, k _ _ (.inl rfl) e, c⟩, r⟩
 | rng lo hi => obtain ⟨t, u, v, e⟩ := x; exact ⟨t, u, v, k _ _ (.inl rfl) e⟩
 | frz ob u ih => obtain ⟨e, q⟩ := x; exact ⟨k _ _ (.inl rfl) e, ih q⟩
 | tbl ps =>
  have e : h.get? a = some { cls := .none, data := .fields ps } := x
  show h'.get? a = some { cls := .none, data := .fields ps }
  exact k a _ (.inl rfl) e
 | met f y =>
  have e : h.get? a = some (PySem.W.methodObj (.ref f) (.ref y)) := x
  show h'.get? a = some (PySem.W.methodObj (.ref f) (.ref y))
  exact k a _ (.inl rfl) e
 | ext φ => obtain ⟨p, ⟨o, e⟩, st⟩ := x; exact ⟨st _ _ p fun o q => k _ _ (.inl rfl) q, ⟨o, k _ _ (.inl rfl) e⟩, st⟩
theorem HOk.lt (x : HOk P w H h) (e : H a = some o) : a < h.objs.size := (x a o e).lt
theorem HOk.fresh (x : HOk P w H h) (e : h.objs.size ≤ a) : H a = none := by
 cases q : H a with
 | none => rfl
 | some u => exact absurd (Nat.lt_of_lt_of_le (x.lt q) e) (Nat.lt_irrefl _)
theorem HOk.kept (x : HOk P w H h) (k : ∀ b u, h.get? b = some u → h'.get? b = some u) : HOk P w H h' := fun a o e =>
 (x a o e).stay (fun b u _ q => k b u q) fun _ q => q
theorem HOk.laid (x : HOk P w H h) (k : ∀ b u, h.get? b = some u → h'.get? b = some u) (hp : h.objs.size ≤ a) (new : ObjOk P w (upd H a o) h' a o) : HOk P w (upd H a o) h' := fun b u e => by
 have hn := x.fresh hp
 by_cases hb : b = a
 · subst hb; rw [upd_same] at e; cases e; exact new
 · rw [upd_ne hb] at e
   exact (x b u e).stay (fun c v _ q => k c v q) fun c q => by rw [upd_ne (ne_of_none q hn)]; exact q
end
def Rd (H : Hp) (a : Addr) (u : HO) : Prop := H a = some u ∨ ∃ o, H a = some (.frz o u)
theorem Rd.ok {H} {h} {a} {u} (r : Rd H a u) (x : HOk P w H h) : ObjOk P w H h a u := by
 rcases r with r | ⟨o, r⟩
 · exact x a u r
 · obtain ⟨_, q⟩ := x a _ r
   exact q
def Mut : Option HO → Prop
 | some (.lst _) => True
 | some (.set _ _) => True
 | some (.ins _ _ _) => True
 | some (.ext _) => True
 | _ => False
section
variable {P : Program} {w : World} {H : Hp} {h h' : Heap} {x e : Addr} {o' : HO}
theorem HOk.write (ok : HOk P w H h) (mu : Mut (H x)) (he : e = x ∨ H e = some (.own x)) (k : ∀ b u, b ≠ e → h.get? b = some u → h'.get? b = some u) (heo : ∃ u, h'.get? e = some u)
 (new : ObjOk P w (upd H x o') h' x o') : HOk P w (upd H x o') h' := fun b u q => by
 have nown : ∀ c y, H c = some (.own y) → c ≠ x := fun c y r z => by subst z; rw [r] at mu; exact mu
 by_cases hb : b = x
 · subst hb; rw [upd_same] at q; cases q; exact new
 · rw [upd_ne hb] at q
   by_cases hbe : b = e
   · have q' : H b = some (.own x) := by
      rcases he with z | z
      · exact absurd (hbe.trans z) hb
      · rw [hbe]; exact z
     rw [q] at q'; cases q'
     obtain ⟨v, hv⟩ := heo
     exact ⟨v, by rw [hbe]; exact hv⟩
   · refine (ok b u q).stay (fun c v hc r => k c v ?_ r) fun c r => by rw [upd_ne (nown c b r)]; exact r
     rcases hc with rfl | hc
     · exact hbe
     · rintro rfl
       rcases he with z | z
       · exact nown c b hc z
       · rw [hc] at z; cases z; exact hb rfl
end
structure Un (fs ex : List Addr) (H H' : Hp) (h h' : Heap) : Prop where
 keep : ∀ b o, h.get? b = some o → H b = none → b ∉ fs → b ∉ ex → h'.get? b = some o
 slot : ∀ b o, h.get? b = some o → H b = none → b ∈ fs → b ∉ ex → ∃ sl, h'.get? b = some { o with slots := sl }
 free : ∀ b o, h.get? b = some o → H b = none → b ∉ ex → H' b = none
 there : ∀ b o, h.get? b = some o → b ∉ ex → ∃ o', h'.get? b = some o'
 tups : ∀ b xs, H b = some (.tup xs) → H' b = some (.tup xs)
 frzs : ∀ b o u, H b = some (.frz o u) → H' b = some (.frz o u)
 tbls : ∀ b ps, H b = some (.tbl ps) → ∃ more, H' b = some (.tbl (ps ++ more))
section
variable {fs fs' ex ex' : List Addr} {H H1 H2 : Hp} {h h1 h2 h' : Heap} {a x e : Addr} {o : HO}
theorem Un.any (u : Un fs ex H H1 h h1) {b} {ob} (q : h.get? b = some ob) (n : H b = none) (hx : b ∉ ex) : ∃ sl, h1.get? b = some { ob with slots := sl } := by
 by_cases hb : b ∈ fs
 · exact u.slot b ob q n hb hx
 · exact ⟨_, u.keep b ob q n hb hx⟩
theorem Un.kept (k : ∀ b u, h.get? b = some u → h'.get? b = some u) : Un fs ex H H h h' :=
 ⟨fun b ob q _ _ _ => k b ob q, fun b ob q _ _ _ => ⟨_, k b ob q⟩, fun _ _ _ n _ => n, fun b ob q _ => ⟨ob, k b ob q⟩, fun _ _ q => q, fun _ _ _ q => q, fun _ ps q => ⟨#[], by rw [q]; simp⟩⟩
theorem Un.refl : Un fs ex H H h h := Un.kept fun _ _ q => q
theorem Un.laid (k : ∀ b u, h.get? b = some u → h'.get? b = some u) (hp : h.objs.size ≤ a) (hn : H a = none) : Un fs ex H (upd H a o) h h' where
 keep := fun b u q _ _ _ => k b u q
 slot := fun b u q _ _ _ => ⟨_, k b u q⟩
 free := fun b u q n _ => by rw [upd_ne (Nat.ne_of_lt (Nat.lt_of_lt_of_le (Heap.lt_size q) hp))]; exact n
 there := fun b u q _ => ⟨u, k b u q⟩
 tups := fun b xs q => by rw [upd_ne (ne_of_none q hn)]; exact q
 frzs := fun b u xs q => by rw [upd_ne (ne_of_none q hn)]; exact q
 tbls := fun b ps q => ⟨#[], by rw [upd_ne (ne_of_none q hn), q]; simp⟩
theorem Un.write (mu : Mut (H x)) (he : e = x ∨ H e = some (.own x)) (k : ∀ b u, b ≠ e → h.get? b = some u → h'.get? b = some u) (heo : ∃ u, h'.get? e = some u) : Un fs ex H (upd H x o) h h' := by
 have hx : ∀ b, H b = none → b ≠ x := fun b n z => by subst z; rw [n] at mu; exact mu
 have hb : ∀ b, H b = none → b ≠ e := fun b n z => by
  grind
 have hm : ∀ b u, H b = some u → ¬ Mut (some u) → b ≠ x := fun b u q nm z => by grind
 refine ⟨fun b u q n _ _ => k b u (hb b n) q, fun b u q n _ _ => ⟨_, k b u (hb b n) q⟩, fun b u q n _ => by rw [upd_ne (hx b n)]; exact n, fun b u q _ => ?_,
  fun b xs q => by rw [upd_ne (hm b _ q fun z => z)]; exact q, fun b u xs q => by rw [upd_ne (hm b _ q fun z => z)]; exact q, fun b ps q => ⟨#[], by rw [upd_ne (hm b _ q fun z => z), q]; simp⟩⟩
 by_cases hbe : b = e
 · subst hbe; exact heo
 · exact ⟨u, k b u hbe q⟩
end
def trk (h : Heap) (H : Hp) : List Addr := (List.range h.objs.size).filter fun a => (H a).isSome
def hidT (h : Heap) (H : Hp) : Heap := PySem.W.hideAll h (trk h H)
theorem hidT_size (h : Heap) (H : Hp) : (hidT h H).objs.size = h.objs.size := PySem.W.hideAll_size _ _
theorem hidT_get {H} {b} {o} (e : h.get? b = some o) (n : H b = none) : (hidT h H).get? b = some o :=
 PySem.W.hideAll_get _ e fun hm => by
  have q := (List.mem_filter.mp hm).2
  rw [n] at q; simp at q
theorem of_hidT {o} (e : (hidT h H).get? b = some o) : h.get? b = some o ∧ H b = none := by
 have e' := PySem.W.of_hideAll _ e
 refine ⟨e', ?_⟩
 cases q : H b with
 | none => rfl
 | some x =>
  have hm : b ∈ trk h H := List.mem_filter.mpr ⟨List.mem_range.mpr (Heap.lt_size e'), by simp [q]⟩
  have z : (hidT h H).get? b = none := PySem.W.hideAll_none _ hm
  rw [z] at e; cases e
def allNews (g h : Heap) (L : Addr) : List (Addr × Obj) := (List.range h.objs.size).filterMap fun a => if a = L ∨ (g.get? a).isSome = true then none else (h.get? a).map fun o => (a, o)
def rest (g h : Heap) (L d : Addr) : List (Addr × Obj) := (allNews g h L).filter fun p => decide (p.1 ≠ d)
structure Mod (K : PySem.W.Frag) (mg : Str → Option Value) (base : Heap) : Prop where
 kin : K.In base
 glob : base.Ns mainGlobals mg
 blt : ∃ mb, base.Ns builtinsNs mb ∧ ∀ x : Str, x ≠ "__name__" → mb x = bootBuiltins x
 nolimit : base.NoLimit
structure Cx where
 prog : Program
 w : World
 K : PySem.W.Frag
 mg : Str → Option Value
 base : Heap
 A : Around
 N : List Str
 s₀ : Shared
 H₀ : Hp
 env : Env
 outer : List Env
 stack : List Env
 ex : List Addr
 fn : Str → Bool
 calm : Bool
 pn : List (Addr × Obj)
 xe : Value → Shared → Prop
def frs (l : List Env) : List Addr := l.filterMap (·.frame)
abbrev Cx.fs (X : Cx) : List Addr := frs X.outer
def Vis (sc : Scope) (x : Str) : Prop := sc.names.lookup x = some .local ∨ sc.names.lookup x = some .cell ∨ sc.names.lookup x = some .free
def Loc (sc : Scope) (x : Str) : Prop := sc.names.lookup x = some .local ∨ sc.names.lookup x = some .cell
def Look (env : Env) (h : Heap) (m : Str → Option Value) (x : Str) (u : Value) : Prop :=
 (env.kindOf x = some .local ∧ m x = some u) ∨ ((env.kindOf x = some .cell ∨ env.kindOf x = some .free) ∧ ∃ c, env.cells.lookup x = some c ∧ h.IsCell c (some u))
structure Cx.Ok (X : Cx) : Prop where
 mod : Mod X.K X.mg X.base
 kind : X.env.scope.kind = .function
 glob : X.env.globals = mainGlobals
 blt : X.env.builtins = builtinsNs
 above : X.s₀.heap.objs.size ≤ X.env.locals
 inj : ∀ x y c, X.env.cells.lookup x = some c → X.env.cells.lookup y = some c → x = y
 has : ∀ x, (X.env.kindOf x = some .cell ∨ X.env.kindOf x = some .free) → ∃ c, X.env.cells.lookup x = some c
 cab : ∀ x c, X.fn x = true → X.env.cells.lookup x = some c → X.s₀.heap.objs.size ≤ c
 hd : X.calm = true → X.A.handled = none
 frames : X.A.frames = some X.stack
 stk : X.stack = X.outer ∨ (X.stack = X.env :: X.outer ∧ X.env.frame = some X.env.locals)
 exf : ∀ b ∈ X.ex, b ≠ X.env.locals ∧ ∀ x c, X.env.cells.lookup x = some c → c ≠ b
 bs : ∀ b o, X.base.get? b = some o → X.s₀.heap.get? b = some o ∧ X.H₀ b = none
 bsz : X.base.objs.size ≤ X.s₀.heap.objs.size
 noex : ∀ b o, X.base.get? b = some o → b ∉ X.ex
 exfs : ∀ b ∈ X.ex, b ∉ X.fs
 funs : X.s₀.heap.FunFrames X.base X.outer
 frf : ∀ b ∈ X.fs, X.H₀ b = none
def OsG (s0 s : Shared) : Prop := s.os = s0.os ∧ s0.gens.size ≤ s.gens.size
structure Inv (X : Cx) (pins : List (Addr × Obj)) (σ : List (Option V)) (H : Hp) (s : Shared) : Prop where
 ok : X.Ok
 os : OsG X.s₀ s
 bare : AllBare s.gens
 base : Un X.fs X.ex X.H₀ H X.s₀.heap s.heap
 loc : ∃ m, s.heap.Ns X.env.locals m ∧ ∀ (i : Nat) (x : Str) (v : V), X.N[i]? = some x → σ[i]? = some (some v) → Vis X.env.scope x → ∃ u, RelV v u ∧ Look X.env s.heap m x u
 cell : ∀ x c, X.env.cells.lookup x = some c → ∃ v, s.heap.IsCell c v
 free : H X.env.locals = none
 freeC : ∀ x c, X.env.cells.lookup x = some c → H c = none
 pin : ∀ p ∈ X.pn ++ pins, s.heap.get? p.1 = some p.2 ∧ H p.1 = none ∧ p.1 ≠ X.env.locals ∧ p.1 ∉ X.fs ∧ ∀ v, p.2.data ≠ .cell v
 hok : HOk X.prog X.w H s.heap
 len : σ.length = X.N.length
section
variable {X : Cx} {pins : List (Addr × Obj)} {σ : List (Option V)} {H H' : Hp} {s : Shared} {h' : Heap}
theorem Cx.Ok.nofr (ok : X.Ok) {b} {o} (e : X.base.get? b = some o) : b ∉ X.fs := fun hb => by
 have := (ok.funs.mem hb).1
 grind
theorem Inv.bs (I : Inv X pins σ H s) : ∀ b o, X.base.get? b = some o → s.heap.get? b = some o ∧ H b = none := fun b o e =>
 ⟨I.base.keep b o (I.ok.bs b o e).1 (I.ok.bs b o e).2 (I.ok.nofr e) (I.ok.noex b o e), I.base.free b o (I.ok.bs b o e).1 (I.ok.bs b o e).2 (I.ok.noex b o e)⟩
theorem Inv.bk (I : Inv X pins σ H s) : ∀ b o, X.base.get? b = some o → s.heap.get? b = some o := fun b o e => (I.bs b o e).1
theorem Inv.mod (I : Inv X pins σ H s) : Mod X.K X.mg X.base := I.ok.mod
theorem Inv.kIn (I : Inv X pins σ H s) : X.K.In s.heap := I.ok.mod.kin.keeps I.bk
theorem Inv.nolimit (I : Inv X pins σ H s) : s.heap.NoLimit := I.ok.mod.nolimit.keeps I.bk
theorem Inv.lt (I : Inv X pins σ H s) : X.env.locals < s.heap.objs.size := let ⟨_, hn, _⟩ := I.loc; hn.lt
theorem Inv.sz (I : Inv X pins σ H s) : X.s₀.heap.objs.size ≤ s.heap.objs.size := Nat.le_trans I.ok.above (Nat.le_of_lt I.lt)
theorem Inv.nofs (I : Inv X pins σ H s) {a : Addr} (h : s.heap.objs.size ≤ a) : a ∉ X.fs := fun hb => by
 obtain ⟨_, o, ho, _⟩ := I.ok.funs.mem hb
 exact absurd (Nat.lt_of_lt_of_le (Heap.lt_size ho) (Nat.le_trans I.sz h)) (Nat.lt_irrefl _)
theorem Inv.cne (I : Inv X pins σ H s) : ∀ x c, X.env.cells.lookup x = some c → c ≠ X.env.locals := fun x c e z => by
 obtain ⟨v, o, ho, hd⟩ := I.cell x c e
 obtain ⟨m, ⟨o', es, ep, ho', hd', _⟩, _⟩ := I.loc
 grind
theorem Inv.funs (I : Inv X pins σ H s) : s.heap.FunFrames X.base X.outer := by
 have all : ∀ (l : List _), (∀ b ∈ frs l, b ∈ X.fs) → X.s₀.heap.FunFrames X.base l → s.heap.FunFrames X.base l := by
  intro l
  induction l with
  | nil => intro _ _; trivial
  | cons env r ih =>
   intro hs hl
   obtain ⟨hk, ⟨L, o, hf, hn, ho, hd⟩, hr⟩ := hl
   have hL := hs L (by unfold frs; simp_all)
   obtain ⟨sl, e⟩ := I.base.slot L o ho (I.ok.frf L hL) hL fun z => I.ok.exfs L z hL
   exact ⟨hk, ⟨L, _, hf, hn, e, hd⟩, ih (fun b hb => hs b (by unfold frs; rw [List.filterMap_cons, hf]; exact List.mem_cons_of_mem _ hb)) hr⟩
 exact all _ (fun _ hb => hb) I.ok.funs
theorem Inv.stack (I : Inv X pins σ H s) : s.heap.FunFrames X.base X.stack := by
 rcases I.ok.stk with e | ⟨e, hf⟩
 · rw [e]; exact I.funs
 · rw [e]
   obtain ⟨m, hn, _⟩ := I.loc
   refine .cons (by rw [I.ok.kind]; decide) hf hn ?_ I.funs
   exact Heap.get?_none_of_le (Nat.le_trans I.ok.bsz I.ok.above)
theorem Inv.stkSub (I : Inv X pins σ H s) : ∀ b ∈ frs X.stack, b ∈ X.env.locals :: X.fs := fun b hb => by
 rcases I.ok.stk with e | ⟨e, hf⟩
 · simp_all
 · rw [e] at hb
   unfold frs at hb
   rw [List.filterMap_cons, hf] at hb
   exact hb
theorem Inv.stkFree (I : Inv X pins σ H s) : ∀ b ∈ frs X.stack, H b = none := fun b hb => by
 rcases List.mem_cons.mp (I.stkSub b hb) with e | hb
 · rw [e]; exact I.free
 · obtain ⟨_, o, ho, _⟩ := I.ok.funs.mem hb
   exact I.base.free b o ho (I.ok.frf b hb) fun z => I.ok.exfs b z hb
theorem Inv.step {g' : Array GenState} {t' : Nat} {d' : Drawn} {ch : List Addr} (I : Inv X pins σ H s)
 (hch : ∀ b ∈ ch, (b ∈ X.ex ∨ X.s₀.heap.objs.size ≤ b) ∧ b ≠ X.env.locals ∧ (∀ x c, X.env.cells.lookup x = some c → c ≠ b) ∧ ∀ p ∈ X.pn ++ pins, p.1 ≠ b)
 (keep : ∀ b o, b ≠ X.env.locals → b ∉ X.fs → b ∉ ch → s.heap.get? b = some o → H b = none → h'.get? b = some o)
 (slot : ∀ b o, b ≠ X.env.locals → b ∈ X.fs → b ∉ ch → s.heap.get? b = some o → H b = none → ∃ sl, h'.get? b = some { o with slots := sl }) (free : ∀ b o, b ∉ ch → s.heap.get? b = some o → H b = none → H' b = none)
 (there : ∀ b o, b ∉ ch → s.heap.get? b = some o → ∃ o', h'.get? b = some o')
 (tups : ∀ b xs, H b = some (.tup xs) → H' b = some (.tup xs)) (frzs : ∀ b o u, H b = some (.frz o u) → H' b = some (.frz o u)) (tbls : ∀ b ps, H b = some (.tbl ps) → ∃ more, H' b = some (.tbl (ps ++ more)))
 (ns : ∀ m, s.heap.Ns X.env.locals m → h'.Ns X.env.locals m) (hok : HOk X.prog X.w H' h') (hg : AllBare g') (hgs : s.gens.size ≤ g'.size) :
 Inv X pins σ H' { s with heap := h', gens := g', drawn := d', toks := t' } := by
 have neL : ∀ b o, X.s₀.heap.get? b = some o → b ≠ X.env.locals := fun b o e => Nat.ne_of_lt (Nat.lt_of_lt_of_le (Heap.lt_size e) I.ok.above)
 have neC : ∀ b o, X.s₀.heap.get? b = some o → b ∉ X.ex → b ∉ ch := fun b o e hx hb => by
  rcases (hch b hb).1 with z | z
  · exact hx z
  · exact absurd (Nat.lt_of_lt_of_le (Heap.lt_size e) z) (Nat.lt_irrefl _)
 have cellK : ∀ x c, X.env.cells.lookup x = some c → ∀ v, s.heap.IsCell c v → h'.IsCell c v := fun x c e v ⟨o, ho, hd⟩ => by
  have nch : c ∉ ch := fun z => (hch c z).2.2.1 x c e rfl
  by_cases hc : c ∈ X.fs
  · obtain ⟨sl, q⟩ := slot c o (I.cne x c e) hc nch ho (I.freeC x c e)
    exact ⟨_, q, hd⟩
  · exact ⟨o, keep c o (I.cne x c e) hc nch ho (I.freeC x c e), hd⟩
 refine ⟨I.ok, ⟨I.os.1, Nat.le_trans I.os.2 hgs⟩, hg, ⟨fun b o e n hb hx => ?_, fun b o e n hb hx => ?_, fun b o e n hx => ?_, fun b o e hx => ?_, fun b xs e => tups b xs (I.base.tups b xs e), fun b o xs e => frzs b o xs (I.base.frzs b o xs e), fun b ps e => ?_⟩, ?_, fun x c e => ?_, ?_, fun x c e => ?_, fun p hp => ?_, hok, I.len⟩
 · exact keep b o (neL b o e) hb (neC b o e hx) (I.base.keep b o e n hb hx) (I.base.free b o e n hx)
 · obtain ⟨sl, e1⟩ := I.base.slot b o e n hb hx
   obtain ⟨sl', e2⟩ := slot b _ (neL b o e) hb (neC b o e hx) e1 (I.base.free b o e n hx)
   exact ⟨sl', e2⟩
 · obtain ⟨o', e1⟩ := I.base.there b o e hx
   exact free b o' (neC b o e hx) e1 (I.base.free b o e n hx)
 · obtain ⟨o', e1⟩ := I.base.there b o e hx
   exact there b o' (neC b o e hx) e1
 · obtain ⟨m1, e1⟩ := I.base.tbls b ps e
   obtain ⟨m2, e2⟩ := tbls b _ e1
   exact ⟨m1 ++ m2, by rw [e2, Array.append_assoc]⟩
 · obtain ⟨m, hn, hl⟩ := I.loc
   refine ⟨m, ns m hn, fun i x v e1 e2 e3 => ?_⟩
   obtain ⟨u, r, l⟩ := hl i x v e1 e2 e3
   refine ⟨u, r, ?_⟩
   rcases l with l | ⟨k, c, e, z⟩
   · exact .inl l
   · exact .inr ⟨k, c, e, cellK x c e _ z⟩
 · obtain ⟨v, z⟩ := I.cell x c e
   exact ⟨v, cellK x c e v z⟩
 · obtain ⟨m, ⟨o, _, _, ho, _⟩, _⟩ := I.loc
   exact free _ o (fun z => (hch _ z).2.1 rfl) ho I.free
 · obtain ⟨v, o, ho, hd⟩ := I.cell x c e
   exact free c o (fun z => (hch c z).2.2.1 x c e rfl) ho (I.freeC x c e)
 · obtain ⟨e, n, ne, nf, d⟩ := I.pin p hp
   have nch : p.1 ∉ ch := fun z => (hch p.1 z).2.2.2 p hp rfl
   exact ⟨keep p.1 p.2 ne nf nch e n, free p.1 p.2 nch e n, ne, nf, d⟩
theorem Inv.un (I : Inv X pins σ H s) (u : Un X.fs [] H H' s.heap h') (hok : HOk X.prog X.w H' h') : Inv X pins σ H' { s with heap := h', toks := t' } := by
 obtain ⟨m, ⟨o, es, ep, ho, r⟩, _⟩ := id I.loc
 obtain ⟨sl, hL⟩ := u.any ho I.free (by simp)
 exact I.step (ch := []) (fun _ z => nomatch z) (fun b o _ hb _ e n => u.keep b o e n hb (by simp)) (fun b o _ hb _ e n => u.slot b o e n hb (by simp)) (fun b o _ e n => u.free b o e n (by simp)) (fun b o _ e => u.there b o e (by simp)) u.tups u.frzs u.tbls (fun m' hm => by
  obtain ⟨o', es', ep', ho', r'⟩ := hm
  rw [ho] at ho'; cases ho'
  exact ⟨_, es', ep', hL, r'⟩) hok I.bare (Nat.le_refl _)
theorem Inv.call {d'} {ch} (I : Inv X pins σ H s) (u : Un (frs X.stack) ch H H' s.heap h') (hok : HOk X.prog X.w H' h') (hg : AllBare g') (hgs : s.gens.size ≤ g'.size)
 (hch : ∀ b ∈ ch, (b ∈ X.ex ∨ X.s₀.heap.objs.size ≤ b) ∧ b ≠ X.env.locals ∧ (∀ x c, X.env.cells.lookup x = some c → c ≠ b) ∧ ∀ p ∈ X.pn ++ pins, p.1 ≠ b) :
 Inv X pins σ H' { s with heap := h', gens := g', drawn := d', toks := t' } := by
 obtain ⟨m, ⟨o, es, ep, ho, r⟩, _⟩ := id I.loc
 obtain ⟨sl, hL⟩ := u.any ho I.free fun z => (hch _ z).2.1 rfl
 exact I.step hch (fun b o hL hb hc e n => u.keep b o e n (fun z => (List.mem_cons.mp (I.stkSub b z)).elim hL hb) hc) (fun b o _ _ hc e n => u.any e n hc) (fun b o hc e n => u.free b o e n hc) (fun b o hc e => u.there b o e hc) u.tups u.frzs u.tbls (fun m' hm => by
  obtain ⟨o', es', ep', ho', r'⟩ := hm
  rw [ho] at ho'; cases ho'
  exact ⟨_, es', ep', hL, r'⟩) hok hg hgs
theorem Inv.turned {t' : Nat} {it : Addr} (I : Inv X pins σ H s) (k : ∀ b o, b ≠ it → s.heap.get? b = some o → h'.get? b = some o) (hn : H it = none) (hL : it ≠ X.env.locals)
 (h1 : it ∈ X.ex ∨ X.s₀.heap.objs.size ≤ it) (h2 : ∀ x c, X.env.cells.lookup x = some c → c ≠ it) (h3 : ∀ p ∈ X.pn ++ pins, p.1 ≠ it) : Inv X pins σ H { s with heap := h', toks := t' } := by
 have nit : ∀ b u, H b = some u → b ≠ it := fun b u e z => by rw [z, hn] at e; cases e
 refine I.step (g' := s.gens) (d' := s.drawn) (ch := [it]) (fun b hb => ?_) (fun b o _ _ hc e _ => k b o (fun z => hc (by simp [z])) e) (fun b o _ _ hc e _ => ⟨o.slots, k b o (fun z => hc (by simp [z])) e⟩) (fun _ _ _ _ n => n)
  (fun b o hc e => ⟨o, k b o (fun z => hc (by simp [z])) e⟩) (fun _ _ e => e) (fun _ _ _ e => e) (fun b ps e => ⟨#[], by rw [e]; simp⟩) (fun m hm => ?_) (fun b u e => ?_) I.bare (Nat.le_refl _)
 · have e : b = it := by simpa using hb
   subst e
   exact ⟨h1, hL, h2, h3⟩
 · obtain ⟨o, es, ep, ho, r⟩ := hm
   exact ⟨o, es, ep, k _ o (Ne.symm hL) ho, r⟩
 · refine (I.hok b u e).stay (fun c v hc q => k c v ?_ q) fun _ q => q
   rcases hc with z | z
   · rw [z]; exact nit b u e
   · exact nit c _ z
theorem Inv.tok (I : Inv X pins σ H s) (t : Nat) : Inv X pins σ H { s with toks := t } := I.un (h' := s.heap) (t' := t) Un.refl I.hok
theorem Inv.kept (I : Inv X pins σ H s) (k : ∀ b u, s.heap.get? b = some u → h'.get? b = some u) : Inv X pins σ H { s with heap := h', toks := t' } := I.un (Un.kept k) (I.hok.kept k)
theorem Inv.laid {a : Addr} {o} {t'} (I : Inv X pins σ H s) (k : ∀ b u, s.heap.get? b = some u → h'.get? b = some u) (hp : s.heap.objs.size ≤ a) (new : ObjOk X.prog X.w (upd H a o) h' a o) :
 Inv X pins σ (upd H a o) { s with heap := h', toks := t' } := I.un (Un.laid k hp (I.hok.fresh hp)) (I.hok.laid k hp new)
theorem Inv.write (I : Inv X pins σ H s) (mu : Mut (H x)) (he : e = x ∨ H e = some (.own x)) (k : ∀ b u, b ≠ e → s.heap.get? b = some u → h'.get? b = some u) (heo : ∃ u, h'.get? e = some u)
 (new : ObjOk X.prog X.w (upd H x o) h' x o) : Inv X pins σ (upd H x o) { s with heap := h', toks := t' } := I.un (Un.write mu he k heo) (I.hok.write mu he k heo new)
theorem Inv.weak (I : Inv X pins σ H s) (hl : σ'.length = σ.length) (w : ∀ (i : Nat) v, σ'[i]? = some (some v) → σ[i]? = some (some v)) : Inv X pins σ' H s :=
 ⟨I.ok, I.os, I.bare, I.base, let ⟨m, hn, hl'⟩ := I.loc; ⟨m, hn, fun i x v e1 e2 e3 => hl' i x v e1 (w i v e2) e3⟩, I.cell, I.free, I.freeC, I.pin, I.hok, hl.trans I.len⟩
theorem Inv.pins_of (I : Inv X pins σ H s) (h : ∀ p ∈ pins', s.heap.get? p.1 = some p.2 ∧ H p.1 = none ∧ p.1 ≠ X.env.locals ∧ p.1 ∉ X.fs ∧ ∀ v, p.2.data ≠ .cell v) : Inv X pins' σ H s :=
 ⟨I.ok, I.os, I.bare, I.base, I.loc, I.cell, I.free, I.freeC, fun p hp => (List.mem_append.mp hp).elim (fun z => I.pin p (List.mem_append_left _ z)) (h p), I.hok, I.len⟩
theorem nodup_ix {N : List Str} (hN : N.Nodup) {i j : Nat} {x} (a : N[i]? = some x) (b : N[j]? = some x) : i = j := by
 obtain ⟨h1, e1⟩ := List.getElem?_eq_some_iff.mp a
 obtain ⟨h2, e2⟩ := List.getElem?_eq_some_iff.mp b
 exact (List.getElem_inj hN).mp (e1.trans e2.symm)
theorem store_ok2 {M : Model} {A : Around} {E : Value → Shared → Prop} {i : Nat} {x : Str} {v : V} {u : Value} {Q : Unit → Shared → Prop} (I : Inv X pins σ H s) (hN : X.N.Nodup) (hi : X.N[i]? = some x) (hx : Loc X.env.scope x) (r : RelV v u)
 (h : ∀ s', Inv X pins (σ.set i (some v)) H s' → (∃ a, Heap.SameBut a s.heap s'.heap ∧ (a = X.env.locals ∨ X.env.cells.lookup x = some a)) → Q () s') (hf : X.fn x = true ∨ X.env.scope.names.lookup x = some .local := by first | exact .inl rfl | exact .inr rfl | assumption) : wpAny M A (storeName X.env x u) Q E s := by
 obtain ⟨m, hn, hl⟩ := id I.loc
 have hcls : (X.env.scope.kind == .class || (X.env.scope.kind == .module && X.env.locals != X.env.globals)) = false := by rw [I.ok.kind]; rfl
 have hiσ : i < σ.length := by rw [I.len]; exact (List.getElem?_eq_some_iff.mp hi).1
 have cne := I.cne
 have tracked : ∀ {a : Addr} {h' : Heap}, (∃ o, s.heap.get? a = some o ∧ H a = none) → Heap.SameBut a s.heap h' → HOk X.prog X.w H h' := fun {a h'} ha hs b ob e => by
  obtain ⟨_, _, hfree⟩ := ha
  refine (I.hok b ob e).stay (fun c w' hc q => (hs.2 c ?_).trans q) fun _ q => q
  rintro rfl
  rcases hc with rfl | hc
  · rw [hfree] at e; cases e
  · rw [hfree] at hc; cases hc
 rcases hx with hk | hk
 · refine wpAny_storeName_local hk hn (fun h' hn' hs => ?_) hcls
   obtain ⟨oL, _, _, hoL, _⟩ := id hn
   refine h _ ⟨I.ok, I.os, I.bare, ⟨fun b o e n hb hx => ?_, fun b o e n hb hx => ?_, I.base.free, fun b o e hx => ?_, I.base.tups, I.base.frzs, I.base.tbls⟩, ⟨_, hn', fun j y v' e1 e2 e3 => ?_⟩, fun y c e => ?_, I.free, I.freeC, fun p hp => ?_, tracked ⟨oL, hoL, I.free⟩ hs, by simpa using I.len⟩ ⟨_, hs, .inl rfl⟩
   · exact (hs.2 b (Nat.ne_of_lt (Nat.lt_of_lt_of_le (Heap.lt_size e) I.ok.above))).trans (I.base.keep b o e n hb hx)
   · obtain ⟨sl, e1⟩ := I.base.slot b o e n hb hx
     exact ⟨sl, (hs.2 b (Nat.ne_of_lt (Nat.lt_of_lt_of_le (Heap.lt_size e) I.ok.above))).trans e1⟩
   · obtain ⟨o', e1⟩ := I.base.there b o e hx
     exact ⟨o', (hs.2 b (Nat.ne_of_lt (Nat.lt_of_lt_of_le (Heap.lt_size e) I.ok.above))).trans e1⟩
   · by_cases hj : j = i
     · subst hj
       rw [hi] at e1; cases e1
       rw [List.getElem?_set_self hiσ] at e2
       cases e2
       exact ⟨u, r, .inl ⟨hk, by simp⟩⟩
     · rw [List.getElem?_set_ne (Ne.symm hj)] at e2
       obtain ⟨u', r', q⟩ := hl j y v' e1 e2 e3
       refine ⟨u', r', ?_⟩
       rcases q with ⟨k, e⟩ | ⟨k, c, e, z⟩
       · refine .inl ⟨k, ?_⟩
         have : y ≠ x := fun e => hj (nodup_ix hN e1 (e ▸ hi))
         simp [this, e]
       · exact .inr ⟨k, c, e, z.sameBut hs (cne y c e)⟩
   · obtain ⟨w', z⟩ := I.cell y c e
     exact ⟨w', z.sameBut hs (cne y c e)⟩
   · obtain ⟨e, n, ne, nf, d⟩ := I.pin p hp
     exact ⟨(hs.2 p.1 ne).trans e, n, ne, nf, d⟩
 · have hfn : X.fn x = true := by
    rcases hf with z | z
    · exact z
    · rw [z] at hk; cases hk
   obtain ⟨c, hc⟩ := I.ok.has x (.inl hk)
   obtain ⟨w', z⟩ := I.cell x c hc
   refine wpAny_storeName_cell I.ok.kind hk hc z (fun h' hc' hs => ?_)
   obtain ⟨oc, hoc, hocd⟩ := id z
   refine h { s with heap := h' } ⟨I.ok, I.os, I.bare, ⟨fun b o e n hb hx => ?_, fun b o e n hb hx => ?_, I.base.free, fun b o e hx => ?_, I.base.tups, I.base.frzs, I.base.tbls⟩, ⟨m, hn.sameBut hs (Ne.symm (cne x c hc)), fun j y v' e1 e2 e3 => ?_⟩, fun y c' e => ?_, I.free, I.freeC, fun p hp => ?_, tracked ⟨oc, hoc, I.freeC x c hc⟩ hs, by simpa using I.len⟩ ⟨c, hs, .inr hc⟩
   · exact (hs.2 b (Nat.ne_of_lt (Nat.lt_of_lt_of_le (Heap.lt_size e) (I.ok.cab x c hfn hc)))).trans (I.base.keep b o e n hb hx)
   · obtain ⟨sl, e1⟩ := I.base.slot b o e n hb hx
     exact ⟨sl, (hs.2 b (Nat.ne_of_lt (Nat.lt_of_lt_of_le (Heap.lt_size e) (I.ok.cab x c hfn hc)))).trans e1⟩
   · obtain ⟨o', e1⟩ := I.base.there b o e hx
     exact ⟨o', (hs.2 b (Nat.ne_of_lt (Nat.lt_of_lt_of_le (Heap.lt_size e) (I.ok.cab x c hfn hc)))).trans e1⟩
   · by_cases hj : j = i
     · subst hj
       rw [hi] at e1; cases e1
       rw [List.getElem?_set_self hiσ] at e2
       cases e2
       exact ⟨u, r, .inr ⟨.inl hk, c, hc, hc'⟩⟩
     · rw [List.getElem?_set_ne (Ne.symm hj)] at e2
       obtain ⟨u', r', q⟩ := hl j y v' e1 e2 e3
       refine ⟨u', r', ?_⟩
       rcases q with q | ⟨k, c', e, z'⟩
       · exact .inl q
       · refine .inr ⟨k, c', e, z'.sameBut hs ?_⟩
         rintro rfl
         exact hj (nodup_ix hN e1 (I.ok.inj _ _ _ e hc ▸ hi))
   · by_cases hcc : c' = c
     · subst hcc; exact ⟨_, hc'⟩
     · obtain ⟨w2, z2⟩ := I.cell y c' e
       exact ⟨w2, z2.sameBut hs hcc⟩
   · obtain ⟨e, n, ne, nf, d⟩ := I.pin p hp
     refine ⟨(hs.2 p.1 ?_).trans e, n, ne, nf, d⟩
     intro q
     rw [q, hoc] at e
     have q' : oc = p.2 := Option.some.inj e
     exact d w' (by rw [← q']; exact hocd)
theorem store_ok {M : Model} {A : Around} {E : Value → Shared → Prop} {i : Nat} {x : Str} {v : V} {u : Value} {Q : Unit → Shared → Prop} (I : Inv X pins σ H s) (hN : X.N.Nodup) (hi : X.N[i]? = some x) (hx : Loc X.env.scope x) (r : RelV v u)
 (h : ∀ s', Inv X pins (σ.set i (some v)) H s' → Q () s') (hf : X.fn x = true ∨ X.env.scope.names.lookup x = some .local := by first | exact .inl rfl | exact .inr rfl | assumption) : wpAny M A (storeName X.env x u) Q E s :=
 store_ok2 I hN hi hx r (fun s' I' _ => h s' I') hf
theorem Inv.call' (I : Inv X pins σ H s) (ho : OsG s s') (u : Un (frs X.stack) ch H H' s.heap s'.heap) (hok : HOk X.prog X.w H' s'.heap) (hg : AllBare s'.gens)
 (hch : ∀ b ∈ ch, (b ∈ X.ex ∨ X.s₀.heap.objs.size ≤ b) ∧ b ≠ X.env.locals ∧ (∀ x c, X.env.cells.lookup x = some c → c ≠ b) ∧ ∀ p ∈ X.pn ++ pins, p.1 ≠ b) : Inv X pins σ H' s' := by
 obtain ⟨h', g', d', t', o'⟩ := s'
 have e := ho.1
 subst e
 exact I.call u hok hg ho.2 hch
end
abbrev XK := Value → Option Addr → Hp → Prop
abbrev St := List (Option V)
abbrev VK := V → Hp → Prop
abbrev TE := St → Hp → VK → Prop
abbrev TT := St → Hp → (Bool → Hp → Prop) → Prop
abbrev TA := St → Hp → (List V → Hp → Prop) → Prop
structure Ends where
 nx : St → Hp → Prop
 rt : VK
 bk : St → Hp → Prop := fun _ _ => False
 ct : St → Hp → Prop := fun _ _ => False
abbrev TS := Ends → St → Hp → Prop
def EP (X : Cx) (pins : List (Addr × Obj)) (σ : St) (Q : VK) (u : Value) (s' : Shared) : Prop := ∃ v H', Inv X pins σ H' s' ∧ RelV v u ∧ Q v H'
def TP (X : Cx) (pins : List (Addr × Obj)) (σ : St) (Q : Bool → Hp → Prop) (b : Bool) (s' : Shared) : Prop := ∃ H', Inv X pins σ H' s' ∧ Q b H'
def AP (X : Cx) (pins : List (Addr × Obj)) (σ : St) (Q : List V → Hp → Prop) (us : List Value) (s' : Shared) : Prop := ∃ vs H', Inv X pins σ H' s' ∧ Vals vs us ∧ Q vs H'
def SP (X : Cx) (pins : List (Addr × Obj)) (D : Ends) (f : Flow) (s' : Shared) : Prop :=
 match f with
 | .next => ∃ σ' H', Inv X pins σ' H' s' ∧ D.nx σ' H'
 | .brk => ∃ σ' H', Inv X pins σ' H' s' ∧ D.bk σ' H'
 | .cont => ∃ σ' H', Inv X pins σ' H' s' ∧ D.ct σ' H'
 | .ret u => ∃ v σ' H', Inv X pins σ' H' s' ∧ RelV v u ∧ D.rt v H'
def PE (X : Cx) (e : Expr) (t : TE) : Prop :=
 ∀ (pins : List (Addr × Obj)) (s : Shared) (σ : St) (H : Hp) (Q : VK), Inv X pins σ H s → t σ H Q → wpAny (model X.prog X.w) X.A (eval e X.env) (EP X pins σ Q) X.xe s
def PT (X : Cx) (e : Expr) (t : TT) : Prop :=
 ∀ (pins : List (Addr × Obj)) (s : Shared) (σ : St) (H : Hp) (Q : Bool → Hp → Prop), Inv X pins σ H s → t σ H Q → wpAny (model X.prog X.w) X.A (isTrue e X.env (eval e X.env)) (TP X pins σ Q) X.xe s
def PW (X : Cx) (e : Expr) (t : TT) : Prop :=
 ∀ (whole : Sem Value) (pins : List (Addr × Obj)) (s : Shared) (σ : St) (H : Hp) (Q : Bool → Hp → Prop), Inv X pins σ H s → t σ H Q → wpAny (model X.prog X.w) X.A (isTrue e X.env whole) (TP X pins σ Q) X.xe s
theorem PW.pt (h : PW X e t) : PT X e t := h _
def PA (X : Cx) (es : List Expr) (t : TA) : Prop :=
 ∀ (pos : Pos) (pins : List (Addr × Obj)) (s : Shared) (σ : St) (H : Hp) (Q : List V → Hp → Prop), Inv X pins σ H s → t σ H Q → wpAny (model X.prog X.w) X.A (spliced (backTo pos (starEach es X.env))) (AP X pins σ Q) X.xe s
def PS (X : Cx) (st : Stmt) (t : TS) : Prop :=
 ∀ (pins : List (Addr × Obj)) (s : Shared) (σ : St) (H : Hp) (D : Ends), Inv X pins σ H s → t D σ H → wpAny (model X.prog X.w) X.A (exec st X.env) (SP X pins D) X.xe s
def PSs (X : Cx) (st : List Stmt) (t : TS) : Prop :=
 ∀ (pins : List (Addr × Obj)) (s : Shared) (σ : St) (H : Hp) (D : Ends), Inv X pins σ H s → t D σ H → wpAny (model X.prog X.w) X.A (execs st X.env) (SP X pins D) X.xe s
theorem thn {M} {A} {E} {s} (h : wpAny M A t Q E s) (hQ : ∀ a s, Q a s → Q' a s) : wpAny M A t Q' E s := wpAny_mono h hQ fun _ _ x => x
section
variable {X : Cx}
theorem bin {a b : Expr} {ta tb : TE} (ha : PE X a ta) (hb : PE X b tb) {pins : List (Addr × Obj)} {s : Shared} {σ : St} {H : Hp} {R : V → V → Hp → Prop} (I : Inv X pins σ H s) (h : ta σ H fun x H1 => tb σ H1 fun y H2 => R x y H2)
 {α : Type} {Q : α → Shared → Prop} {f : Value → Value → Sem α}
 (hf : ∀ v u s2 x y H2, Inv X pins σ H2 s2 → RelV x v → RelV y u → R x y H2 → wpAny (model X.prog X.w) X.A (f v u) Q X.xe s2) :
 wpAny (model X.prog X.w) X.A (eval a X.env) (fun v s₁ => wpAny (model X.prog X.w) X.A (eval b X.env) (fun u s₂ => wpAny (model X.prog X.w) X.A (f v u) Q X.xe s₂) X.xe s₁) X.xe s := by
 refine thn (ha pins s σ H _ I h) fun v s1 ⟨x, H1, I1, r1, q1⟩ => ?_
 refine thn (hb pins s1 σ H1 _ I1 q1) fun u s2 ⟨y, H2, I2, r2, q2⟩ => ?_
 exact hf v u s2 x y H2 I2 r1 r2 q2
def tVar (i : Nat) : TE := fun σ H Q => ∃ v, σ[i]? = some (some v) ∧ Q v H
def tC (v : V) : TE := fun _ H Q => Q v H
theorem pe_var {pos} (hN : X.N[i]? = some x) (hv : Vis X.env.scope x) (hd : (x == "__debug__") = false := by decide) (hcd : (x == "__classdict__") = false := by decide) : PE X (.Name x pos) (tVar i) := by
 intro pins s σ H Q I h
 obtain ⟨v, e, h⟩ := h
 obtain ⟨m, hn, hl⟩ := I.loc
 obtain ⟨u, r, l⟩ := hl i x v hN e hv
 have fin : EP X _ σ Q u s := ⟨v, H, I, r, h⟩
 rcases l with ⟨hk, hm⟩ | ⟨hk, c, hc, hcell⟩
 · exact wpAny_Name (wpAny_loadName_local I.ok.kind hk hn hm fin) hd
 · rcases hk with hk | hk
   · exact wpAny_Name (wpAny_loadName_cell I.ok.kind hk hc hcell fin) hd
   · exact wpAny_Name (wpAny_loadName_free I.ok.kind hk hc hcell fin hcd) hd
theorem pe_int : PE X (.Constant (.int i) j pos) (tC (.int i)) := fun _ _ _ H _ I h => wpAny_Constant_int ⟨.int i, H, I.tok _, ⟨_, rfl⟩, h⟩
theorem pe_bl : PE X (.Constant (.bool b) j pos) (tC (.bl b)) := fun _ _ _ H _ I h => Constant_bool ⟨.bl b, H, I, rfl, h⟩
theorem pe_non : PE X (.Constant .none j pos) (tC .non) := fun _ _ _ H _ I h => Constant_none ⟨.non, H, I, rfl, h⟩
theorem pe_str : PE X (.Constant (.str x) j pos) (tC (.str x)) := fun _ _ _ H _ I h => Calls.Constant_str ⟨.str x, H, I.tok _, ⟨_, rfl⟩, h⟩
def Gl (X : Cx) (x : Str) : Prop := X.env.kindOf x = some .globalImplicit
theorem ld_glob {pins} {s} {σ : St} {H} {x} {u} {pos} {Q} (I : Inv X pins σ H s) (hg : Gl X x) (hm : X.mg x = some u) (h : Q u s)
 (hd : (x == "__debug__") = false := by decide) : wpAny (model X.prog X.w) X.A (eval (.Name x pos) X.env) Q E s :=
 Calls.Name_function_global I.ok.kind hg (Calls.loadGlobal_global (by rw [I.ok.glob]; exact I.mod.glob.keeps I.bk) hm h) hd
theorem ld_blt {E} {pins} {s} {σ : St} {H} {x} {u} {pos} {Q} (I : Inv X pins σ H s) (hg : Gl X x) (hm : X.mg x = none) (hv : bootBuiltins x = some u) (h : Q u s)
 (hn : x ≠ "__name__" := by decide) (hd : (x == "__debug__") = false := by decide) : wpAny (model X.prog X.w) X.A (eval (.Name x pos) X.env) Q E s := by
 obtain ⟨mb, h1, h2⟩ := I.mod.blt
 exact Calls.Name_function_global I.ok.kind hg (Calls.loadGlobal_builtin (by rw [I.ok.glob]; exact I.mod.glob.keeps I.bk) hm (by rw [I.ok.blt]; exact h1.keeps I.bk) ((h2 x hn).trans hv) h) hd
theorem pe_glob {u} {pos} (hg : Gl X x) (hm : X.mg x = some u) (r : RelV v u) (hd : (x == "__debug__") = false := by decide) : PE X (.Name x pos) (tC v) :=
 fun _ _ _ H _ I h => ld_glob I hg hm ⟨v, H, I, r, h⟩ hd
theorem pe_bltn {u} {pos} (hg : Gl X x) (hm : X.mg x = none) (hv : bootBuiltins x = some u) (r : RelV v u) (hn : x ≠ "__name__" := by decide) (hd : (x == "__debug__") = false := by decide) : PE X (.Name x pos) (tC v) :=
 fun _ _ _ H _ I h => ld_blt I hg hm hv ⟨v, H, I, r, h⟩ hn hd
variable {a b : Expr} {ta tb : TE} {pos : Pos}
variable {tA tB' : TT} {rest : List Expr}
def tAnd (t u : TT) : TT := fun σ H Q => t σ H fun c H1 => if c = true then u σ H1 Q else Q false H1
def tOr (t u : TT) : TT := fun σ H Q => t σ H fun c H1 => if c = true then Q true H1 else u σ H1 Q
def tNot (t : TT) : TT := fun σ H Q => t σ H fun c H1 => Q (!c) H1
theorem pw_and1 (ha : PT X a tA) : PW X (.BoolOp .And [a] pos) tA := by
 intro wh pins s σ H Q I h
 refine isTrue_and (thn (ha _ s σ H Q I h) fun c s1 e => ?_)
 cases c with
 | true => exact isTrue_and_nil e
 | false => exact e
theorem pw_or1 (ha : PT X a tA) : PW X (.BoolOp .Or [a] pos) tA := by
 intro wh pins s σ H Q I h
 refine isTrue_or (thn (ha _ s σ H Q I h) fun c s1 e => ?_)
 cases c with
 | false => exact isTrue_or_nil e
 | true => exact e
theorem pw_and (ha : PT X a tA) (hb : PW X (.BoolOp .And (b :: rest) pos) tB') : PW X (.BoolOp .And (a :: b :: rest) pos) (tAnd tA tB') := by
 intro wh pins s σ H Q I h
 refine isTrue_and (thn (ha _ s σ H _ I h) fun c s1 ⟨H1, I1, q1⟩ => ?_)
 cases c with
 | true => exact hb wh _ s1 σ H1 Q I1 q1
 | false => exact ⟨H1, I1, q1⟩
theorem pw_or (ha : PT X a tA) (hb : PW X (.BoolOp .Or (b :: rest) pos) tB') : PW X (.BoolOp .Or (a :: b :: rest) pos) (tOr tA tB') := by
 intro wh pins s σ H Q I h
 refine isTrue_or (thn (ha _ s σ H _ I h) fun c s1 ⟨H1, I1, q1⟩ => ?_)
 cases c with
 | true => exact ⟨H1, I1, q1⟩
 | false => exact hb wh _ s1 σ H1 Q I1 q1
theorem pt_not (ha : PT X a tA) : PT X (.UnaryOp .Not a pos) (tNot tA) := by
 intro pins s σ H Q I h
 exact isTrue_not (ha _ s σ H _ I h)
theorem pe_one {t} (h : PE X a t) : PE X (.BoolOp op [a] pos) t := fun pins s σ H Q I hw => BoolOp_one (h _ s σ H Q I hw)
end
def SqL (K : PySem.W.Frag) (H : Hp) (a : Addr) (xs : List V) : Prop :=
 Rd H a (.lst xs) ∨
  ∃ (o : Obj) (its : Array Value) (n : Nat), K.lookup a = some o ∧ o.cls = .type "list" ∧ o.dict = none ∧ o.data = .seq its n ∧ its.size ≤ sizeLine ∧ Vals xs its.toList
def SqT (K : PySem.W.Frag) (H : Hp) (a : Addr) (xs : List V) : Prop :=
 Rd H a (.tup xs) ∨
  ∃ (o : Obj) (its : Array Value) (n : Nat), K.lookup a = some o ∧ o.cls = .type "tuple" ∧ o.data = .seq its n ∧ its.size ≤ sizeLine ∧ Vals xs its.toList
def absV : Value → Option V
 | .none => some .non
 | .bool b => some (.bl b)
 | .int i _ => some (.int i)
 | .str x _ => some (.str x)
 | .bytes b _ => some (.byt b)
 | .float b _ => some (.flt b)
 | .ref a => some (.ref a)
 | .type n => some (.ty n)
 | _ => none
theorem RelV.abs (r : RelV x u) : absV u = some x := by
 cases x with
 | non => cases r; rfl
 | bl _ => cases r; rfl
 | int _ => obtain ⟨t, rfl⟩ := r; rfl
 | str _ => obtain ⟨t, rfl⟩ := r; rfl
 | byt _ => obtain ⟨t, rfl⟩ := r; rfl
 | flt _ => obtain ⟨t, rfl⟩ := r; rfl
 | ref _ => cases r; rfl
 | ty _ => cases r; rfl
theorem RelV.inj {u} (r : RelV x u) (q : RelV y u) : x = y := Option.some.inj (r.abs.symm.trans q.abs)
theorem Vals.inj : ∀ {xs ys} {us}, Vals xs us → Vals ys us → xs = ys
 | _, _, _, .nil, .nil => rfl
 | _, _, _, .cons r t, .cons r' t' => by rw [r.inj r', Vals.inj t t']
section
variable {X : Cx} {pins : List (Addr × Obj)} {σ : St} {H : Hp} {s : Shared} {a : Addr} {xs ys : List V}
theorem SqL.of {K} (h : H a = some (.lst xs)) : SqL K H a xs := .inl (.inl h)
theorem Inv.list (I : Inv X pins σ H s) (h : SqL X.K H a xs) : ∃ its : List _, Vals xs its ∧ PlainL s.heap a its.toArray ∧ xs.length ≤ sizeLine := by
 rcases h with h | ⟨o, its, n, hk, hc, hd, hs, hz, r⟩
 · obtain ⟨z, its, n, r, e⟩ := h.ok I.hok
   exact ⟨its, r, ⟨_, n, e, rfl, rfl, rfl⟩, z⟩
 · refine ⟨_, r, ⟨o, n, I.kIn a o hk, hc, hd, by simpa using hs⟩, ?_⟩
   have e := r.length
   grind
theorem Inv.tuple (I : Inv X pins σ H s) (h : SqT X.K H a xs) : ∃ its : List _, Vals xs its ∧ IsTup s.heap a its.toArray ∧ xs.length ≤ sizeLine := by
 rcases h with h | ⟨o, its, n, hk, hc, hs, hz, r⟩
 · obtain ⟨z, its, r, p⟩ := h.ok I.hok
   exact ⟨its, r, p, z⟩
 · refine ⟨_, r, ⟨o, I.kIn a o hk, hc, n, by simpa using hs⟩, ?_⟩
   have e := r.length
   simp_all
theorem Inv.list_inj (I : Inv X pins σ H s) (h : SqL X.K H a xs) (h' : SqL X.K H a ys) : xs = ys := by
 obtain ⟨its, r, ⟨o, n, e, _, _, d⟩, _⟩ := I.list h
 obtain ⟨its', r', ⟨o', n', e', _, _, d'⟩, _⟩ := I.list h'
 have : its = its' := by grind
 subst this
 exact r.inj r'
theorem Inv.tuple_inj (I : Inv X pins σ H s) (h : SqT X.K H a xs) (h' : SqT X.K H a ys) : xs = ys := by
 obtain ⟨its, r, ⟨o, e, _, n, d⟩, _⟩ := I.tuple h
 obtain ⟨its', r', ⟨o', e', _, n', d'⟩, _⟩ := I.tuple h'
 have : its = its' := by grind
 subst this
 exact r.inj r'
end
abbrev Cx.wish (X : Cx) (E : Value → Shared → Prop) : Cx := { X with xe := E }
abbrev Cx.nox (X : Cx) : Cx := X.wish fun _ _ => False
theorem Cx.Ok.wish {X : Cx} (ok : X.Ok) (E : Value → Shared → Prop) : (X.wish E).Ok :=
 ⟨ok.mod, ok.kind, ok.glob, ok.blt, ok.above, ok.inj, ok.has, ok.cab, ok.hd, ok.frames, ok.stk, ok.exf, ok.bs, ok.bsz, ok.noex, ok.exfs, ok.funs, ok.frf⟩
theorem Cx.Ok.unwish {X : Cx} {E} (ok : (X.wish E).Ok) : X.Ok :=
 ⟨ok.mod, ok.kind, ok.glob, ok.blt, ok.above, ok.inj, ok.has, ok.cab, ok.hd, ok.frames, ok.stk, ok.exf, ok.bs, ok.bsz, ok.noex, ok.exfs, ok.funs, ok.frf⟩
section
variable {X : Cx} {pins : List (Addr × Obj)} {σ : St} {H : Hp} {s : Shared} {E : Value → Shared → Prop}
theorem Inv.wish (I : Inv X pins σ H s) (E : Value → Shared → Prop) : Inv (X.wish E) pins σ H s := ⟨I.ok.wish E, I.os, I.bare, I.base, I.loc, I.cell, I.free, I.freeC, I.pin, I.hok, I.len⟩
theorem Inv.unwish (I : Inv (X.wish E) pins σ H s) : Inv X pins σ H s := ⟨I.ok.unwish, I.os, I.bare, I.base, I.loc, I.cell, I.free, I.freeC, I.pin, I.hok, I.len⟩
theorem SP.unwish (h : SP (X.wish E) pins D f s') : SP X pins D f s' := by
 cases f with
 | next => obtain ⟨σ', H', I, q⟩ := h; exact ⟨σ', H', I.unwish, q⟩
 | brk => obtain ⟨σ', H', I, q⟩ := h; exact ⟨σ', H', I.unwish, q⟩
 | cont => obtain ⟨σ', H', I, q⟩ := h; exact ⟨σ', H', I.unwish, q⟩
 | ret u => obtain ⟨v, σ', H', I, r, q⟩ := h; exact ⟨v, σ', H', I.unwish, r, q⟩
theorem PSs.nox {st} {t} (h : PSs X.nox st t) : PSs X st t := fun pins s σ H D I hw =>
 wpAny_mono (h _ s σ H D (I.wish _) hw) (fun _ _ q => q.unwish) fun _ _ z => False.elim z
end
section
variable {X : Cx} {st : Stmt} {rest : List Stmt} {t u : TS} {e : Expr} {te : TE} {pos : Pos}
def tNext : TS := fun D σ H => D.nx σ H
def tSeq (t u : TS) : TS := fun D σ H => t { D with nx := u D } σ H
theorem pss_nil : PSs X [] tNext := fun _ _ σ H _ I h => wpAny_execs_nil ⟨σ, H, I, h⟩
theorem pss_cons (h1 : PS X st t) (h2 : PSs X rest u) : PSs X (st :: rest) (tSeq t u) := by
 intro pins s σ H D I h
 refine wpAny_execs_cons (thn (h1 _ s σ H _ I h) fun f s1 q => ?_)
 cases f with
 | next =>
  obtain ⟨σ', H', I', q⟩ := q
  exact h2 _ s1 _ H' D I' q
 | ret v => exact q
 | brk => exact q
 | cont => exact q
def tBreak : TS := fun D σ H => D.bk σ H
def tCont : TS := fun D σ H => D.ct σ H
theorem ps_pass : PS X (.Pass pos) tNext := fun _ _ σ H _ I h => wpAny_Pass ⟨σ, H, I, h⟩
theorem ps_break : PS X (.Break pos) tBreak := fun _ _ σ H _ I h => wpAny_Break ⟨σ, H, I, h⟩
theorem ps_continue : PS X (.Continue pos) tCont := fun _ _ σ H _ I h => wpAny_Continue ⟨σ, H, I, h⟩
theorem Inv.quiet {σ : St} {H} {s} (I : Inv X pins σ H s) : interactive X.env = false := by simp [interactive, I.ok.kind]
theorem ps_doc {x j pos pos'} : PS X (.Expr (.Constant (.str x) j pos) pos') tNext := fun _ s σ H _ I h => wpAny_Expr (Calls.Constant_str ⟨σ, H, I.tok _, h⟩) I.quiet
def tDrop (te : TE) : TS := fun D σ H => te σ H fun _ H1 => D.nx σ H1
theorem ps_expr (he : PE X e te) (hs : swapsWith e none pos.line X.env = pure false := by rfl) : PS X (.Expr e pos) (tDrop te) := by
 intro pins s σ H D I h
 exact wpAny_Expr_any (thn (he _ s σ H _ I h) fun v s1 ⟨x, H1, I1, r1, q1⟩ => ⟨σ, H1, I1, q1⟩) I.quiet hs
def tRet (te : TE) : TS := fun D σ H => te σ H D.rt
theorem ps_ret (he : PE X e te) : PS X (.Return (some e) pos) (tRet te) := by
 intro pins s σ H D I h
 exact wpAny_Return_some (thn (he _ s σ H _ I h) fun v s1 ⟨x, H1, I1, r1, q1⟩ => ⟨x, σ, H1, I1, r1, q1⟩)
def tRetN : TS := fun D _ H => D.rt .non H
theorem ps_retN : PS X (.Return none pos) tRetN := fun _ _ σ H _ I h => wpAny_Return_none ⟨.non, σ, H, I, rfl, h⟩
def tIfS (c : TT) (t u : TS) : TS := fun D σ H => c σ H fun b H1 => if b = true then t D σ H1 else u D σ H1
theorem ps_if {tc} (hc : PT X c tc) (ha : PSs X a t) (hb : PSs X b u) : PS X (.If c a b pos) (tIfS tc t u) := by
 intro pins s σ H D I h
 refine wpAny_If (thn (hc _ s σ H _ I h) fun d s1 ⟨H1, I1, q1⟩ => ?_)
 cases d with
 | true => exact ha _ s1 σ H1 D I1 q1
 | false => exact hb _ s1 σ H1 D I1 q1
end
abbrev TG := V → St → Hp → (St → Hp → Prop) → Prop
abbrev TGs := List V → St → Hp → (St → Hp → Prop) → Prop
def PG (X : Cx) (target : Expr) (t : TG) : Prop :=
 ∀ (pins : List (Addr × Obj)) (s : Shared) (σ : St) (H : Hp) (v : V) (u : Value) (Q : St → Hp → Prop), Inv X pins σ H s → RelV v u → t v σ H Q →
  wpAny (model X.prog X.w) X.A (assign target X.env u) (fun _ s' => ∃ σ' H', Inv X pins σ' H' s' ∧ Q σ' H') X.xe s
def PGs (X : Cx) (ts : List Expr) (t : TGs) : Prop :=
 ∀ (pins : List (Addr × Obj)) (s : Shared) (σ : St) (H : Hp) (vs : List V) (us : List Value) (Q : St → Hp → Prop), Inv X pins σ H s → Vals vs us → t vs σ H Q →
  wpAny (model X.prog X.w) X.A (assignInOrder ((assignEach ts X.env).map (·.2)) us) (fun _ s' => ∃ σ' H', Inv X pins σ' H' s' ∧ Q σ' H') X.xe s
abbrev TSet := V → V → V → Hp → (Hp → Prop) → Prop
def PSet (X : Cx) (t : TSet) : Prop :=
 ∀ (pins : List (Addr × Obj)) (s : Shared) (σ : St) (H : Hp) (o i v : V) (ov iv u : Value) (Q : Hp → Prop), Inv X pins σ H s → RelV o ov → RelV i iv → RelV v u → t o i v H Q →
  wpAny (model X.prog X.w) X.A (setItem ov iv u) (fun _ s' => ∃ H', Inv X pins σ H' s' ∧ Q H') X.xe s
abbrev TIp := V → V → Hp → VK → Prop
def PIp (X : Cx) (op : Operator) (t : TIp) : Prop :=
 ∀ (pins : List (Addr × Obj)) (s : Shared) (σ : St) (H : Hp) (x y : V) (v u : Value) (Q : VK), Inv X pins σ H s → RelV x v → RelV y u → t x y H Q →
  wpAny (model X.prog X.w) X.A (inplaceOp op v u) (EP X pins σ Q) X.xe s
section
variable {X : Cx} {pos : Pos}
def gName (i : Nat) : TG := fun v σ H Q => Q (σ.set i (some v)) H
theorem pg_name {i : Nat} {x : Str} (hN : X.N.Nodup) (hi : X.N[i]? = some x) (hx : Loc X.env.scope x) (hf : X.fn x = true ∨ X.env.scope.names.lookup x = some .local := by first | exact .inl rfl | exact .inr rfl | assumption) : PG X (.Name x pos) (gName i) := by
 intro pins s σ H v u Q I r h
 exact wpAny_assign_Name (store_ok I hN hi hx r (fun s' I' => ⟨_, H, I', h⟩) hf)
def gNil : TGs := fun vs σ H Q => vs = [] ∧ Q σ H
def gCons (t : TG) (u : TGs) : TGs := fun vs σ H Q => ∃ v r, vs = v :: r ∧ t v σ H fun σ' H' => u r σ' H' Q
theorem pgs_nil : PGs X [] gNil := by
 intro pins s σ H vs us Q I r h
 obtain ⟨e, h⟩ := h
 exact assignInOrder_nil ⟨σ, H, I, h⟩
theorem pgs_cons {t} {u} (h1 : PG X e t) (h2 : PGs X es u)
 (hs : (assignEach (e :: es) X.env).map (·.2) = assign e X.env :: (assignEach es X.env).map (·.2) := by rfl) : PGs X (e :: es) (gCons t u) := by
 intro pins s σ H vs us Q I r h
 obtain ⟨v, vr, e1, h⟩ := h
 subst e1
 cases r with
 | cons r rr =>
  rw [hs]
  refine assignInOrder_cons (thn (h1 _ s σ H _ _ _ I r h) fun _ s1 ⟨σ1, H1, I1, q1⟩ => ?_)
  exact h2 _ s1 _ H1 _ _ Q I1 rr q1
def gTup (K : PySem.W.Frag) (n : Nat) (t : TGs) : TG := fun v σ H Q => ∃ a xs, v = .ref a ∧ SqT K H a xs ∧ xs.length = n ∧ t xs σ H Q
theorem pg_tup {k} {t} {n} (hc : X.calm = true) (h : PGs X es t)
 (hn : (assignEach es X.env).length = n := by rfl) (hst : (assignEach es X.env).findIdx? (·.1) = none := by rfl) : PG X (.Tuple es k pos) (gTup X.K n t) := by
 intro pins s σ H v u Q I r hw
 obtain ⟨a, xs, e1, hq, hl, hw⟩ := hw
 subst e1
 cases r
 obtain ⟨its, rv, ht, hz⟩ := I.tuple hq
 refine assign_Tuple_tuple (I.ok.hd hc) ht (by simp [hn, ← hl, rv.length]) hst fun h' hx => ?_
 have I1 : Inv X _ σ H { s with heap := h' } := I.kept fun b o e => hx b o (Nat.ne_of_lt (Heap.lt_size e)) e
 exact h _ _ σ H xs _ Q I1 (by simpa using rv) hw
def gSub (to ti : TE) (t : TSet) : TG := fun v σ H Q => to σ H fun o H1 => ti σ H1 fun i H2 => t o i v H2 fun H3 => Q σ H3
theorem pg_sub {to ti} {t} (ho : PE X o to) (hi : PE X i ti) (hs : PSet X t)
 (ha : ∀ v, assign (.Subscript o i pos) X.env v = (do
  let ov ← holding [v] (eval o X.env)
  let iv ← holding [v, ov] (eval i X.env)
  standAt pos
  holding [v, ov, iv] (setItem ov iv v)
  release [v, ov, iv] []) := by intro _) : PG X (.Subscript o i pos) (gSub to ti t) := by
 intro pins s σ H v u Q I r h
 rw [ha]
 refine wpAny_bind (wpAny_holding (thn (ho _ s σ H _ I h) fun ov s1 ⟨x, H1, I1, r1, q1⟩ => ?_))
 refine wpAny_bind (wpAny_holding (thn (hi _ s1 σ H1 _ I1 q1) fun iv s2 ⟨y, H2, I2, r2, q2⟩ => ?_))
 refine wpAny_bind (wpAny_standAt (wpAny_bind (wpAny_holding (thn (hs _ s2 σ H2 x y v ov iv u _ I2 r1 r2 r q2) fun _ s3 ⟨H3, I3, q3⟩ => ?_))))
 exact wpAny_release ⟨σ, H3, I3, q3⟩
def tAsg (te : TE) (g : TG) : TS := fun D σ H => te σ H fun x H1 => g x σ H1 D.nx
theorem ps_asg {tg e} {te} {g} (he : PE X e te) (hg : PG X tg g) (hs : swapsWithSole [tg] e pos.line X.env = pure false := by rfl) (hw : swappedStores [tg] e X.env = pure none := by rfl)
 (h1 : (assignEach [tg] X.env).map (·.2) = [assign tg X.env] := by rfl) : PS X (.Assign [tg] e pos) (tAsg te g) := by
 intro pins s σ H D I h
 refine wpAny_Assign_stores (thn (he _ s σ H _ I h) fun v s1 ⟨x, H1, I1, r1, q1⟩ => ?_) hs hw
 rw [h1]
 exact thn (hg _ s1 σ H1 x v _ I1 r1 q1) fun _ s2 q => q
def tAug (i : Nat) (te : TE) (ti : TIp) : TS := fun D σ H => ∃ x, σ[i]? = some (some x) ∧ te σ H fun y H1 => ti x y H1 fun z H2 => D.nx (σ.set i (some z)) H2
theorem ps_aug {i : Nat} {x : Str} {e : Expr} {te : TE} {op : Operator} {ti : TIp} {pos' : Pos} (hN : X.N.Nodup) (hi : X.N[i]? = some x) (hx : Loc X.env.scope x) (he : PE X e te) (ho : PIp X op ti) (hf : X.fn x = true ∨ X.env.scope.names.lookup x = some .local := by first | exact .inl rfl | exact .inr rfl | assumption) :
 PS X (.AugAssign (.Name x pos') op e pos) (tAug i te ti) := by
 intro pins s σ H D I h
 obtain ⟨v, e1, h⟩ := h
 obtain ⟨m, hn, hl⟩ := I.loc
 have vis : Vis X.env.scope x := by rcases hx with k | k; exact .inl k; exact .inr (.inl k)
 obtain ⟨u, r, l⟩ := hl i x v hi e1 vis
 refine wpAny_AugAssign_Name ?_
 have go : wpAny (model X.prog X.w) X.A (eval e X.env) (fun w s₂ => wpAny (model X.prog X.w) X.A (inplaceOp op u w) (fun r s₃ => wpAny (model X.prog X.w) X.A (storeName X.env x r) (fun _ => SP X pins D .next) X.xe s₃) X.xe s₂) X.xe s := by
  refine thn (he pins s σ H _ I h) fun w s1 ⟨y, H1, I1, r1, q1⟩ => ?_
  refine thn (ho pins s1 σ H1 v y u w _ I1 r r1 q1) fun z s2 ⟨zv, H2, I2, r2, q2⟩ => ?_
  exact store_ok I2 hN hi hx r2 (fun s3 I3 => ⟨_, H2, I3, q2⟩) hf
 rcases l with ⟨hk, hm⟩ | ⟨hk, c, hc, hcell⟩
 · exact wpAny_loadName_local I.ok.kind hk hn hm go
 · rcases hk with hk | hk
   · exact wpAny_loadName_cell I.ok.kind hk hc hcell go
   · rcases hx with k | k
     · have : X.env.scope.names.lookup x = some .free := hk
       rw [k] at this; cases this
     · have : X.env.scope.names.lookup x = some .free := hk
       rw [k] at this; cases this
end
structure It where
 go : Nat → Hp → Prop
 yld : Nat → Hp → V → Hp → Prop
 stop : Nat → Hp → Prop
def FpOk (X : Cx) (pins : List (Addr × Obj)) (H : Hp) (b : Addr) : Prop :=
 H b = none ∧ b ≠ X.env.locals ∧ b ∉ X.fs ∧ (b ∈ X.ex ∨ X.s₀.heap.objs.size ≤ b) ∧ (∀ x c, X.env.cells.lookup x = some c → c ≠ b) ∧ ∀ p ∈ X.pn ++ pins, p.1 ≠ b
theorem Inv.fpOk {σ : St} {H H'} {s} {b : Addr} (I : Inv X pins σ H s) (hb : s.heap.objs.size ≤ b) (hn : H' b = none) : FpOk X pins H' b := by
 refine ⟨hn, Nat.ne_of_gt (Nat.lt_of_lt_of_le I.lt hb), I.nofs hb, .inr (Nat.le_trans I.sz hb), fun x c e z => ?_, fun p hp z => ?_⟩
 · obtain ⟨v, q⟩ := I.cell x c e
   exact absurd (Nat.lt_of_lt_of_le q.lt (by rw [z]; exact hb)) (Nat.lt_irrefl _)
 · exact absurd (Nat.lt_of_lt_of_le (Heap.lt_size (I.pin p hp).1) (by rw [z]; exact hb)) (Nat.lt_irrefl _)
structure Turn (P : Program) (w : World) (K : PySem.W.Frag) (tg : Expr) (J : It) (fp : List Addr) (it : Addr) (tn : Nat → Heap → Prop) : Prop where
 mem : it ∈ fp
 obj : ∀ i h, tn i h → ∀ b ∈ fp, ∃ o, h.get? b = some o ∧ ∀ v, o.data ≠ .cell v
 keep : ∀ i h h', tn i h → (∀ b ∈ fp, ∀ o, h.get? b = some o → h'.get? b = some o) → tn i h'
 item : ∀ (X : Cx), X.prog = P → X.w = w → X.K = K → X.calm = true → ∀ (i : Nat) (pins : List (Addr × Obj)) (s : Shared) (σ : St) (H : Hp) (E : Value → Shared → Prop), Inv X pins σ H s → (∀ b ∈ fp, FpOk X pins H b) → tn i s.heap → J.go i H →
  wpAny (model P w) X.A (pyNext (.ref it)) (fun r s1 => ∃ u, r = some u ∧
   wpAny (model P w) X.A (letOwnedTupleGo tg (.ref it) u) (fun _ s2 => ∃ x H', Inv X pins σ H' s2 ∧ RelV x u ∧ J.yld i H x H' ∧ tn (i + 1) s2.heap ∧ ∀ b ∈ fp, H' b = none) E s1) E s
 done : ∀ (X : Cx), X.prog = P → X.w = w → X.K = K → X.calm = true → ∀ (i : Nat) (pins : List (Addr × Obj)) (s : Shared) (σ : St) (H : Hp) (E : Value → Shared → Prop), Inv X pins σ H s → (∀ b ∈ fp, FpOk X pins H b) → tn i s.heap → J.stop i H →
  wpAny (model P w) X.A (pyNext (.ref it)) (fun r s1 => r = none ∧ Inv X pins σ H s1) E s
 self : ∀ (A : Around) (i : Nat) (s : Shared) (Q : Value → Shared → Prop) (E : Value → Shared → Prop), tn i s.heap → Q (.ref it) s → wpAny (model P w) A (pyIter (.ref it)) Q E s
abbrev TI := St → Hp → (It → Hp → Prop) → Prop
def PIE (X : Cx) (pins : List (Addr × Obj)) (σ : St) (tg : Expr) (R : It → Hp → Prop) (itv : Value) (s2 : Shared) : Prop :=
 ∃ (it : Addr) (fp : List Addr) (tn : Nat → Heap → Prop) (J : It) (H' : Hp), itv = .ref it ∧ Inv X pins σ H' s2 ∧ Turn X.prog X.w X.K tg J fp it tn ∧ tn 0 s2.heap ∧ (∀ b ∈ fp, FpOk X pins H' b) ∧ R J H'
def PI (X : Cx) (tg iter : Expr) (wi : TI) : Prop :=
 ∀ (pins : List (Addr × Obj)) (s : Shared) (σ : St) (H : Hp) (R : It → Hp → Prop), Inv X pins σ H s → wi σ H R →
  wpAny (model X.prog X.w) X.A (eval iter X.env) (fun v s1 => wpAny (model X.prog X.w) X.A (pyIter v) (PIE X pins σ tg R) X.xe s1) X.xe s
theorem go_of {A} {E} {s} {tg} {it} {u} {o} {n} {vs} {Q} (ho : s.heap.get? it = some o) (hc : o.cls = .type n) (hd : o.data = .fields vs)
 (hn : ["enumerate", "zip", "dict_itemiterator", "dict_reverseitemiterator", "odict_iterator", "itertools.zip_longest", "itertools.pairwise"].contains n = false) (hQ : Q () s) : wpAny M A (letOwnedTupleGo tg (.ref it) u) Q E s := by
 cases tg <;> first
  | exact wpAny_pure hQ
  | (cases u <;> first
   | exact wpAny_pure hQ
   | (refine wpAny_bind (wpAny_load ho ?_)
      rw [hc, hd]
      show wpAny M A (if (["enumerate", "zip", "dict_itemiterator", "dict_reverseitemiterator", "odict_iterator", "itertools.zip_longest", "itertools.pairwise"].contains n && vs[0]? == some _) = true then _ else _) Q E s
      rw [if_neg (by grind)]
      exact wpAny_pure hQ))
def Itl (K : PySem.W.Frag) (a : Addr) : It :=
 ⟨fun i H => ∃ xs x, SqL K H a xs ∧ xs[i]? = some x, fun i H x H' => H' = H ∧ ∀ xs, SqL K H a xs → xs[i]? = some x, fun i H => ∃ xs, SqL K H a xs ∧ xs.length ≤ i⟩
def Itt (K : PySem.W.Frag) (a : Addr) : It :=
 ⟨fun i H => ∃ xs x, SqT K H a xs ∧ xs[i]? = some x, fun i H x H' => H' = H ∧ ∀ xs, SqT K H a xs → xs[i]? = some x, fun i H => ∃ xs, SqT K H a xs ∧ xs.length ≤ i⟩
def Itr (lo : Int) (n : Nat) : It := ⟨fun i _ => i < n, fun i H x H' => H' = H ∧ x = .int (lo + i), fun i _ => n ≤ i⟩
theorem turn_list {w} {K} {tg} (a it : Addr) : Turn P w K tg (Itl K a) [it] it fun i h => h.IsListIter it a i where
 mem := by simp
 obj := fun i h st b hb => by
  obtain ⟨o, e, c, d⟩ := st
  simp_all
 keep := fun i h h' st k => st.at fun o e => k it (by simp) o e
 item := by
  intro X hP hw hK hc i pins s σ H E I hf st hg
  subst hP hw hK
  obtain ⟨xs, x, hq, hx⟩ := hg
  obtain ⟨its, rv, p, hz⟩ := I.list hq
  obtain ⟨u, hu, ru⟩ := rv.get hx
  obtain ⟨f0, f1, f2, f3, f4, f5⟩ := hf it (by simp)
  refine wpAny_pyNext_list_item st p.isList (by simpa using hu) fun h' st' sb => ?_
  have I1 : Inv X _ σ H { s with heap := h' } := I.turned (fun b o hb e => (sb.2 b hb).trans e) f0 f1 f3 f4 f5
  obtain ⟨o, e, c, d⟩ := id st'
  exact ⟨u, rfl, go_of e c d rfl ⟨x, H, I1, ru, ⟨rfl, fun ys hy => by rw [I.list_inj hy hq]; exact hx⟩, st', fun b hb => (hf b hb).1⟩⟩
 done := by
  intro X hP hw hK hc i pins s σ H E I hf st hg
  subst hP hw hK
  obtain ⟨xs, hq, hx⟩ := hg
  obtain ⟨its, rv, p, hz⟩ := I.list hq
  obtain ⟨f0, f1, f2, f3, f4, f5⟩ := hf it (by simp)
  have hl := rv.length
  exact wpAny_pyNext_list_end (I.ok.hd hc) st p.isList (by simp; omega) fun h' eb => ⟨rfl, I.turned (fun b o hb e => eb b o hb e) f0 f1 f3 f4 f5⟩
 self := fun _ _ _ _ _ st h => wpAny_pyIter_listiter st h
theorem turn_tuple {w} {K} {tg} (a it : Addr) : Turn P w K tg (Itt K a) [it] it fun i h => h.IsTupleIter it a i where
 mem := by simp
 obj := fun i h st b hb => by
  obtain ⟨o, e, c, d⟩ := st
  simp_all
 keep := fun i h h' st k => st.at fun o e => k it (by simp) o e
 item := by
  intro X hP hw hK hc i pins s σ H E I hf st hg
  subst hP hw hK
  obtain ⟨xs, x, hq, hx⟩ := hg
  obtain ⟨its, rv, p, hz⟩ := I.tuple hq
  obtain ⟨u, hu, ru⟩ := rv.get hx
  obtain ⟨f0, f1, f2, f3, f4, f5⟩ := hf it (by simp)
  refine wpAny_pyNext_tuple_item st (p) (by simpa using hu) fun h' st' sb => ?_
  have I1 : Inv X _ σ H { s with heap := h' } := I.turned (fun b o hb e => (sb.2 b hb).trans e) f0 f1 f3 f4 f5
  obtain ⟨o, e, c, d⟩ := id st'
  exact ⟨u, rfl, go_of e c d rfl ⟨x, H, I1, ru, ⟨rfl, fun ys hy => by rw [I.tuple_inj hy hq]; exact hx⟩, st', fun b hb => (hf b hb).1⟩⟩
 done := by
  intro X hP hw hK hc i pins s σ H E I hf st hg
  subst hP hw hK
  obtain ⟨xs, hq, hx⟩ := hg
  obtain ⟨its, rv, p, hz⟩ := I.tuple hq
  obtain ⟨f0, f1, f2, f3, f4, f5⟩ := hf it (by simp)
  have hl := rv.length
  exact wpAny_pyNext_tuple_end (I.ok.hd hc) st p (by simp; omega) fun h' eb => ⟨rfl, I.turned (fun b o hb e => eb b o hb e) f0 f1 f3 f4 f5⟩
 self := fun _ _ _ _ _ st h => wpAny_pyIter_tupleiter st h
theorem turn_range {K} {tg} (it : Addr) (lo : Int) (n : Nat) : Turn P w K tg (Itr lo n) [it] it fun i h => IsRangeIter h it (lo + i * 1) (n - i) 1 where
 mem := by simp
 obj := fun i h st b hb => by
  simp_all
 keep := fun i h h' st k => k it (by simp) _ st
 item := by
  intro X hP hw hK hc i pins s σ H E I hf st hg
  subst hP hw hK
  obtain ⟨f0, f1, f2, f3, f4, f5⟩ := hf it (by simp)
  have W := Walks.range (prog := X.prog) (w := X.w) (I.ok.hd hc) it lo 1 n
  refine W.item i s _ _ hg st fun v h' tk hv st' kk => ?_
  obtain ⟨t, rfl⟩ := hv
  have I1 : Inv X _ σ H { s with heap := h', toks := tk } := I.turned (fun b o hb e => kk b o (by simpa using hb) e) f0 f1 f3 f4 f5
  refine ⟨_, rfl, go_of st' rfl rfl rfl ⟨.int _, H, I1, ⟨t, ?_⟩, ⟨rfl, rfl⟩, st', fun b hb => (hf b hb).1⟩⟩
  rw [Int.mul_one]
 done := by
  intro X hP hw hK hc i pins s σ H E I hf st hg
  obtain ⟨f0, f1, f2, f3, f4, f5⟩ := hf it (by simp)
  exact wpAny_pyNext_range_end (I.ok.hd hc) st (by have : n ≤ i := hg; omega) fun h' eb => ⟨rfl, I.turned (fun b o hb e => eb b o hb e) f0 f1 f3 f4 f5⟩
 self := fun _ _ _ _ _ st h => wpAny_pyIter_rangeiter st h
section
variable {X : Cx} {tg : Expr}
def iList (K : PySem.W.Frag) (tl : TE) : TI := fun σ H R => tl σ H fun x H1 => ∃ a, x = .ref a ∧ (∃ xs, SqL K H1 a xs) ∧ R (Itl K a) H1
def iTup (K : PySem.W.Frag) (tl : TE) : TI := fun σ H R => tl σ H fun x H1 => ∃ a, x = .ref a ∧ (∃ xs, SqT K H1 a xs) ∧ R (Itt K a) H1
theorem pi_list (hl : PE X l tl) : PI X tg l (iList X.K tl) := by
 intro pins s σ H R I h
 refine thn (hl _ s σ H _ I h) fun v s1 ⟨x, H1, I1, r1, q1⟩ => ?_
 obtain ⟨a, e, ⟨xs, hq⟩, q⟩ := q1
 subst e
 cases r1
 obtain ⟨its, rv, p, hz⟩ := I1.list hq
 refine wpAny_pyIter_list p.isList ?_
 refine ⟨_, _, _, _, H1, rfl, I1.kept fun b o e => Heap.get?_push_of_some _ e, turn_list a _, ⟨_, Heap.get?_push_size _ rfl, rfl, rfl⟩, fun b hb => ?_, q⟩
 have e := by simpa using hb
 subst e
 exact I1.fpOk (Nat.le_refl _) (I1.hok.fresh (Nat.le_refl _))
theorem pi_tup (hl : PE X l tl) : PI X tg l (iTup X.K tl) := by
 intro pins s σ H R I h
 refine thn (hl _ s σ H _ I h) fun v s1 ⟨x, H1, I1, r1, q1⟩ => ?_
 obtain ⟨a, e, ⟨xs, hq⟩, q⟩ := q1
 subst e
 cases r1
 obtain ⟨its, rv, p, hz⟩ := I1.tuple hq
 refine wpAny_pyIter_tuple p ?_
 refine ⟨_, _, _, _, H1, rfl, I1.kept fun b o e => Heap.get?_push_of_some _ e, turn_tuple a _, ⟨_, Heap.get?_push_size _ rfl, rfl, rfl⟩, fun b hb => ?_, q⟩
 have e := by simpa using hb
 subst e
 exact I1.fpOk (Nat.le_refl _) (I1.hok.fresh (Nat.le_refl _))
theorem range_it {σ : St} {H} {s} {R} {E} {lo hi} {t u v} {tk} (I : Inv X pins σ H s) (h1 : -2 ^ 62 ≤ lo) (h2 : lo < 2 ^ 62) (h3 : -2 ^ 62 ≤ hi) (h4 : hi < 2 ^ 62)
 (q : R (Itr lo (hi - lo).toNat) H) : wpAny (model X.prog X.w) X.A (pyIter (.ref s.heap.objs.size)) (PIE X pins σ tg R) E { s with heap := s.heap.push { cls := .type "range", data := .fields #[.int lo t, .int hi u, .int 1 v] }, toks := tk } := by
 refine wpAny_pyIter_range (IsRange.new ..) (small_one h1 h2 h3 h4) ?_
 have I1 : Inv X _ σ H { s with heap := s.heap.push { cls := .type "range", data := .fields #[.int lo t, .int hi u, .int 1 v] }, toks := tk } := I.kept fun b o e => Heap.get?_push_of_some _ e
 refine ⟨_, _, _, _, H, rfl,
  I1.kept fun b o e => Heap.get?_push_of_some _ e, turn_range _ lo _, ?_, fun b hb => ?_, q⟩
 · have e1 : lo + (0 : Nat) * 1 = lo := by simp
   have e2 : (hi - lo).toNat - (0 : Nat) = Builtin.Range.rangeSize lo hi 1 := by rw [rangeSize_one]; split <;> omega
   rw [e1, e2]
   exact Heap.get?_push_size _ rfl
 · have e : b = (s.heap.push { cls := .type "range", data := .fields #[.int lo t, .int hi u, .int 1 v] }).objs.size := by simpa using hb
   subst e
   exact I1.fpOk (Nat.le_refl _) (I1.hok.fresh (Nat.le_refl _))
def iRng1 (ta : TA) : TI := fun σ H R => ta σ H fun vs H1 => ∃ j : Int, vs = [.int j] ∧ -(2 ^ 62) ≤ j ∧ j < 2 ^ 62 ∧ R (Itr 0 j.toNat) H1
theorem pi_range1 (hg : Gl X "range") (hm : X.mg "range" = none) (ha : PA X [a] ta) (hs : starEach [a] X.env = [(false, eval a X.env)] := by rfl) : PI X tg (.Call (.Name "range" p) [a] [] pos) (iRng1 ta) := by
 intro pins s σ H R I h
 refine Call_ (ld_blt I hg hm boot_range (PyProof.Rows.callWith_type1 (thn (ha _ _ s σ H _ I h) fun us s1 ⟨vs, H1, I1, r1, q1⟩ => ?_) hs rfl))
 obtain ⟨j, e, q1, q2, q⟩ := q1
 subst e
 cases r1 with
 | cons r rr =>
  cases rr
  obtain ⟨t, rfl⟩ := r
  exact call_range_1 (range_it I1 (by omega) (by omega) q1 q2 (by simpa using q))
def tFor (wi : TI) (g : TG) (tb : TS) : TS := fun D σ H => wi σ H fun J H1 => ∃ W : Nat → Nat → St → Hp → Prop, (∃ m, W 0 m σ H1) ∧ ∀ i m σ H, W i m σ H →
 (J.stop i H ∧ D.nx σ H) ∨ (J.go i H ∧ ∃ N : St → Hp → Prop, (∀ σ' H', N σ' H' → ∃ m', m' < m ∧ W (i + 1) m' σ' H') ∧ ∀ x H', J.yld i H x H' → g x σ H' fun σ2 H2 => tb { D with nx := N, ct := N, bk := D.nx } σ2 H2)
def pinsAt (fp : List Addr) (h : Heap) : List (Addr × Obj) := fp.filterMap fun b => (h.get? b).map fun o => (b, o)
theorem mem_pinsAt {b} {o} (hb : b ∈ fp) (e : h.get? b = some o) : (b, o) ∈ pinsAt fp h := List.mem_filterMap.mpr ⟨b, hb, by rw [e]; rfl⟩
theorem of_pinsAt (hp : p ∈ pinsAt fp h) : p.1 ∈ fp ∧ h.get? p.1 = some p.2 := by
 obtain ⟨b, hb, e⟩ := List.mem_filterMap.mp hp
 cases q : h.get? b with
 | none => rw [q] at e; cases e
 | some o =>
  rw [q] at e
  have e' := Option.some.inj e
  subst e'
  exact ⟨hb, q⟩
theorem Inv.pinned {σ : St} {H} {s} {fp} (I : Inv X pins σ H s) (hf : ∀ b ∈ fp, FpOk X pins H b) (ho : ∀ b ∈ fp, ∃ o, s.heap.get? b = some o ∧ ∀ v, o.data ≠ .cell v) : Inv X (pins ++ pinsAt fp s.heap) σ H s :=
 I.pins_of fun p hp => (List.mem_append.mp hp).elim (fun z => I.pin p (List.mem_append_right _ z)) fun z => by
  obtain ⟨hb, e⟩ := of_pinsAt z
  obtain ⟨f0, f1, f2, _⟩ := hf _ hb
  obtain ⟨o, e', d⟩ := ho _ hb
  simp_all
theorem Inv.unpinned {σ : St} {H} {s} (I : Inv X (pins ++ pl) σ H s) : Inv X pins σ H s := I.pins_of fun p hp => I.pin p (List.mem_append_right _ (List.mem_append_left _ hp))
theorem ps_for {iter : Expr} {body : List Stmt} {wi : TI} {g : TG} {tb : TS} {pos : Pos} (hp : PassesOwn (model X.prog X.w) X.A X.env X.xe) (hc : X.calm = true) (hi : PI X tg iter wi) (hg : PG X tg g) (hb : PSs X body tb)
 (hs : ∀ x, foldedSetIterable iter X.env x = pure x := by intro _; rfl) : PS X (.For tg iter body [] pos) (tFor wi g tb) := by
 intro pins s σ H D I h
 refine wpAny_For (thn (hi pins s σ H _ I h) fun v s1 h1 => thn h1 fun itv s2 h2 => ?_) hs
 obtain ⟨it, fp, tn, J, H2, e, I2, T, st2, f2, W, ⟨m0, w0⟩, turn⟩ := h2
 subst e
 have stat : ∀ {H' : Hp}, (∀ b ∈ fp, H' b = none) → ∀ b ∈ fp, FpOk X pins H' b := fun hn b hb => ⟨hn b hb, (f2 b hb).2⟩
 refine codeAny_forLoop_any (fun n s' => ∃ i σ' H', Inv X pins σ' H' s' ∧ tn i s'.heap ∧ (∀ b ∈ fp, H' b = none) ∧ W i n σ' H') ?_ m0 ⟨0, σ, H2, I2, st2, fun b hb => (f2 b hb).1, w0⟩
 rintro n s3 ⟨i, σ3, H3, I3, st3, fr3, w3⟩
 rcases turn i n σ3 H3 w3 with ⟨stop, qn⟩ | ⟨go, N, hN, step⟩
 · refine wpAny_passesOwn hp (thn (T.done X rfl rfl rfl hc i pins s3 σ3 H3 X.xe I3 (stat fr3) st3 stop) fun r s4 ⟨hr, I4⟩ => ?_)
   subst hr
   exact wpAny_execs_nil ⟨σ3, H3, I4, qn⟩
 · refine wpAny_passesOwn hp (thn (T.item X rfl rfl rfl hc i pins s3 σ3 H3 X.xe I3 (stat fr3) st3 go) fun r s4 ⟨u, hr, h4⟩ => ?_)
   subst hr
   refine wpAny_passesOwn hp (thn h4 fun _ s5 ⟨x, H5, I5, r5, y5, st5, fr5⟩ => ?_)
   have I5' := I5.pinned (stat fr5) (T.obj _ _ st5)
   refine wpAny_passesOwn hp (thn (hg _ s5 σ3 H5 x u _ I5' r5 (step x H5 y5)) fun _ s6 ⟨σ6, H6, I6, q6⟩ => ?_)
   refine wpAny_passesOwn hp (thn (hb _ s6 σ6 H6 _ I6 q6) fun f s7 q7 => ?_)
   have again : ∀ {σ7 : St} {H7 : Hp}, Inv X (pins ++ pinsAt fp s5.heap) σ7 H7 s7 → N σ7 H7 → ∃ m, m < n ∧ ∃ i σ' H', Inv X pins σ' H' s7 ∧ tn i s7.heap ∧ (∀ b ∈ fp, H' b = none) ∧ W i m σ' H' := fun {σ7 H7} I7 n7 => by
    obtain ⟨m', hm, w7⟩ := hN σ7 H7 n7
    refine ⟨m', hm, i + 1, σ7, H7, I7.unpinned, T.keep _ _ _ st5 fun b hb o e => (I7.pin (b, o) (List.mem_append_right _ (List.mem_append_right _ (mem_pinsAt hb e)))).1, fun b hb => ?_, w7⟩
    obtain ⟨o, e, d⟩ := T.obj _ _ st5 b hb
    exact (I7.pin (b, o) (List.mem_append_right _ (List.mem_append_right _ (mem_pinsAt hb e)))).2.1
   cases f with
   | next => obtain ⟨σ7, H7, I7, n7⟩ := q7; exact again I7 n7
   | cont => obtain ⟨σ7, H7, I7, n7⟩ := q7; exact again I7 n7
   | brk => obtain ⟨σ7, H7, I7, q7⟩ := q7; exact ⟨σ7, H7, I7.unpinned, q7⟩
   | ret v => obtain ⟨x7, σ7, H7, I7, r7, q7⟩ := q7; exact ⟨x7, σ7, H7, I7.unpinned, r7, q7⟩
end
abbrev R2 := V → V → Hp → VK → Prop
def OpR (X : Cx) (f : Value → Value → Sem Value) (r : R2) : Prop :=
 ∀ (pins : List (Addr × Obj)) (s : Shared) (σ : St) (H : Hp) (x y : V) (v u : Value) (Q : VK), Inv X pins σ H s → RelV x v → RelV y u → r x y H Q →
  wpAny (model X.prog X.w) X.A (f v u) (EP X pins σ Q) X.xe s
def UnR (X : Cx) (f : Value → Sem Value) (r : V → Hp → VK → Prop) : Prop :=
 ∀ (pins : List (Addr × Obj)) (s : Shared) (σ : St) (H : Hp) (x : V) (v : Value) (Q : VK), Inv X pins σ H s → RelV x v → r x H Q →
  wpAny (model X.prog X.w) X.A (f v) (EP X pins σ Q) X.xe s
def CallR (X : Cx) (f : Value) (r : List V → Hp → VK → Prop) : Prop :=
 ∀ (pins : List (Addr × Obj)) (s : Shared) (σ : St) (H : Hp) (xs : List V) (us : List Value) (Q : VK), Inv X pins σ H s → Vals xs us → r xs H Q →
  wpAny (model X.prog X.w) X.A (call f us) (EP X pins σ Q) X.xe s
def TruR (X : Cx) (r : V → Hp → (Bool → Hp → Prop) → Prop) : Prop :=
 ∀ (pins : List (Addr × Obj)) (s : Shared) (σ : St) (H : Hp) (x : V) (v : Value) (Q : Bool → Hp → Prop), Inv X pins σ H s → RelV x v → r x H Q →
  wpAny (model X.prog X.w) X.A (truthy v) (TP X pins σ Q) X.xe s
def tOp (r : R2) (ta tb : TE) : TE := fun σ H Q => ta σ H fun x H1 => tb σ H1 fun y H2 => r x y H2 Q
def tUn (r : V → Hp → VK → Prop) (ta : TE) : TE := fun σ H Q => ta σ H fun x H1 => r x H1 Q
def rI (C : Int → Int → Prop) (g : Int → Int → V) : R2 := fun x y H Q => ∃ i j, x = .int i ∧ y = .int j ∧ C i j ∧ Q (g i j) H
def rI0 (g : Int → Int → V) : R2 := fun x y H Q => ∃ i j, x = .int i ∧ y = .int j ∧ Q (g i j) H
def rU (g : Int → V) : V → Hp → VK → Prop := fun x H Q => ∃ i, x = .int i ∧ Q (g i) H
section
variable {X : Cx} {a b c : Expr} {ta tb tc : TE} {pos : Pos}
theorem binT (ha : PE X a ta) (hb : PE X b tb) {pins} {s} {σ : St} {H} {R : V → V → Hp → Prop} (I : Inv X pins σ H s)
 (h : ta σ H fun x H1 => tb σ H1 fun y H2 => R x y H2) {Q : Value → Shared → Prop} {f : Value → Value → Sem _}
 (hf : ∀ v u s2 x y H2, Inv X pins σ H2 s2 → RelV x v → RelV y u → R x y H2 → wpAny (model X.prog X.w) X.A (f v u) Q X.xe s2) :
 wpAny (model X.prog X.w) X.A (eval a X.env) (fun v s₁ => wpAny (model X.prog X.w) X.A (eval b X.env) (fun u s₂ => wpAny (model X.prog X.w) X.A (f v u) Q X.xe s₂) X.xe s₁) X.xe s := by
 refine thn (ha _ s σ H _ I h) fun v s1 ⟨x, H1, I1, r1, q1⟩ => ?_
 refine thn (hb _ s1 σ H1 _ I1 q1) fun u s2 ⟨y, H2, I2, r2, q2⟩ => ?_
 exact hf v u s2 x y H2 I2 r1 r2 q2
theorem pe_op (ho : OpR X (binaryOp op) r) (ha : PE X a ta) (hb : PE X b tb) : PE X (.BinOp a op b pos) (tOp r ta tb) := by
 intro pins s σ H Q I h
 exact wpAny_BinOp (binT ha hb I h fun v u s2 x y H2 I2 rx ry q => ho _ s2 σ H2 x y v u Q I2 rx ry q)
theorem pe_un (ho : UnR X (unaryOp op) r) (ha : PE X a ta) : PE X (.UnaryOp op a pos) (tUn r ta) := by
 intro pins s σ H Q I h
 exact UnaryOp_ (thn (ha _ s σ H _ I h) fun v s1 ⟨x, H1, I1, r1, q1⟩ => ho _ s1 σ H1 x v Q I1 r1 q1)
theorem augR {op : Operator} {r : R2} (ho : OpR X (inplaceOp op) r) {pins : List (Addr × Obj)} {s : Shared} {σ : St} {H : Hp} {x y : V} {v u : Value} {Q : VK} (I : Inv X pins σ H s)
 (rx : RelV x v) (ry : RelV y u) (q : r x y H Q) : wpAny (model X.prog X.w) X.A (inplaceOp op v u) (EP X pins σ Q) X.xe s := ho pins s σ H x y v u Q I rx ry q
theorem opI {C} {g : Int → Int → Int}
 (rule : ∀ (i j : Int) (t u : Tok) (s : Shared) (Q : Value → Shared → Prop) (E : Value → Shared → Prop), C i j → Q (.int (g i j) s.toks) { s with toks := s.toks + 1 } → wpAny (model X.prog X.w) X.A (f (.int i t) (.int j u)) Q E s) :
 OpR X f (rI C fun i j => .int (g i j)) := by
 intro pins s σ H x y v u Q I rx ry h
 obtain ⟨i, j, rfl, rfl, hc, q⟩ := h
 obtain ⟨t, rfl⟩ := rx
 obtain ⟨t', rfl⟩ := ry
 exact rule i j t t' s _ _ hc ⟨.int _, H, I.tok _, ⟨_, rfl⟩, q⟩
theorem opI0 {g : Int → Int → Int}
 (rule : ∀ (i j : Int) (t u : Tok) (s : Shared) (Q : Value → Shared → Prop) (E : Value → Shared → Prop), Q (.int (g i j) s.toks) { s with toks := s.toks + 1 } → wpAny (model X.prog X.w) X.A (f (.int i t) (.int j u)) Q E s) :
 OpR X f (rI0 fun i j => .int (g i j)) := by
 intro pins s σ H x y v u Q I rx ry h
 obtain ⟨i, j, rfl, rfl, q⟩ := h
 obtain ⟨t, rfl⟩ := rx
 obtain ⟨t', rfl⟩ := ry
 exact rule i j t t' s _ _ ⟨.int _, H, I.tok _, ⟨_, rfl⟩, q⟩
theorem opB0 {g : Int → Int → Bool}
 (rule : ∀ (i j : Int) (t u : Tok) (s : Shared) (Q : Value → Shared → Prop) (E : Value → Shared → Prop), Q (.bool (g i j)) s → wpAny (model X.prog X.w) X.A (f (.int i t) (.int j u)) Q E s) :
 OpR X f (rI0 fun i j => .bl (g i j)) := by
 intro pins s σ H x y v u Q I rx ry h
 obtain ⟨i, j, rfl, rfl, q⟩ := h
 obtain ⟨t, rfl⟩ := rx
 obtain ⟨t', rfl⟩ := ry
 exact rule i j t t' s _ _ ⟨.bl _, H, I, rfl, q⟩
def CPow (i j : Int) : Prop := 0 ≤ j ∧ j ≤ 1000000 ∧ i.natAbs < 2 ^ 64
def CMul (i j : Int) : Prop := (-(2 ^ 64) < i ∧ i < 2 ^ 64) ∨ (-(2 ^ 64) < j ∧ j < 2 ^ 64)
theorem CMul.ok (h : CMul i j) : IntMulOk i j := by
 rcases h with ⟨h1, h2⟩ | ⟨h1, h2⟩
 · exact .of_left (intBits_le_64 h1 h2)
 · exact .of_right (intBits_le_64 h1 h2)
theorem op_add : OpR X (binaryOp .Add) (rI0 fun i j => .int (i + j)) := opI0 fun _ _ _ _ _ _ _ q => add_int q
theorem op_sub : OpR X (binaryOp .Sub) (rI0 fun i j => .int (i - j)) := opI0 fun _ _ _ _ _ _ _ q => sub_int q
theorem op_mul : OpR X (binaryOp .Mult) (rI CMul fun i j => .int (i * j)) := opI fun _ _ _ _ _ _ _ hc q => mul_int q hc.ok
theorem op_mod : OpR X (binaryOp .Mod) (rI (fun _ j => 0 < j) fun i j => .int (i % j)) := opI fun i j _ _ _ _ _ hc q => mod_int' (by omega) (by rw [Int.fmod_eq_emod_of_nonneg i (by omega)]; exact q)
theorem op_pow : OpR X (binaryOp .Pow) (rI CPow fun i j => .int (i ^ j.toNat)) := opI fun _ _ _ _ _ _ _ hc q => pow_int_small hc.1 hc.2.1 hc.2.2 q
theorem iop_add : OpR X (inplaceOp .Add) (rI0 fun i j => .int (i + j)) := opI0 fun _ _ _ _ _ _ _ q => iadd_int q
theorem iop_sub : OpR X (inplaceOp .Sub) (rI0 fun i j => .int (i - j)) := opI0 fun _ _ _ _ _ _ _ q => isub_int q
theorem iop_mul : OpR X (inplaceOp .Mult) (rI CMul fun i j => .int (i * j)) := opI fun _ _ _ _ _ _ _ hc q => imul_int q hc.ok
theorem unI {g : Int → Int}
 (rule : ∀ (i : Int) (t : Tok) (s : Shared) (Q : Value → Shared → Prop) (E : Value → Shared → Prop), Q (.int (g i) s.toks) { s with toks := s.toks + 1 } → wpAny (model X.prog X.w) X.A (f (.int i t)) Q E s) :
 UnR X f (rU fun i => .int (g i)) := by
 intro pins s σ H x v Q I rx h
 obtain ⟨i, rfl, q⟩ := h
 obtain ⟨t, rfl⟩ := rx
 exact rule i t s _ _ ⟨.int _, H, I.tok _, ⟨_, rfl⟩, q⟩
theorem un_neg : UnR X (unaryOp .USub) (rU fun i => .int (-i)) := unI fun _ _ _ _ _ q => neg_int q
theorem fin_bl {σ : St} {H} {s} {Q} {k k'} (I : Inv X pins σ H s) (q : Q (.bl k) H) (e : k = k') : EP X pins σ Q (.bool k') s := by
 subst e
 exact ⟨.bl k, H, I, rfl, q⟩
theorem op_lt : OpR X (compareOp .Lt) (rI0 fun i j => .bl (decide (i < j))) := opB0 fun _ _ _ _ _ _ _ q => lt_int q
theorem op_le : OpR X (compareOp .LtE) (rI0 fun i j => .bl (decide (i ≤ j))) := opB0 fun _ _ _ _ _ _ _ q => le_int q
theorem op_gt : OpR X (compareOp .Gt) (rI0 fun i j => .bl (decide (j < i))) := opB0 fun _ _ _ _ _ _ _ q => gt_int q
theorem op_ge : OpR X (compareOp .GtE) (rI0 fun i j => .bl (decide (j ≤ i))) := opB0 fun _ _ _ _ _ _ _ q => ge_int q
theorem op_isN : OpR X (compareOp .Is) fun x y H Q => y = .non ∧ Q (.bl (decide (x = .non))) H := by
 intro pins s σ H x y v u Q I rx ry h
 obtain ⟨rfl, q⟩ := h
 cases ry
 refine is_none_gen (fin_bl I q ?_)
 cases x <;> first
  | (obtain ⟨t, rfl⟩ := rx; rfl)
theorem op_notN : OpR X (compareOp .IsNot) fun x y H Q => y = .non ∧ Q (.bl !decide (x = .non)) H := by
 intro pins s σ H x y v u Q I rx ry h
 obtain ⟨rfl, q⟩ := h
 cases ry
 refine isnot_none_gen (fin_bl I q ?_)
 cases x <;> first
  | (obtain ⟨t, rfl⟩ := rx; rfl)
theorem OpR.or (h : OpR X f r) (h' : OpR X f r') : OpR X f fun x y H Q => r x y H Q ∨ r' x y H Q := by
 intro pins s σ H x y v u Q I rx ry q
 rcases q with q | q
 · exact h _ s σ H x y v u Q I rx ry q
 · exact h' _ s σ H x y v u Q I rx ry q
theorem nomark (b : Expr) {op} (h : op ≠ .In := by decide) (h2 : op ≠ .NotIn := by decide) : behindInMarks op b = false := by
 have e1 : (op == CmpOp.In) = false := by grind
 have e2 : (op == CmpOp.NotIn) = false := by grind
 cases b <;> simp [behindInMarks, e1, e2]
theorem pe_cmpR (ho : OpR X (compareOp op) r) (ha : PE X a ta) (hb : PE X b tb) (hm : behindInMarks op b = false) : PE X (.Compare a [op] [b] pos) (tOp r ta tb) := by
 intro pins s σ H Q I h
 exact wpAny_Compare1 (binT ha hb I h fun v u s2 x y H2 I2 rx ry q => ho _ s2 σ H2 x y v u Q I2 rx ry q) hm
def tTest (t : TE) : TT := fun σ H Q => t σ H fun x H' => ∃ k, x = .bl k ∧ Q k H'
theorem pt_cmpR (ho : OpR X (compareOp op) r) (ha : PE X a ta) (hb : PE X b tb) (hm : behindInMarks op b = false) : PT X (.Compare a [op] [b] pos) (tTest (tOp r ta tb)) := by
 intro pins s σ H Q I h
 refine wpAny_isTrue_Compare1 (thn (ha _ s σ H _ I h) fun v s1 ⟨x, H1, I1, r1, q1⟩ => thn (hb _ s1 σ H1 _ I1 q1) fun u s2 ⟨y, H2, I2, r2, q2⟩ =>
  thn (ho _ s2 σ H2 x y v u _ I2 r1 r2 q2) fun c s3 ⟨z, H3, I3, r3, k, e, q3⟩ => ?_) hm
 subst e
 cases r3
 exact wpAny_truthy_bool ⟨H3, I3, q3⟩
def TruV (K : PySem.W.Frag) (x : V) (H : Hp) (k : Bool) : Prop :=
 match x with
 | .non => k = false
 | .bl b => k = b
 | .int i => k = (i != 0)
 | .str y => y.length ≤ sizeLine ∧ k = ((y.length : Int) != 0)
 | .byt y => y.size ≤ sizeLine ∧ k = ((y.size : Int) != 0)
 | .ref p => (∃ xs, SqL K H p xs ∧ k = !xs.isEmpty) ∨ ∃ xs, SqT K H p xs ∧ k = !xs.isEmpty
 | _ => False
theorem isEmpty_of (r : Vals xs its) : (!its.toArray.isEmpty) = !xs.isEmpty := by
 cases r <;> simp
theorem line63 : sizeLine < 2 ^ 63 := by decide
theorem tru_ok : TruR X (fun x H Q => ∃ k, TruV X.K x H k ∧ Q k H) := by
 intro pins s σ H x v Q I rx h
 obtain ⟨k, e, q⟩ := h
 have hl := line63
 have hs : sizeLine = 16777216 := sizeLine_eq
 cases x with
 | non =>
  cases rx
  have e' : k = false := e
  subst e'
  exact truthy_none ⟨H, I, q⟩
 | bl b =>
  cases rx
  have e' : k = b := e
  subst e'
  exact wpAny_truthy_bool ⟨H, I, q⟩
 | int i =>
  obtain ⟨t, rfl⟩ := rx
  have e' : k = (i != 0) := e
  subst e'
  exact PySem.P.truthy_int ⟨H, I, q⟩
 | str y =>
  obtain ⟨t, rfl⟩ := rx
  obtain ⟨hy, e'⟩ : y.length ≤ sizeLine ∧ k = ((y.length : Int) != 0) := e
  subst e'
  exact PySem.P.truthy_str (by omega) ⟨H, I.tok _, q⟩
 | byt y =>
  obtain ⟨t, rfl⟩ := rx
  obtain ⟨hy, e'⟩ : y.size ≤ sizeLine ∧ k = ((y.size : Int) != 0) := e
  subst e'
  exact PySem.W.truthy_bytes (by omega) ⟨H, I.tok _, q⟩
 | ref p =>
  cases rx
  have e' : (∃ xs, SqL X.K H p xs ∧ k = !xs.isEmpty) ∨ (∃ xs, SqT X.K H p xs ∧ k = !xs.isEmpty) := e
  rcases e' with ⟨xs, hx, e'⟩ | ⟨xs, hx, e'⟩
  · subst e'
    obtain ⟨its, r, pl, hz⟩ := I.list hx
    have hlen := r.length
    exact wpAny_truthy_list pl.isList (by simp only [List.size_toArray]; omega) ⟨H, I.tok _, by rw [isEmpty_of r]; exact q⟩
  · subst e'
    obtain ⟨its, r, pl, hz⟩ := I.tuple hx
    have hlen := r.length
    exact truthy_tuple pl (by simp only [List.size_toArray]; omega) ⟨H, I.tok _, by rw [isEmpty_of r]; exact q⟩
 | _ => exact (show False from e).elim
theorem pt_truth (ha : PE X a ta) (he : ∀ whole, isTrue a X.env whole = do let v ← whole; standAt a.pos; holding [v] (truthy v)) :
 PT X a fun σ H Q => ta σ H fun x H' => ∃ k, TruV X.K x H' k ∧ Q k H' := by
 intro pins s σ H Q I h
 exact isTrue_plain (thn (ha _ s σ H _ I h) fun v s1 ⟨x, H1, I1, r1, q1⟩ => tru_ok _ s1 σ H1 x v Q I1 r1 q1) (he _)
theorem op_add_str : OpR X (binaryOp .Add) fun x y H Q => ∃ i j, x = .str i ∧ y = .str j ∧ i.length + j.length ≤ sizeLine ∧ Q (.str (i ++ j)) H := by
 intro pins s σ H x y v u Q I rx ry h
 obtain ⟨i, j, rfl, rfl, hz, q⟩ := h
 obtain ⟨t, rfl⟩ := rx
 obtain ⟨t', rfl⟩ := ry
 exact add_str (fun t' tk => ⟨.str _, H, I.tok _, ⟨_, rfl⟩, q⟩) hz
theorem vals1 (r : Vals [x] us) : ∃ u, us = [u] ∧ RelV x u := by
 cases r with
 | cons r1 r2 => cases r2; exact ⟨_, rfl, r1⟩
theorem vals2 (r : Vals [x, y] us) : ∃ u w', us = [u, w'] ∧ RelV x u ∧ RelV y w' := by
 cases r with
 | cons r1 r2 =>
  cases r2 with
  | cons r3 r4 => cases r4; exact ⟨_, _, rfl, r1, r3⟩
theorem call_max2 (hc : X.calm = true) : CallR X (.builtin "max") fun xs H Q => ∃ i j, xs = [.int i, .int j] ∧ Q (.int (if j > i then j else i)) H := by
 intro pins s σ H xs us Q I r h
 obtain ⟨i, j, rfl, q⟩ := h
 obtain ⟨u, w', rfl, ⟨t, rfl⟩, ⟨t', rfl⟩⟩ := vals2 r
 refine max_two_ints (I.ok.hd hc) fun h' tk k => ⟨_, H, I.kept k, ?_, q⟩
 by_cases hj : j > i
 · rw [if_pos hj, if_pos hj]; exact ⟨_, rfl⟩
 · rw [if_neg hj, if_neg hj]; exact ⟨_, rfl⟩
theorem call_min2 (hc : X.calm = true) : CallR X (.builtin "min") fun xs H Q => ∃ i j, xs = [.int i, .int j] ∧ Q (.int (if j < i then j else i)) H := by
 intro pins s σ H xs us Q I r h
 obtain ⟨i, j, rfl, q⟩ := h
 obtain ⟨u, w', rfl, ⟨t, rfl⟩, ⟨t', rfl⟩⟩ := vals2 r
 refine min_two_ints (I.ok.hd hc) fun h' tk k => ⟨_, H, I.kept k, ?_, q⟩
 by_cases hj : j < i
 · rw [if_pos hj, if_pos hj]; exact ⟨_, rfl⟩
 · rw [if_neg hj, if_neg hj]; exact ⟨_, rfl⟩
theorem call_int1 : CallR X (.type "int") fun xs H Q => (∃ i, xs = [.int i] ∧ Q (.int i) H) ∨ ∃ k, xs = [.bl k] ∧ Q (.int (if k then 1 else 0)) H := by
 intro pins s σ H xs us Q I r h
 rcases h with ⟨i, rfl, q⟩ | ⟨k, rfl, q⟩
 · obtain ⟨u, rfl, t, rfl⟩ := vals1 r
   exact call_int_int ⟨.int i, H, I, ⟨_, rfl⟩, q⟩
 · obtain ⟨u, rfl, r1⟩ := vals1 r
   cases r1
   exact call_int_bool ⟨.int _, H, I.tok _, ⟨_, rfl⟩, q⟩
theorem call_str_int : CallR X (.type "str") fun xs H Q => ∃ i, xs = [.int i] ∧ i.natAbs.log2 < 1920 ∧ Q (.str (toString i)) H := by
 intro pins s σ H xs us Q I r h
 obtain ⟨i, rfl, hz, q⟩ := h
 obtain ⟨u, rfl, t, rfl⟩ := vals1 r
 exact PySem.P.str_of_int hz ⟨.str _, H, I.tok _, ⟨_, rfl⟩, q⟩
end
structure ObjM (h : Heap) (x dx C : Addr) (mA : Str → Option Value) : Prop where
 obj : h.get? x = some (PySem.W.instObj C dx)
 ns : h.Ns1 dx mA
 ne : dx ≠ x
theorem lookIn_ns {h : Heap} {dx} {mA} (n : h.Ns1 dx mA) : ∃ od, h.get? dx = some od ∧ ∀ name, PySem.W.lookIn name od = some (mA name) := by
 obtain ⟨o, es, ep, ho, hd, hk, _, hm⟩ := n
 refine ⟨o, ho, fun name => ?_⟩
 have e := hm name
 unfold nsFind findBy at e
 unfold PySem.W.lookIn
 rw [hd]
 dsimp only
 split
 · simp_all
 · have a : es.toList.any (·.refKey) = false := by
    rw [List.any_eq_false]
    intro y hy
    obtain ⟨z, t, hkey⟩ := hk y (Array.mem_toList_iff.mp hy)
    simp [DictEntry.refKey, hkey]
   grind
theorem ObjM.look (I : ObjM h x dx C mA) : ∃ od, PySem.W.InstAt h x (PySem.W.instObj C dx) C (some od) ∧ ∀ name, PySem.W.lookIn name od = some (mA name) :=
 let ⟨od, ho, hl⟩ := lookIn_ns I.ns
 ⟨od, ⟨I.obj, rfl, rfl, ho⟩, hl⟩
section
variable {P : Program} {w : World} {H H' : Hp} {h h' : Heap} {a C dx : Addr} {fs fs' : List (Str × V)}
theorem ins_get (hok : HOk P w H h) (e : H a = some (.ins C dx fs)) : ∃ mA, ObjM h a dx C mA ∧ (∀ f, RelO (fs.lookup f) (mA f)) ∧ PySem.Within mA (fs.map (·.1)) ∧ fs.length ≤ 1000 ∧ H dx = some (.own a) := by
 obtain ⟨d, z, ne, ob, mA, n, r, q⟩ := hok a _ e
 exact ⟨mA, ⟨ob, n, ne⟩, r, q, z, d⟩
end
structure Cls (K : PySem.W.Frag) (C : Addr) : Prop where
 pg : PySem.W.plainGet K C Str.empty = true
 hd : PySem.W.hasDictIn K C = true
 po : PySem.W.plainOver K C = true
 sa : PySem.W.findIn K (.ref C) "__setattr__" = some (some (.builtin "object.__setattr__"))
theorem Cls.get {K} {C} (c : Cls K C) (f : Str) : PySem.W.plainGet K C f = true := c.pg
structure Meth (K : PySem.W.Frag) (C : Addr) (m : Str) (f : Addr) : Prop where
 at_ : PySem.W.findIn K (.ref C) m = some (some (.ref f))
 fn : PySem.W.isFn K (.ref f) = true
 kp : PySem.W.keepIn K (.ref f) = true
section
variable {X : Cx} {o e value : Expr} {f : Str} {pos pos' tpos : Pos} {ta tv : TE}
def rAdd : V → V → Hp → VK → Prop := fun x y H Q => ∃ i j, x = .int i ∧ y = .int j ∧ Q (.int (i + j)) H
end
section
variable {X : Cx} {pins : List (Addr × Obj)} {σ : St} {H : Hp} {s : Shared} {A : Around} {E : Value → Shared → Prop} {Q : Value → Shared → Prop} {c : Value} {b : Bool}
inductive TyOf (K : PySem.W.Frag) (H : Hp) : V → Value → Prop where
 | non : TyOf K H .non (.type "NoneType")
 | bl (x : Bool) : TyOf K H (.bl x) (.type "bool")
 | int (i : Int) : TyOf K H (.int i) (.type "int")
 | str (x : Str) : TyOf K H (.str x) (.type "str")
 | flt (x : UInt64) : TyOf K H (.flt x) (.type "float")
 | lst {a : Addr} {xs : List V} (e : H a = some (.lst xs)) : TyOf K H (.ref a) (.type "list")
 | frz {a : Addr} {o : Obj} {xs : List V} (e : H a = some (.frz o (.lst xs))) : TyOf K H (.ref a) (.type "list")
 | tup {a : Addr} {xs : List V} (e : H a = some (.tup xs)) : TyOf K H (.ref a) (.type "tuple")
 | ins {a C dx : Addr} {fs : List (Str × V)} (e : H a = some (.ins C dx fs)) (cl : Cls K C) (ha : PySem.W.findIn K (.ref C) "__class__" = some (some (.builtin "object.__class__")))
  (hn : PySem.W.specialIn K (.builtin "object.__class__") "__get__" = some (some (.builtin "getset_descriptor.__get__"))) (htk : PySem.W.takesIn K (.builtin "object.__class__") = some true)
  (hm : PySem.W.mroIn K C (.type "object") = some true) : TyOf K H (.ref a) (.ref C)
theorem isinst_ok {x : V} {u t : Value} (I : Inv X pins σ H s) (rx : RelV x u) (ty : TyOf X.K H x t) (e : PySem.W.kitOne X.K t c = some b) (h : ∀ tk, Q (.bool b) { s with toks := tk }) :
 wpAny (model X.prog X.w) A (call (.builtin "isinstance") [u, c]) Q E s := by
 cases ty with
 | non => cases (show u = Value.none from rx); exact PySem.W.kia_one PySem.W.kitx_none I.kIn True.intro e nofun h
 | bl y => cases (show u = Value.bool y from rx); exact PySem.W.kia_one PySem.W.kitx_bool I.kIn True.intro e nofun h
 | int i => obtain ⟨t, q⟩ := (show ∃ t, u = Value.int i t from rx); cases q; exact PySem.W.kia_one PySem.W.kitx_int I.kIn True.intro e nofun h
 | str y => obtain ⟨t, q⟩ := (show ∃ t, u = Value.str y t from rx); cases q; exact PySem.W.kia_one PySem.W.kitx_str I.kIn True.intro e nofun h
 | flt y => obtain ⟨t, q⟩ := (show ∃ t, u = Value.float y t from rx); cases q; exact PySem.W.kia_one PySem.W.kitx_float I.kIn True.intro e nofun h
 | @lst a xs ea =>
  cases (show u = Value.ref a from rx)
  obtain ⟨_, _, n, _, h1⟩ := (show ObjOk X.prog X.w H s.heap a (.lst xs) from I.hok a _ ea)
  exact PySem.W.kia_one PySem.W.kitx_list I.kIn ⟨_, h1, rfl⟩ e nofun h
 | @frz a ob xs ea =>
  cases (show u = Value.ref a from rx)
  obtain ⟨_, _, _, n, _, h1⟩ := (show ObjOk X.prog X.w H s.heap a (.frz ob (.lst xs)) from I.hok a _ ea)
  exact PySem.W.kia_one PySem.W.kitx_list I.kIn ⟨_, h1, rfl⟩ e nofun h
 | @tup a xs ea =>
  cases (show u = Value.ref a from rx)
  obtain ⟨_, _, _, p⟩ := (show ObjOk X.prog X.w H s.heap a (.tup xs) from I.hok a _ ea)
  obtain ⟨o, h1, h2, _⟩ := p
  exact PySem.W.kia_one PySem.W.kitx_tuple I.kIn ⟨o, h1, h2⟩ e nofun h
 | @ins a C dx fs ea cl ha hn htk hm =>
  cases (show u = Value.ref a from rx)
  obtain ⟨mA, O, _⟩ := ins_get I.hok ea
  obtain ⟨od, J, _⟩ := O.look
  exact PySem.W.kia_one (PySem.W.kitx_own (cl.get _) cl.hd ha hn htk hm) I.kIn J e nofun h
end
structure Room (k : Nat) (A : Around) : Prop where
 hd : A.handled = none
 dp : A.depth + 3 * k + 5 < recursionLimit
 un : A.units + 16 * k + 200 < cLine
theorem Room.mono {j k} {A} (r : Room k A) (h : j ≤ k) : Room j A := ⟨r.hd, by have := r.dp; omega, by have := r.un; omega⟩
theorem Room.deeper (r : Room (k + 1) A) (env : Env) : Room k (A.deeper env) :=
 ⟨r.hd, by have := r.dp; show A.depth + 1 + 3 * k + 5 < _; omega, by have := r.un; show A.units + 3 + 16 * k + 200 < _; omega⟩
theorem Room.depth (r : Room k A) : A.depth < recursionLimit := by have := r.dp; omega
theorem Room.units (r : Room k A) : A.units + 64 < cLine := by have := r.un; omega
def tNil : TA := fun _ H Q => Q [] H
def tCons (ta : TE) (tr : TA) : TA := fun σ H Q => ta σ H fun x H1 => tr σ H1 fun xs H2 => Q (x :: xs) H2
section
variable {X : Cx} {e : Expr} {es : List Expr} {te : TE} {t : TA} {pos : Pos}
theorem pa_nil : PA X [] tNil := fun _ _ _ _ H Q I h => Calls.spliced_nil ⟨[], H, I, .nil, h⟩
theorem pa_cons (ha : PE X e te) (hr : PA X es t) (hs : starEach (e :: es) X.env = (false, eval e X.env) :: starEach es X.env := by rfl) : PA X (e :: es) (tCons te t) := by
 intro pos pins s σ H Q I h
 rw [hs]
 refine Calls.spliced_cons (thn (ha _ s σ H _ I h) fun u s1 ⟨x, H1, I1, r1, q1⟩ => ?_)
 exact thn (hr _ _ s1 σ H1 _ I1 q1) fun us s2 ⟨xs, H2, I2, r2, q2⟩ => ⟨_, H2, I2, .cons r1 r2, q2⟩
def tTup (t : TA) : TE := fun σ H Q => t σ H fun xs H1 => xs.length ≤ sizeLine ∧ ∀ p, H1 p = none → Q (.ref p) (upd H1 p (.tup xs))
def tLst (t : TA) : TE := fun σ H Q => t σ H fun xs H1 => xs.length ≤ sizeLine ∧ ∀ p, H1 p = none → Q (.ref p) (upd H1 p (.lst xs))
theorem pe_tup (h : PA X es t) : PE X (.Tuple es x1 pos) (tTup t) := by
 intro pins s σ H Q I hq
 refine wpAny_Tuple_spliced (thn (h _ _ s σ H _ I hq) fun us s1 ⟨xs, H1, I1, r, z, q⟩ => ⟨by rw [← r.length]; exact z, ?_⟩)
 have hf := I1.hok.fresh (Nat.le_refl _)
 refine ⟨.ref _, _, I1.laid (fun b u e => Heap.get?_push_of_some _ e) (Nat.le_refl _) ?_, rfl, q _ hf⟩
 exact ⟨z, us, r, ⟨_, Heap.get?_push_size _ rfl, rfl, _, rfl⟩⟩
theorem pe_lst (h : PA X es t) : PE X (.List es pos) (tLst t) := by
 intro pins s σ H Q I hq
 refine wpAny_List_spliced (thn (h _ _ s σ H _ I hq) fun us s1 ⟨xs, H1, I1, r, z, q⟩ => ⟨by rw [← r.length]; exact z, ?_⟩)
 have hf := I1.hok.fresh (Nat.le_refl _)
 refine ⟨.ref _, _, I1.laid (fun b u e => Heap.get?_push_of_some _ e) (Nat.le_refl _) ?_, rfl, q _ hf⟩
 exact ⟨z, us, 0, r, Heap.get?_push_size _ rfl⟩
end
abbrev Sp := List V → Hp → VK → XK → Prop
abbrev CXT := List Env → Hp → Shared → XK → Value → Shared → Prop
structure Env0 (P : Program) (w : World) (K : PySem.W.Frag) (mg : Str → Option Value) (base : Heap) (A : Around) (outer : List Env) (s : Shared) (H : Hp) : Prop where
 frames : A.frames = some outer
 mod : Mod K mg base
 bs : ∀ b o, base.get? b = some o → s.heap.get? b = some o ∧ H b = none
 bsz : base.objs.size ≤ s.heap.objs.size
 funs : s.heap.FunFrames base outer
 frf : ∀ b ∈ frs outer, H b = none
 hok : HOk P w H s.heap
 bare : AllBare s.gens
def CE (outer : List Env) (P : Program) (w : World) (H : Hp) (s : Shared) (Q : VK) (u : Value) (s' : Shared) : Prop :=
 ∃ v H', OsG s s' ∧ AllBare s'.gens ∧ Un (frs outer) [] H H' s.heap s'.heap ∧ HOk P w H' s'.heap ∧ RelV v u ∧ Q v H'
def CR (CX : CXT) (outer : List Env) (P : Program) (w : World) (H : Hp) (s : Shared) (Q : VK) (E : XK) (r : Result) (s' : Shared) : Prop :=
 match r with
 | .ok (.ret u) => CE outer P w H s Q u s'
 | .ok _ => False
 | .error e => CX outer H s E e s'
structure FnOk (P : Program) (w : World) (K : PySem.W.Frag) (mg : Str → Option Value) (base : Heap) (CX : CXT) (k : Nat) (f : Addr) (fd : FuncData) (ps : List Str) (sp : Sp) : Prop where
 len : ∀ vs H Q E, sp vs H Q E → vs.length = ps.length
 run : ∀ (A : Around) (outer : List Env) (s : Shared) (H : Hp) (args : Args) (us : List Value) (vs : List V) (Q : VK) (E : XK), Room k A → Env0 P w K mg base A outer s H → BindsTo s fd args (ps.zip us) → Vals vs us → sp vs H Q E →
  codeAny (model P w) A (.call (.ref f) args) (CR CX outer P w H s Q E) s
section
variable {X : Cx} {pins : List (Addr × Obj)} {σ : St} {H : Hp} {s s' : Shared}
theorem Inv.env0 (I : Inv X pins σ H s) : Env0 X.prog X.w X.K X.mg X.base X.A X.stack s H :=
 ⟨I.ok.frames, I.ok.mod, I.bs, Nat.le_trans I.ok.bsz I.sz, I.stack, I.stkFree, I.hok, I.bare⟩
theorem Inv.after (I : Inv X pins σ H s) (h : CE X.stack X.prog X.w H s Q u s') : EP X pins σ Q u s' := by
 obtain ⟨v, H', os, bare, un, hok, r, q⟩ := h
 obtain ⟨hh, g, d, t, os'⟩ := s'
 obtain rfl : os' = s.os := os.1
 exact ⟨v, H', I.call un hok bare os.2 fun b z => absurd z (by simp), r, q⟩
end
def tCall (sp : Sp) (dvs : List V) (E : XK) (t : TA) : TE := fun σ H Q => t σ H fun vs H1 => sp (vs ++ dvs) H1 Q E
def Binds (K : PySem.W.Frag) (fd : FuncData) (ps : List Str) (ds : List Value) : Prop :=
 ∀ (s : Shared) (us : List Value), K.In s.heap → (us ++ ds).length = ps.length → BindsTo s fd ⟨us, []⟩ (ps.zip (us ++ ds))
theorem Binds.all {K} {fd} {ps} (h : ∀ us, us.length = ps.length → bindArgs fd ⟨us, []⟩ = pure (ps.zip us)) : Binds K fd ps [] := fun s us _ hl => by
 rw [List.append_nil] at hl ⊢
 exact .of_eq (h us hl)
def Passes (CX : CXT) (X : Cx) (E : XK) : Prop := ∀ (pins : List (Addr × Obj)) (σ : St) (H : Hp) (s : Shared) (e : Value) (s' : Shared), Inv X pins σ H s → CX X.stack H s E e s' → X.xe e s'
section
variable {X : Cx} {CX : CXT} {k : Nat} {f C : Addr} {fd : FuncData} {ps : List Str} {sp : Sp} {dvs : List V} {ds : List Value} {E : XK} {x m : Str} {p pos apos : Pos} {e o : Expr} {es : List Expr} {ta : TE} {t : TA}
theorem run_fn {σ : St} {H} {s} {Q} {us} {vs} (F : FnOk X.prog X.w X.K X.mg X.base CX k f fd ps sp) (hr : Room k X.A) (hb : Binds X.K fd ps ds) (hd : Vals dvs ds) (hx : Passes CX X E)
 (I : Inv X pins σ H s) (r : Vals vs us) (h : sp (vs ++ dvs) H Q E) : wpAny (model X.prog X.w) X.A (call (.ref f) us) (EP X pins σ Q) X.xe s := by
 have r2 := r.append hd
 have hl : (us ++ ds).length = ps.length := by rw [← r2.length]; exact F.len _ _ _ _ h
 refine wpAny_call (codeAny_mono (F.run _ _ s H _ _ _ Q E hr I.env0 (hb s us I.kIn hl) r2 h) fun r s' hq => ?_)
 cases r with
 | error e => exact hx _ σ H s e s' I hq
 | ok fl =>
  cases fl with
  | ret u => exact I.after hq
  | next => exact False.elim hq
  | brk => exact False.elim hq
  | cont => exact False.elim hq
theorem pe_call (F : FnOk X.prog X.w X.K X.mg X.base CX k f fd ps sp) (hr : Room k X.A) (hg : Gl X x) (hm : X.mg x = some (.ref f)) (hk : PySem.W.keepIn X.K (.ref f) = true) (hb : Binds X.K fd ps ds) (hd : Vals dvs ds) (hx : Passes CX X E)
 (ha : PA X (e :: es) t) (hdb : (x == ("__debug__")) = false := by decide) (he : starEach (e :: es) X.env = (false, eval e X.env) :: starEach es X.env := by rfl) (hpl : (backTo pos (starEach es X.env)).any (·.1) = false := by rfl) :
 PE X (.Call (.Name x p) (e :: es) [] pos) (tCall sp dvs E t) := by
 intro pins s σ H Q I h
 refine wpAny_Call_Name_kw (ld_glob I hg hm ?_ hdb)
 refine PySem.W.callWith_K I.ok.mod.kin hk (thn (ha _ _ s σ H _ I h) fun us s1 ⟨vs, H1, I1, r, q⟩ => ⟨I1.kIn, ?_⟩) he hpl
 exact run_fn F hr hb hd hx I1 r q
theorem pe_call0 (F : FnOk X.prog X.w X.K X.mg X.base CX k f fd ps sp) (hr : Room k X.A) (hg : Gl X x) (hm : X.mg x = some (.ref f)) (hk : PySem.W.keepIn X.K (.ref f) = true) (hb : Binds X.K fd ps ds) (hd : Vals dvs ds) (hx : Passes CX X E)
 (hdb : (x == "__debug__") = false := by decide) : PE X (.Call (.Name x p) [] [] pos) (tCall sp dvs E tNil) := by
 intro pins s σ H Q I h
 refine wpAny_Call_Name_kw (ld_glob I hg hm ?_ hdb)
 exact PySem.W.callWith_K0 I.kIn hk (run_fn F hr hb hd hx I .nil h)
end
structure FnScope (N P : List Str) (sc : Scope) : Prop where
 kind : sc.kind = .function
 co : sc.isCoroutine = false
 gen : sc.isGenerator = false
 nd : N.Nodup
 pre : N.take P.length = P
 par : ∀ x ∈ P, sc.names.lookup x = some .local ∨ sc.names.lookup x = some .cell
 nofree : ∀ y ∈ sc.names, y.2 ≠ .free
theorem bindL_out {kindOf} {x} : ∀ {binds} {m}, (∀ v, (x, v) ∉ binds) → bindL kindOf binds m x = m x
 | [], _, _ => rfl
 | (n, v) :: r, m, h => by
  unfold bindL
  rw [bindL_out fun w hw => h w (List.mem_cons_of_mem _ hw)]
  split
  · have : x ≠ n := by rintro rfl; exact h v List.mem_cons_self
    simp [this]
  · rfl
theorem bindC_out {kindOf} {x} : ∀ {binds} {m}, (∀ v, (x, v) ∉ binds) → bindC kindOf binds m x = m x
 | [], _, _ => rfl
 | (n, v) :: r, m, h => by
  unfold bindC
  rw [bindC_out fun w hw => h w (List.mem_cons_of_mem _ hw)]
  split
  · rfl
  · have : x ≠ n := by rintro rfl; exact h v List.mem_cons_self
    simp [this]
theorem bindL_get {kindOf} {x} {v} : ∀ {P : List _} {vs} {i : Nat} {m}, P.Nodup → P[i]? = some x → vs[i]? = some v → kindOf x = some .local →
 bindL kindOf (P.zip vs) m x = some v
 | [], _, _, _, _, h, _, _ => by simp at h
 | _ :: _, [], _, _, _, _, h, _ => by simp at h
 | p :: P, w :: vs, 0, m, nd, h1, h2, hk => by
  simp at h1 h2; subst h1; subst h2
  show bindL _ ((p, w) :: P.zip vs) m p = _
  unfold bindL
  rw [bindL_out fun v hv => (List.nodup_cons.mp nd).1 (List.of_mem_zip hv).1, if_pos hk]
  simp
 | p :: P, w :: vs, i + 1, m, nd, h1, h2, hk => by
  show bindL _ ((p, w) :: P.zip vs) m x = _
  exact bindL_get (List.nodup_cons.mp nd).2 (by simpa using h1) (by simpa using h2) hk
theorem bindC_get {kindOf} {x} {v} : ∀ {P : List _} {vs} {i : Nat} {m}, P.Nodup → P[i]? = some x → vs[i]? = some v → kindOf x ≠ some .local →
 bindC kindOf (P.zip vs) m x = some v
 | [], _, _, _, _, h, _, _ => by simp at h
 | _ :: _, [], _, _, _, _, h, _ => by simp at h
 | p :: P, w :: vs, 0, m, nd, h1, h2, hk => by
  simp at h1 h2; subst h1; subst h2
  show bindC _ ((p, w) :: P.zip vs) m p = _
  unfold bindC
  rw [bindC_out fun v hv => (List.nodup_cons.mp nd).1 (List.of_mem_zip hv).1, if_neg hk]
  simp
 | p :: P, w :: vs, i + 1, m, nd, h1, h2, hk => by
  show bindC _ ((p, w) :: P.zip vs) m x = _
  exact bindC_get (List.nodup_cons.mp nd).2 (by simpa using h1) (by simpa using h2) hk
def start (N : List Str) (vs : List V) : St := vs.map some ++ List.replicate (N.length - vs.length) none
def cxOf (CX : CXT) (P : Program) (w : World) (K : PySem.W.Frag) (mg : Str → Option Value) (base : Heap) (N : List Str) (qual : Str) (scope : Scope) (f : Addr) (cd : Value) (A : Around) (outer : List Env) (s : Shared) (H : Hp) (E : XK) : Cx where
 prog := P
 w := w
 K := K
 mg := mg
 base := base
 A := A.deeper (envOfC qual scope s.heap.objs.size f cd)
 N := N
 s₀ := s
 H₀ := H
 env := envOfC qual scope s.heap.objs.size f cd
 outer := outer
 stack := envOfC qual scope s.heap.objs.size f cd :: outer
 ex := []
 calm := true
 fn := fun _ => true
 pn := []
 xe := fun e s' => wpAny (model P w) (A.deeper (envOfC qual scope s.heap.objs.size f cd)) (leaving (envOfC qual scope s.heap.objs.size f cd) e) (fun _ s'' => CX outer H s E e s'') (fun e' s'' => CX outer H s E e' s'') s'
theorem cell_has {sc : Scope} {n} {x} (h : sc.names.lookup x = some .cell) : ∃ c, (cellsFrom n sc.names []).lookup x = some c := by
 have q := PySem.W.cellsFrom_some _ n [] (.inl h)
 exact Option.isSome_iff_exists.mp q
theorem inv_start {CX : CXT} {P : Program} {w : World} {K : PySem.W.Frag} {mg : Str → Option Value} {base : Heap} {N ps : List Str} {qual : Str} {scope : Scope} {f : Addr} {cd : Value} {A : Around} {outer : List Env} {s s1 : Shared} {H : Hp} {E : XK} {us : List Value} {vs : List V}
 (S : FnScope N ps scope) (hd : A.handled = none) (e0 : Env0 P w K mg base A outer s H) (hl : vs.length = ps.length) (r : Vals vs us)
 (x : InCallC s s.heap.objs.size (bindL (envOfC qual scope s.heap.objs.size f cd).kindOf (ps.zip us) fun _ => none) (cellsFrom (s.heap.objs.size + 1) scope.names []) (bindC (envOfC qual scope s.heap.objs.size f cd).kindOf (ps.zip us) fun _ => none) s1) :
 Inv (cxOf CX P w K mg base N qual scope f cd A outer s H E) [] (start N vs) H s1 := by
 have hpl : ps.length ≤ N.length := by have := congrArg List.length S.pre; rw [List.length_take] at this; omega
 obtain ⟨h1, tk, rfl, hk⟩ := x.done
 have noA : ∀ b : Addr, b ∉ (cxOf CX P w K mg base N qual scope f cd A outer s H E).ex := fun b z => absurd (show b ∈ ([] : List Addr) from z) (by simp)
 refine ⟨⟨e0.mod, S.kind, rfl, rfl, Nat.le_refl _, fun y z c h1 h2 => ?_, fun y hy => ?_, fun y c _ h => ?_, fun _ => hd, Around.frames_deeper e0.frames, .inr ⟨rfl, rfl⟩, fun b z => absurd z (noA b), e0.bs, e0.bsz, fun b _ _ => noA b, fun b z => absurd z (noA b), e0.funs, e0.frf⟩,
  ⟨rfl, Nat.le_refl _⟩, e0.bare, Un.kept hk, ⟨_, x.toInCall.ns, fun i y v h1 h2 h3 => ?_⟩, fun y c h => ⟨_, x.cell y c h⟩, e0.hok.fresh (Nat.le_refl _), fun y c h => ?_, fun p hp => absurd (show p ∈ ([] : List (Addr × Obj)) from hp) (by simp), e0.hok.kept hk, ?_⟩
 · exact name_of_addr x.apart (PySem.mem_of_lookup h1) (PySem.mem_of_lookup h2)
 · rcases hy with hy | hy
   · exact cell_has hy
   · exact absurd rfl (S.nofree _ (PySem.mem_of_lookup hy))
 · exact Nat.le_of_lt (x.above y c (PySem.mem_of_lookup h))
 · have hi : i < vs.length := by
    unfold start at h2
    by_cases hi : i < vs.length
    · exact hi
    · rw [List.getElem?_append_right (by simpa using hi)] at h2
      rw [List.getElem?_replicate] at h2
      grind
   have ha : vs[i]? = some v := by
    unfold start at h2
    rw [List.getElem?_append_left (by simpa using hi), List.getElem?_map] at h2
    grind
   obtain ⟨u, hu, rv⟩ := r.get ha
   have hp : ps[i]? = some y := by
    rw [← S.pre, List.getElem?_take_of_lt (by omega)]; exact h1
   have ndP : ps.Nodup := by rw [← S.pre]; exact S.nd.sublist (List.take_sublist _ _)
   refine ⟨u, rv, ?_⟩
   rcases S.par y (List.mem_of_getElem? hp) with k | k
   · exact .inl ⟨k, bindL_get ndP hp hu k⟩
   · obtain ⟨c, e⟩ := cell_has k
     refine .inr ⟨.inl k, c, e, ?_⟩
     have q := x.cell y c e
     rw [bindC_get ndP hp hu (by show scope.names.lookup y ≠ _; rw [k]; decide)] at q
     exact q
 · exact e0.hok.fresh (Nat.le_of_lt (x.above y c (PySem.mem_of_lookup h)))
 · unfold start
   show _ = N.length
   grind
theorem fn_of {CX : CXT} {P : Program} {w : World} {K : PySem.W.Frag} {mg : Str → Option Value} {base : Heap} {k : Nat} {f : Addr} {name qual : Str} {params : Arguments} {body : List Stmt} {scope : Scope} {dV kV doc pm cdv ct oc : Value} {an od : Option Addr}
 {osl : Array (Option Value)} {N ps : List Str} {sp : Sp} (lk : K.lookup f = some ⟨oc, od, .func (PySem.W.fnOf name qual params body scope dV kV doc pm an cdv ct), osl⟩) (hcd : PySem.W.codeIn K cdv qual = true) (S : FnScope N ps scope)
 (len : ∀ vs H Q E, sp vs H Q E → vs.length = ps.length)
 (hbody : ∀ (A : Around) (outer : List _) (s : Shared) (H : Hp) (vs : List V) (Q : VK) (E : XK), Room k (A.deeper (envOfC qual scope s.heap.objs.size f cdv)) → sp vs H Q E →
  ∃ t, PSs (cxOf CX P w K mg base N qual scope f cdv A outer s H E) body t ∧ t { nx := fun _ H' => Q .non H', rt := Q } (start N vs) H) :
 FnOk P w K mg base CX (k + 1) f (PySem.W.fnOf name qual params body scope dV kV doc pm an cdv ct) ps sp := by
 refine ⟨len, fun A outer s H args us vs Q E hr e0 hb r hsp => ?_⟩
 have hl := len _ _ _ _ hsp
 have KX := e0.mod.kin.keeps fun b o e => (e0.bs b o e).1
 have lim := e0.mod.nolimit.keeps fun b o e => (e0.bs b o e).1
 have hkind : ∀ y ∈ ps.zip us, scope.names.lookup y.1 = some _ ∨ (scope.names.lookup y.1 = some _ ∧ ((cellsFrom (s.heap.objs.size + 1) _ []).lookup y.1).isSome = true) := fun ⟨n, v⟩ hy => by
  rcases S.par n (List.of_mem_zip hy).1 with q | q
  · exact .inl q
  · exact .inr ⟨q, PySem.W.cellsFrom_some _ _ _ (.inl q)⟩
 refine codeAny_call_function hr.depth (KX _ _ lk) rfl S.co S.gen rfl (PySem.W.codeRec_of KX hcd) (hb _ _ _ _ ?_)
 refine wpAny_newFunctionEnv_cells S.kind hkind fun env he s1 x => ?_
 subst he
 refine ⟨lim.keeps x.toInCall.keep, codeAny_func ?_⟩
 obtain ⟨t, ht, hq⟩ := hbody A _ s H vs Q E (hr.deeper _) hsp
 have I : Inv (cxOf CX P w K mg _ N qual _ f cdv A _ s H E) [] _ H s1 := inv_start S hr.hd e0 hl r x
 refine wpAny_mono (ht [] s1 _ H _ I hq) (fun fl s' hs => ?_) fun e s' hs => hs
 have fin : ∀ {σ'} {H'} {v} {u}, Inv (cxOf CX P w K mg base N qual scope f cdv A outer s H E) [] σ' H' s' → RelV v u → Q v H' → CE _ P w H s Q u s' :=
  fun {σ' H' v u} J rv q => ⟨v, H', J.os, J.bare, J.base, J.hok, rv, q⟩
 cases fl with
 | ret u =>
  obtain ⟨v, σ', H', J, rv, q⟩ := hs
  exact fin J rv q
 | next =>
  obtain ⟨σ', H', J, q⟩ := hs
  exact fin (v := V.non) J rfl q
 | brk =>
  obtain ⟨_, _, _, q⟩ := hs
  exact False.elim q
 | cont =>
  obtain ⟨_, _, _, q⟩ := hs
  exact False.elim q
section
variable {X : Cx} {x : Str} {p pos : Pos} {e : Expr} {es : List Expr} {t : TA} {id T : String} {r : List V → Hp → VK → Prop}
def tCB (r : List V → Hp → VK → Prop) (t : TA) : TE := fun σ H Q => t σ H fun vs H1 => r vs H1 Q
theorem pe_callB (hc : CallR X (.builtin id) r) (hg : Gl X x) (hm : X.mg x = none) (hv : bootBuiltins x = some (.builtin id)) (ha : PA X (e :: es) t) (hn : x ≠ "__name__" := by decide) (hdb : (x == ("__debug__")) = false := by decide)
 (he : starEach (e :: es) X.env = (false, eval e X.env) :: starEach es X.env := by rfl) (hpl : (backTo pos (starEach es X.env)).any (·.1) = false := by rfl) : PE X (.Call (.Name x p) (e :: es) [] pos) (tCB r t) := by
 intro pins s σ H Q I h
 refine wpAny_Call_Name_kw (ld_blt I hg hm hv ?_ hn hdb)
 exact PyProof.Rows.callWith_builtin1 (thn (ha _ _ s σ H _ I h) fun us s1 ⟨vs, H1, I1, r1, q1⟩ => hc _ s1 σ H1 vs us Q I1 r1 q1) he hpl
theorem pe_callTy (hc : CallR X (.type T) r) (hg : Gl X x) (hm : X.mg x = none) (hv : bootBuiltins x = some (.type T)) (ha : PA X (e :: es) t) (hn : x ≠ "__name__" := by decide) (hdb : (x == ("__debug__")) = false := by decide)
 (he : starEach (e :: es) X.env = (false, eval e X.env) :: starEach es X.env := by rfl) (hpl : (backTo pos (starEach es X.env)).any (·.1) = false := by rfl) : PE X (.Call (.Name x p) (e :: es) [] pos) (tCB r t) := by
 intro pins s σ H Q I h
 refine wpAny_Call_Name_kw (ld_blt I hg hm hv ?_ hn hdb)
 exact PyProof.Rows.callWith_type1 (thn (ha _ _ s σ H _ I h) fun us s1 ⟨vs, H1, I1, r1, q1⟩ => hc _ s1 σ H1 vs us Q I1 r1 q1) he hpl
end
end L2
namespace HT
open PySem PyProof.Rows
section
variable {prog : Program} {w : World} {A : Around} {E : Value → Shared → Prop} {s : Shared}
theorem cat_tup {Q} (ht : IsTup s.heap t vs.toArray) (hb : IsTup s.heap b ws.toArray) (hv : vs ≠ [])
 (h1 : ws = [] → Q (.ref t) s) (h2 : ws ≠ [] → Q (.ref s.heap.objs.size) { s with heap := s.heap.push { cls := .type "tuple", data := .seq (vs ++ ws).toArray } })
 (hsz : vs.length + ws.length ≤ sizeLine) : wpAny (model prog w) A (binaryOp .Add (.ref t) (.ref b)) Q E s := by
 obtain ⟨⟨cls, dd, data, sl⟩, ho, hc, n, hd⟩ := id ht
 obtain ⟨⟨cls2, dd2, data2, sl2⟩, ho2, hc2, n2, hd2⟩ := id hb
 subst hc hd hc2 hd2
 have e : vs.toArray ++ ws.toArray = (vs ++ ws).toArray := by simp
 by_cases hw : ws = []
 · exact concat_meets ⟨_, ho, rfl⟩ ⟨_, ho2, rfl⟩ noFill_tuple_add seq_tuple_add PySem.F.slot_tuple_add PySem.F.entry_tuple_add (PySem.F.args_tuple_add_2 _ _)
    (tuple_addW1 t b _ _ n n2 dd _ sl _ (by simpa using hv) (by simp [hw])) ⟨ho, ho2, h1 hw⟩
 · refine concat_meets ⟨_, ho, rfl⟩ ⟨_, ho2, rfl⟩ noFill_tuple_add seq_tuple_add PySem.F.slot_tuple_add PySem.F.entry_tuple_add (PySem.F.args_tuple_add_2 _ _)
    (tuple_addW2 t b _ _ n n2 dd _ sl _ (by simpa using hv) (by simpa using hw) (by omega)) ⟨ho, ho2, ?_⟩
   rw [e]
   exact h2 hw
def sIx (n d : Nat) : Option Int → Nat
 | none => d
 | some v => if v < 0 then (v + (n : Int)).toNat else min v.toNat n
theorem sIx_none (n d : Nat) : sIx n d none = d := rfl
theorem clip_eq (v : Int) (n d : Nat) : (if v < 0 then max (v + n) 0 else min v n) = sIx n d (some v) := by
 show (if v < 0 then max _ 0 else min v n) = (if v < 0 then (v + n).toNat else min _ n)
 grind
theorem adjust_gen (lo hi : Option _) (n : Nat) : Builtin.Slice.sliceAdjust lo hi 1 n = ((sIx n 0 lo : Int), (sIx n n hi : Int)) := by
 refine Prod.ext ?_ ?_
 · cases lo with
   | none => rfl
   | some v => exact clip_eq v n 0
 · cases hi with
   | none => rfl
   | some v => exact clip_eq v n n
theorem places_gen (i j : Nat) : Builtin.Slice.slicePlaces i j 1 = j - i := by
 unfold Builtin.Slice.slicePlaces
 grind
theorem slicePart_ (p : IsPart v o) (h : Q o s) : wpAny (model prog w) A (Builtin.Slice.slicePartIndex v) Q E s := by
 cases p with
 | none => exact slicePart_none h
 | int i t => exact slicePart_int h
theorem sliceApplied_gen {lo hi} {n : Nat} {Q} (hs : s.heap.IsSliceOf sl vl vu .none) (pl : IsPart vl lo) (pu : IsPart vu hi)
 (h : Q (sIx n 0 lo, 1, sIx n n hi - sIx n 0 lo) s) : wpAny (model prog w) A (Builtin.Slice.sliceApplied (.ref sl) (pure n)) Q E s := by
 obtain ⟨os, hos, hcs, hds⟩ := id hs
 refine wpAny_bind (wpAny_bind (wpAny_field hos hds (x := vl) rfl (wpAny_bind (wpAny_field hos hds (x := vu) rfl (wpAny_bind (wpAny_field hos hds rfl (wpAny_pure ?_)))))))
 refine wpAny_bind (slicePart_none ?_)
 refine wpAny_bind (slicePart_ pl (wpAny_bind (slicePart_ pu (wpAny_bind (wpAny_pure ?_)))))
 show wpAny _ _ (match Builtin.Slice.sliceAdjust lo hi 1 n with | (lo, hi) => pure (lo, (1 : Int), Builtin.Slice.slicePlaces lo hi 1)) _ _ s
 rw [adjust_gen lo hi n]
 show wpAny _ _ (pure _) _ _ s
 rw [places_gen]
 exact wpAny_pure h
theorem pick_gen (xs : Array Value) (i k : Nat) : ((List.range k).filterMap fun (m : Nat) => xs[((i : Int) + m * 1).toNat]?).toArray = ((xs.toList.drop i).take k).toArray := by
 have e : (fun (m : Nat) => xs[((i : Int) + m * 1).toNat]?) = fun m => xs[i + m]? := by
  funext m
  have : ((i : Int) + m * 1).toNat = i + m := by omega
  rw [this]
 have := pick_run xs i k
 have e2 : ((fun x => xs[x]?) ∘ fun x => i + x) = fun m => xs[i + m]? := rfl
 simp_all
theorem getItem_tuple_cut {t sl : Addr} {items : Array Value} {vl vu : Value} {lo hi : Option Int} {Q : Value → Shared → Prop} (ht : IsTup s.heap t items) (hs : s.heap.IsSliceOf sl vl vu .none) (pl : IsPart vl lo) (pu : IsPart vu hi)
 (hw : ¬ (sIx items.size 0 lo = 0 ∧ sIx items.size items.size hi = items.size))
 (h : Q (.ref s.heap.objs.size) { s with heap := s.heap.push { cls := .type "tuple", data := .seq ((items.toList.drop (sIx items.size 0 lo)).take (sIx items.size items.size hi - sIx items.size 0 lo)).toArray } })
 (hsz : items.size ≤ sizeLine) : wpAny (model prog w) A (getItem (.ref t) (.ref sl)) Q E s := by
 have htake : sizeOk (.seq ((items.toList.drop (sIx items.size 0 lo)).take (sIx items.size items.size hi - sIx items.size 0 lo)).toArray) := by
  show ((items.toList.drop _).take _).toArray.size ≤ sizeLine
  rw [List.size_toArray, List.length_take, List.length_drop, Array.length_toList]
  omega
 obtain ⟨os, hos, hcs, hds⟩ := id hs
 have hTs : s.TypeIs (.ref sl) _ := ⟨os, hos, hcs⟩
 unfold getItem
 try with_reducible refine wpAny_holding ?_
 refine wpAny_bind (wpAny_sequenceKey ht.typeIs (rfl) ?_)
 refine wpAny_bind (wpAny_callSpecial?_slot ht.typeIs PyProof.Rows.slot_tuple_getitem
  (wpAny_call_entry PyProof.Rows.slot_tuple_getitem ht.typeIs entry_tuple_getitem ?_ (args_tuple_getitem _ _)))
 show wpAny _ _ (Builtin.Tuple.tupleItemsOf _ >>= _) _ _ s
 refine wpAny_bind (tupleItemsOf_ ht ?_)
 refine wpAny_bind (wpAny_typeOf hTs ?_)
 refine wpAny_bind (sliceApplied_gen hs pl pu ?_)
 have hno : ¬ ((((sIx items.size 0 lo) : Int) == 0 && (1 : Int) == 1 && sIx items.size items.size hi - sIx items.size 0 lo == items.size) = true) := by
  grind
 show wpAny _ _ (if (((sIx _ 0 lo) : Int) == 0 && 1 == 1 && (sIx _ _ hi - sIx _ 0 lo) == items.size) = true then _ else _) _ _ s
 rw [if_neg hno, pick_gen]
 first
  | exact wpAny_bind (wpAny_newObj_type (wpAny_pure ⟨_, rfl, wpAny_pure h⟩) htake)
end
end HT
namespace L2
abbrev TO := St → Hp → (Option Int → Hp → Prop) → Prop
def PO (X : Cx) (e : Option Expr) (t : TO) : Prop :=
 ∀ (pins : List (Addr × Obj)) (s : Shared) (σ : St) (H : Hp) (Q : Option Int → Hp → Prop), Inv X pins σ H s → t σ H Q →
  wpAny (model X.prog X.w) X.A (evalPart e X.env) (fun u s' => ∃ o H', Inv X pins σ H' s' ∧ IsPart u o ∧ Q o H') X.xe s
def tNoPart : TO := fun _ H Q => Q none H
def tPart (t : TE) : TO := fun σ H Q => t σ H fun x H1 => ∃ i, x = .int i ∧ Q (some i) H1
section
variable {X : Cx} {e : Expr} {te : TE} {lo hi : Option Expr} {tl th : TO} {pos p2 : Pos}
theorem po_none : PO X none tNoPart := by
 intro pins s σ H Q I h
 exact wpAny_pure ⟨_, H, I, .none, h⟩
theorem po_some (h : PE X e te) : PO X (some e) (tPart te) := by
 intro pins s σ H Q I hw
 refine thn (h _ s σ H _ I hw) fun u s1 ⟨x, H1, I1, r1, q1⟩ => ?_
 obtain ⟨i, rfl, q⟩ := q1
 obtain ⟨t, rfl⟩ := r1
 exact ⟨_, H1, I1, .int i t, q⟩
def SlR (X : Cx) (r : V → Option Int → Option Int → Hp → VK → Prop) : Prop :=
 ∀ (pins : List (Addr × Obj)) (s : Shared) (σ : St) (H : Hp) (x : V) (v vl vu : Value) (lo hi : Option Int) (sl : Addr) (Q : VK), Inv X pins σ H s → RelV x v → s.heap.IsSliceOf sl vl vu .none → IsPart vl lo → IsPart vu hi → r x lo hi H Q →
  ∃ T id, typeLookup (.type T) "__getitem__" = pure (some (.builtin id)) ∧ s.TypeIs v T ∧ wpAny (model X.prog X.w) X.A (getItem v (.ref sl)) (EP X pins σ Q) X.xe s
theorem SlR.or (h : SlR X r) (h' : SlR X r') : SlR X fun x lo hi H Q => r x lo hi H Q ∨ r' x lo hi H Q := by
 intro pins s σ H x v vl vu lo hi sl Q I rx hs pl pu q
 rcases q with q | q
 · exact h _ s σ H x v vl vu lo hi sl Q I rx hs pl pu q
 · exact h' _ s σ H x v vl vu lo hi sl Q I rx hs pl pu q
def tSl (r : V → Option Int → Option Int → Hp → VK → Prop) (te : TE) (tl th : TO) : TE := fun σ H Q => te σ H fun x H1 => tl σ H1 fun l H2 => th σ H2 fun u H3 => r x l u H3 Q
theorem pe_slice (hr : SlR X r) (he : PE X e te) (hl : PO X lo tl) (hu : PO X hi th) : PE X (.Subscript e (.Slice lo hi none p2) pos) (tSl r te tl th) := by
 intro pins s σ H Q I h
 refine Subscript_ (thn (he _ s σ H _ I h) fun v s1 ⟨x, H1, I1, r1, q1⟩ => ?_)
 refine wpAny_Slice (thn (hl _ s1 σ H1 _ I1 q1) fun vl s2 ⟨l, H2, I2, pl, q2⟩ => thn (hu _ s2 σ H2 _ I2 q2) fun vu s3 ⟨u, H3, I3, pu, q3⟩ => ?_)
 refine wpAny_pure ?_
 have I4 : Inv X _ σ H3 { s3 with heap := s3.heap.push { cls := .type "slice", data := .fields #[vl, vu, .none] } } := I3.kept fun b ob q => Heap.get?_push_of_some _ q
 obtain ⟨T, id, hT, ht, hg⟩ := hr _ _ σ H3 x v vl vu l u _ Q I4 r1 (Heap.IsSliceOf.new ..) pl pu q3
 exact tail_any ht hT hg rfl
def cutV (xs : List V) (lo hi : Option Int) : List V := (xs.drop (HT.sIx xs.length 0 lo)).take (HT.sIx xs.length xs.length hi - HT.sIx xs.length 0 lo)
theorem cutV_length (xs : List V) (lo hi : Option _) : (cutV xs lo hi).length ≤ xs.length := by
 unfold cutV
 rw [List.length_take, List.length_drop]
 omega
def rSlT (K : PySem.W.Frag) : V → Option Int → Option Int → Hp → VK → Prop := fun x lo hi H Q => ∃ a xs, x = .ref a ∧ SqT K H a xs ∧
 ¬ (HT.sIx xs.length 0 lo = 0 ∧ HT.sIx xs.length xs.length hi = xs.length) ∧ ∀ p, H p = none → Q (.ref p) (upd H p (.tup (cutV xs lo hi)))
theorem sl_tup : SlR X (rSlT X.K) := by
 intro pins s σ H x v vl vu lo hi sl Q I rx hs pl pu h
 obtain ⟨a, xs, rfl, hx, hw, q⟩ := h
 cases rx
 obtain ⟨its, r, ht, hz⟩ := I.tuple hx
 have hlen : its.toArray.size = xs.length := r.length.symm
 refine ⟨_, _, PyProof.Rows.slot_tuple_getitem.lookup, ht.typeIs, ?_⟩
 refine HT.getItem_tuple_cut ht hs pl pu (by rw [hlen]; exact hw) ?_ (by rw [hlen]; exact hz)
 rw [hlen]
 refine ⟨.ref _, _, I.laid (fun b ob q => Heap.get?_push_of_some _ q) (Nat.le_refl _) ?_, rfl, q _ (I.hok.fresh (Nat.le_refl _))⟩
 exact ⟨Nat.le_trans (cutV_length xs lo hi) hz, _, (r.drop _).take _, IsTup.new _ _⟩
def rCatT (K : PySem.W.Frag) : R2 := fun x y H Q => ∃ a b xs ys, x = .ref a ∧ y = .ref b ∧ SqT K H a xs ∧ SqT K H b ys ∧ xs ≠ [] ∧ xs.length + ys.length ≤ sizeLine ∧
 (ys = [] → Q (.ref a) H) ∧ (ys ≠ [] → ∀ p, H p = none → Q (.ref p) (upd H p (.tup (xs ++ ys))))
theorem Vals.nil_iff (r : Vals xs us) : us = [] ↔ xs = [] := by
 cases r with
 | nil => simp
 | cons _ _ => simp
theorem op_catT : OpR X (binaryOp .Add) (rCatT X.K) := by
 intro pins s σ H x y v u Q I rx ry h
 obtain ⟨a, b, xs, ys, rfl, rfl, ha, hb, hx, hz, q1, q2⟩ := h
 cases rx
 cases ry
 obtain ⟨its, r1, p1, _⟩ := I.tuple ha
 obtain ⟨its2, r2, p2, _⟩ := I.tuple hb
 refine HT.cat_tup p1 p2 (fun z => hx (r1.nil_iff.mp z)) (fun z => ⟨.ref a, H, I, rfl, q1 (r2.nil_iff.mp z)⟩) (fun z => ?_) (by rw [← r1.length, ← r2.length]; exact hz)
 refine ⟨.ref _, _, I.laid (fun b ob q => Heap.get?_push_of_some _ q) (Nat.le_refl _) ?_, rfl, q2 (fun w => z (r2.nil_iff.mpr w)) _ (I.hok.fresh (Nat.le_refl _))⟩
 exact ⟨by simp_all, _, r1.append r2, IsTup.new _ _⟩
end
def ixN (n : Nat) (i : Int) : Option Nat := if 0 ≤ i then (if i < n then some i.toNat else none) else if -(n : Int) ≤ i then some (i + n).toNat else none
def atI {α : Type} (xs : List α) (i : Int) : Option α := (ixN xs.length i).bind fun j => xs[j]?
theorem ixN_seq (h : ixN n i = some j) : seqIndex? i n = some j ∧ j < n ∧ -n ≤ i ∧ i < n := by
 unfold ixN at h
 by_cases h0 : 0 ≤ i
 · rw [if_pos h0] at h
   by_cases h1 : i < n
   · rw [if_pos h1] at h
     have e := Option.some.inj h
     exact ⟨by rw [seqIndex_of h0 h1, e], by omega, by omega, h1⟩
   simp_all
 · rw [if_neg h0] at h
   by_cases h1 : -n ≤ i
   · rw [if_pos h1] at h
     have e := Option.some.inj h
     exact ⟨by rw [seqIndex_neg (by omega) h1, e], by omega, h1, by omega⟩
   simp_all
theorem atI_get {v} (h : atI xs i = some v) : ∃ j, seqIndex? i xs.length = some j ∧ xs[j]? = some v ∧ j < xs.length ∧ -xs.length ≤ i ∧ i < xs.length := by
 unfold atI at h
 cases e : ixN _ i with
 | none => rw [e] at h; cases h
 | some j =>
  rw [e] at h
  obtain ⟨h1, h2, h3, h4⟩ := ixN_seq e
  exact ⟨j, h1, h, h2, h3, h4⟩
def PlainIx (b : Expr) : Prop := ∀ o i, subscripted b false o i = operate [o, i] (getItem o i)
def IxR (X : Cx) (r : R2) : Prop :=
 ∀ (value slice : Expr) (pins : List (Addr × Obj)) (s : Shared) (σ : St) (H : Hp) (x y : V) (v u : Value) (Q : VK), Inv X pins σ H s → RelV x v → RelV y u → r x y H Q →
  subscripted slice false v u = operate [v, u] (getItem v u) → wpAny (model X.prog X.w) X.A (subscriptTail value slice v u) (EP X pins σ Q) X.xe s
def MtR (X : Cx) (id : String) (r : V → List V → Hp → VK → Prop) : Prop :=
 ∀ (pins : List (Addr × Obj)) (s : Shared) (σ : St) (H : Hp) (x : V) (xs : List V) (v : Value) (us : List Value) (Q : VK), Inv X pins σ H s → RelV x v → Vals xs us → r x xs H Q →
  wpAny (model X.prog X.w) X.A (call (.builtin id) (v :: us)) (EP X pins σ Q) X.xe s
section
variable {X : Cx} {a b : Expr} {ta tb : TE} {pos : Pos}
theorem IxR.or (h : IxR X r) (h' : IxR X r') : IxR X fun x y H Q => r x y H Q ∨ r' x y H Q := by
 intro value slice pins s σ H x y v u Q I rx ry q hs
 rcases q with q | q
 · exact h _ _ _ s σ H x y v u Q I rx ry q hs
 · exact h' _ _ _ s σ H x y v u Q I rx ry q hs
theorem MtR.or {id} {r r'} (h : MtR X id r) (h' : MtR X id r') : MtR X id fun x xs H Q => r x xs H Q ∨ r' x xs H Q := by
 intro pins s σ H x xs v us Q I rx rs q
 rcases q with q | q
 · exact h _ s σ H x xs v us Q I rx rs q
 · exact h' _ s σ H x xs v us Q I rx rs q
theorem pe_ix (hr : IxR X r) (ha : PE X a ta) (hb : PE X b tb) (hs : PlainIx b) : PE X (.Subscript a b pos) (tOp r ta tb) := by
 intro pins s σ H Q I h
 exact Subscript_ (binT ha hb I h fun v u s2 x y H2 I2 rx ry q => hr a b _ s2 σ H2 x y v u Q I2 rx ry q (hs _ _))
def rIxL (K : PySem.W.Frag) : R2 := fun x y H Q => ∃ p xs i v, x = .ref p ∧ y = .int i ∧ SqL K H p xs ∧ atI xs i = some v ∧ Q v H
def rIxT (K : PySem.W.Frag) : R2 := fun x y H Q => ∃ p xs i v, x = .ref p ∧ y = .int i ∧ SqT K H p xs ∧ atI xs i = some v ∧ Q v H
def rIxS : R2 := fun x y H Q => ∃ z i c, x = .str z ∧ y = .int i ∧ z.length ≤ sizeLine ∧ atI z.cps.toList i = some c ∧ Q (.str ⟨#[c]⟩) H
theorem ix_list : IxR X (rIxL X.K) := by
 intro value slice pins s σ H x y v u Q I rx ry h hs
 obtain ⟨p, xs, i, z, rfl, rfl, hq, he, q⟩ := h
 cases rx
 obtain ⟨t, rfl⟩ := ry
 obtain ⟨its, r, pl, hz⟩ := I.list hq
 obtain ⟨j, h1, h2, h3, h4, h5⟩ := atI_get he
 obtain ⟨w, ew, rw'⟩ := r.get h2
 have hl := r.length
 have hn := line63
 have fin : EP X _ σ Q w s := ⟨z, H, I, rw', q⟩
 by_cases h0 : 0 ≤ i
 · have hj : i.toNat = j := by
    rw [seqIndex_of h0 h5] at h1
    simp_all
   exact item_listR pl.isList h0 (by omega) (by rw [hj]; simpa using ew) fin hs
 · have hj : (i + its.toArray.size).toNat = j := by
    rw [seqIndex_neg (by omega) h4] at h1
    simp_all
   exact subscriptTail_builtinR pl.isList.typeIs slot_list_getitem.lookup
    (wpAny_getItem_list_neg pl.isList (by omega) (by grind) (by omega) (by rw [hj]; simpa using ew) ⟨rfl, fin⟩) hs
theorem ix_tup : IxR X (rIxT X.K) := by
 intro value slice pins s σ H x y v u Q I rx ry h hs
 obtain ⟨p, xs, i, z, rfl, rfl, hq, he, q⟩ := h
 cases rx
 obtain ⟨t, rfl⟩ := ry
 obtain ⟨its, r, pl, hz⟩ := I.tuple hq
 obtain ⟨j, h1, h2, h3, h4, h5⟩ := atI_get he
 obtain ⟨w, ew, rw'⟩ := r.get h2
 have hl := r.length
 have hn := line63
 have fin : EP X _ σ Q w s := ⟨z, H, I, rw', q⟩
 exact subscriptTail_builtinR pl.typeIs slot_tuple_getitem.lookup
  (getItem_tuple (j := j) pl (by omega) (by omega) (by grind) (by simpa using ew) ⟨rfl, fin⟩) hs
theorem ix_str : IxR X rIxS := by
 intro value slice pins s σ H x y v u Q I rx ry h hs
 obtain ⟨z, i, c, rfl, rfl, hz, he, q⟩ := h
 obtain ⟨t, rfl⟩ := rx
 obtain ⟨t', rfl⟩ := ry
 obtain ⟨j, h1, h2, h3, h4, h5⟩ := atI_get he
 have hl : z.cps.toList.length = z.length := rfl
 rw [hl] at h1 h4 h5
 have hn := line63
 exact tail_any (typeIs_str s z t) slot_str_getitem.lookup (getItem_str (by
  have e1 : decide (i < -2 ^ 63) = false := decide_eq_false (by omega)
  have e2 : decide (i ≥ 2 ^ 63) = false := decide_eq_false (by omega)
  rw [e1, e2, Bool.or_false]) (by rw [h1]; simpa using h2) ⟨.str _, H, I.tok _, ⟨_, rfl⟩, q⟩) hs
def rIx (K : PySem.W.Frag) : R2 := fun x y H Q => rIxL K x y H Q ∨ rIxT K x y H Q ∨ rIxS x y H Q
theorem ix_seq : IxR X (rIx X.K) := ix_list.or (ix_tup.or ix_str)
theorem mapSeq_set (its : List _) (n j : Nat) (u : Value) : Obj.mapSeq (·.setIfInBounds j u) { cls := .type "list", data := .seq its.toArray n } = { cls := .type "list", data := .seq (its.set j u).toArray n } := by
 simp [Obj.mapSeq]
theorem Inv.lst {σ : St} {H} {s} {p} {xs} (I : Inv X pins σ H s) (h : H p = some (.lst xs)) :
 ∃ (its : List _) (n : Nat), Vals xs its ∧ s.heap.get? p = some { cls := .type "list", data := .seq its.toArray n } ∧ xs.length ≤ sizeLine := by
 obtain ⟨z, its, n, r, e⟩ := I.hok p _ h
 exact ⟨its, n, r, e, z⟩
theorem Inv.lstUpd {σ : St} {H} {s} {p} {xs ys} {its its' : List _} {n n'} {f} (I : Inv X pins σ H s) (h : H p = some (.lst xs))
 (ho : s.heap.get? p = some { cls := .type "list", data := .seq its.toArray n }) (hf : f { cls := .type "list", data := .seq its.toArray n } = { cls := .type "list", data := .seq its'.toArray n' }) (r : Vals ys its') (hz : ys.length ≤ sizeLine) (t : Nat) :
 Inv X pins σ (upd H p (.lst ys)) { s with heap := s.heap.update p f, toks := t } := by
 have e : (s.heap.update p f).get? p = some { cls := .type "list", data := .seq its'.toArray n' } := by
  rw [Heap.get?_update_self f ho (by rw [hf] <;> rfl), hf]
 refine I.write (by rw [h]; trivial) (.inl rfl) (fun b u hb q => (Heap.get?_update_other _ _ (Ne.symm hb)).trans q) ⟨_, e⟩ ?_
 exact ⟨hz, _, n', r, e⟩
def rSetL : V → V → V → Hp → (Hp → Prop) → Prop := fun o i v H Q => ∃ p xs k j, o = .ref p ∧ i = .int k ∧ H p = some (.lst xs) ∧ ixN xs.length k = some j ∧ Q (upd H p (.lst (xs.set j v)))
theorem set_list : PSet X rSetL := by
 intro pins s σ H o i v ov iv u Q I ro ri rv h
 obtain ⟨p, xs, k, j, rfl, rfl, hp, hj, q⟩ := h
 cases ro
 obtain ⟨t, rfl⟩ := ri
 obtain ⟨its, n, r, ho, hz⟩ := I.lst hp
 obtain ⟨h1, h2, h3, h4⟩ := ixN_seq hj
 have hl := r.length
 have hn := line63
 have I' : Inv X _ σ _ { s with heap := s.heap.update p _ } :=
  I.lstUpd hp ho (mapSeq_set _ n j u) (r.set rv j) (by simp_all) _
 by_cases h0 : 0 ≤ k
 · have hk : k.toNat = j := by
    rw [seqIndex_of h0 h4] at h1
    simp_all
   exact PySem.W.ki_setAt ho h0 (by omega) (by simp_all) (by rw [hk]; exact ⟨_, I', q⟩)
 · have hk : (k + its.toArray.size).toNat = j := by
    rw [seqIndex_neg (by omega) h3] at h1
    simp_all
   exact PySem.W.ki_setBack ho (by omega) (by simp_all) (by omega) (by rw [hk]; exact ⟨_, I', q⟩)
theorem slice_bounds (lo hi : Option _) (n : Nat) : (sliceBounds lo hi none n).1 = HT.sIx n 0 lo ∧ (sliceBounds lo hi none n).2.1 = HT.sIx n n hi ∧ (sliceBounds lo hi none n).2.2 = 1 := by
 refine ⟨?_, ?_, rfl⟩
 · cases lo with
   | none => rfl
   | some i =>
    simp only [sliceBounds, HT.sIx, Option.getD_none, show (1 : Int) > 0 by decide, if_true]
    by_cases h : i < 0
    · simp only [h, if_true] <;> omega
    · simp only [h, if_false] <;> omega
 · cases hi with
   | none => rfl
   | some i =>
    simp only [sliceBounds, HT.sIx, Option.getD_none, show (1 : Int) > 0 by decide, if_true]
    by_cases h : i < 0
    · simp only [h, if_true] <;> omega
    · simp only [h, if_false] <;> omega
theorem slicePick_cut (its : List _) (lo hi : Option _) : slicePick its.toArray lo hi none = ((its.drop (HT.sIx its.length 0 lo)).take (HT.sIx its.length its.length hi - HT.sIx its.length 0 lo)).toArray := by
 obtain ⟨h1, h2, h3⟩ := slice_bounds lo hi _
 unfold slicePick
 rw [h1, h2, h3]
 simp only [sliceRange_one, pick_run, List.size_toArray]
def rSlL (K : PySem.W.Frag) : V → Option Int → Option Int → Hp → VK → Prop := fun x lo hi H Q => ∃ a xs, x = .ref a ∧ SqL K H a xs ∧ ∀ p, H p = none → Q (.ref p) (upd H p (.lst (cutV xs lo hi)))
theorem sl_list : SlR X (rSlL X.K) := by
 intro pins s σ H x v vl vu lo hi sl Q I rx hs pl pu h
 obtain ⟨a, xs, rfl, hx, q⟩ := h
 cases rx
 obtain ⟨its, r, ht, hz⟩ := I.list hx
 have hlen := r.length
 refine ⟨_, _, slot_list_getitem.lookup, ht.isList.typeIs, ?_⟩
 refine wpAny_getItem_list_slice ht.isList hs pl pu .none (by simp) ?_ (by grind)
 rw [slicePick_cut, ← hlen]
 refine ⟨.ref _, _, I.laid (fun b ob q => Heap.get?_push_of_some _ q) (Nat.le_refl _) ?_, rfl, q _ (I.hok.fresh (Nat.le_refl _))⟩
 exact ⟨Nat.le_trans (cutV_length xs lo hi) hz, _, 0, (r.drop _).take _, Heap.get?_push_size _ rfl⟩
def flatV : V → Bool
 | .non => true
 | .bl _ => true
 | .int _ => true
 | .str _ => true
 | _ => false
def eqV : V → V → Bool
 | .non, .non => true
 | .bl a, .bl b => a == b
 | .bl a, .int b => (if a then 1 else 0) == b
 | .int a, .bl b => a == (if b then 1 else 0)
 | .int a, .int b => a == b
 | .str a, .str b => a == b
 | _, _ => false
theorem eqAt_V {A : Around} {s : Shared} {y x : V} {u v} (ry : RelV y u) (rx : RelV x v) (fy : flatV y = true) (fx : flatV x = true) : SeqAt.EqAt A s u v (eqV y x) := by
 cases y with
 | non =>
  cases ry
  cases x with
  | non => cases rx; exact SeqAt.EqAt.same _
  | bl b => cases rx; exact SeqAt.EqAt.none_bool b
  | int b => obtain ⟨t, rfl⟩ := rx; exact SeqAt.EqAt.none_int b t
  | str b => obtain ⟨t, rfl⟩ := rx; exact SeqAt.EqAt.none_str b t
  | _ => exact absurd (fx) Bool.false_ne_true
 | bl a =>
  cases ry
  cases x with
  | non => cases rx; exact SeqAt.EqAt.bool_none a
  | bl b => cases rx; exact SeqAt.EqAt.bool_bool a b
  | int b => obtain ⟨t, rfl⟩ := rx; exact SeqAt.EqAt.bool_int a b t
  | str b => obtain ⟨t, rfl⟩ := rx; exact SeqAt.EqAt.bool_str a b t
  | _ => exact absurd (fx) Bool.false_ne_true
 | int a =>
  obtain ⟨t', rfl⟩ := ry
  cases x with
  | non => cases rx; exact SeqAt.EqAt.int_none a t'
  | bl b => cases rx; exact SeqAt.EqAt.int_bool a t' b
  | int b => obtain ⟨t, rfl⟩ := rx; exact SeqAt.EqAt.int_int a t' b t
  | str b => obtain ⟨t, rfl⟩ := rx; exact SeqAt.EqAt.int_str a t' b t
  | _ => exact absurd (fx) Bool.false_ne_true
 | str a =>
  obtain ⟨t', rfl⟩ := ry
  cases x with
  | non => cases rx; exact SeqAt.EqAt.str_none a t'
  | bl b => cases rx; exact SeqAt.EqAt.str_bool a t' b
  | int b => obtain ⟨t, rfl⟩ := rx; exact SeqAt.EqAt.str_int a t' b t
  | str b => obtain ⟨t, rfl⟩ := rx; exact SeqAt.EqAt.str_str a t' b t
  | _ => exact absurd (fx) Bool.false_ne_true
 | _ => exact absurd (fy) Bool.false_ne_true
def eqU (x : V) (u : Value) : Bool := match u with
 | .none => eqV .non x
 | .bool b => eqV (.bl b) x
 | .int i _ => eqV (.int i) x
 | .str z _ => eqV (.str z) x
 | _ => false
theorem eqU_of {x y} {u} (r : RelV y u) (f : flatV y = true) : eqU x u = eqV y x := by
 cases y with
 | non => cases r; rfl
 | bl b => cases r; rfl
 | int i => obtain ⟨t, rfl⟩ := r; rfl
 | str z => obtain ⟨t, rfl⟩ := r; rfl
 | _ => exact absurd f Bool.false_ne_true
theorem any_eqU : ∀ {xs} {us}, Vals xs us → xs.all flatV = true → us.any (eqU x) = xs.any fun y => eqV y x
 | _, _, .nil, _ => rfl
 | y :: xs, u :: us, .cons r t, f => by
  rw [List.all_cons, Bool.and_eq_true] at f
  rw [List.any_cons, List.any_cons, eqU_of r f.1, any_eqU t f.2]
theorem mem_eqAt {x} {v} (rx : RelV x v) (fx : flatV x = true) : ∀ {xs} {us}, Vals xs us → xs.all flatV = true → ∀ u ∈ us, SeqAt.EqAt A s u v (eqU x u)
 | _, _, .nil, _ => fun u hu => by cases hu
 | y :: xs, u :: us, .cons r t, f => fun u' hu => by
  rw [List.all_cons, Bool.and_eq_true] at f
  rcases List.mem_cons.mp hu with rfl | hu
  · rw [eqU_of r f.1]; exact eqAt_V r rx f.1 fx
  · exact mem_eqAt rx fx t f.2 u' hu
def inV (x : V) (xs : List V) : Bool := xs.any fun y => eqV y x
def rIn (K : PySem.W.Frag) (neg : Bool) : R2 := fun x y H Q => ∃ p xs, y = .ref p ∧ (SqL K H p xs ∨ SqT K H p xs) ∧ flatV x = true ∧ xs.all flatV = true ∧ Q (.bl (if neg then !inV x xs else inV x xs)) H
theorem op_in_seq : OpR X (compareOp .In) (rIn X.K false) := by
 intro pins s σ H x y v u Q I rx ry h
 obtain ⟨p, xs, rfl, hq, fx, fs, q⟩ := h
 cases ry
 rcases hq with hq | hq
 · obtain ⟨its, r, pl, hz⟩ := I.list hq
   refine SeqAt.in_listAt _ pl.isList (fun w hw => mem_eqAt rx fx r fs w (by simpa using hw)) ⟨.bl _, H, I, rfl, ?_⟩
   rw [show its.toArray.any _ = its.any (eqU x) by simp, any_eqU r fs]
   exact q
 · obtain ⟨its, r, pl, hz⟩ := I.tuple hq
   refine SeqAt.in_tupleAt _ pl (fun w hw => mem_eqAt rx fx r fs w (by simpa using hw)) ⟨.bl _, H, I, rfl, ?_⟩
   rw [show its.toArray.any _ = its.any (eqU x) by simp, any_eqU r fs]
   exact q
theorem op_notIn_seq : OpR X (compareOp .NotIn) (rIn X.K true) := by
 intro pins s σ H x y v u Q I rx ry h
 obtain ⟨p, xs, rfl, hq, fx, fs, q⟩ := h
 cases ry
 rcases hq with hq | hq
 · obtain ⟨its, r, pl, hz⟩ := I.list hq
   refine SeqAt.notIn_listAt _ pl.isList (fun w hw => mem_eqAt rx fx r fs w (by simpa using hw)) ⟨.bl _, H, I, rfl, ?_⟩
   rw [show its.toArray.any _ = its.any (eqU x) by simp, any_eqU r fs]
   exact q
 · obtain ⟨its, r, pl, hz⟩ := I.tuple hq
   refine SeqAt.notIn_tupleAt _ pl (fun w hw => mem_eqAt rx fx r fs w (by simpa using hw)) ⟨.bl _, H, I, rfl, ?_⟩
   rw [show its.toArray.any _ = its.any (eqU x) by simp, any_eqU r fs]
   exact q
theorem call_len_seq : CallR X (.builtin "len") fun xs H Q => ∃ p ys, xs = [.ref p] ∧ (SqL X.K H p ys ∨ SqT X.K H p ys) ∧ Q (.int ys.length) H := by
 intro pins s σ H xs us Q I r h
 obtain ⟨p, ys, rfl, hq, q⟩ := h
 obtain ⟨u, rfl, rx⟩ := vals1 r
 cases rx
 have hn := line63
 rcases hq with hq | hq
 · obtain ⟨its, r', pl, hz⟩ := I.list hq
   have hlen := r'.length
   exact Calls.call_len_list pl.isList (by simp only [List.size_toArray] <;> omega) ⟨.int _, H, I.tok _, ⟨s.toks + 1, by simp_all⟩, q⟩
 · obtain ⟨its, r', pl, hz⟩ := I.tuple hq
   have hlen := r'.length
   exact len_tuple pl (by simp only [List.size_toArray] <;> omega) ⟨.int _, H, I.tok _, ⟨s.toks + 1, by simp_all⟩, q⟩
theorem call_len_str : CallR X (.builtin "len") fun xs H Q => ∃ z, xs = [.str z] ∧ z.length ≤ sizeLine ∧ Q (.int z.length) H := by
 intro pins s σ H xs us Q I r h
 obtain ⟨z, rfl, hz, q⟩ := h
 obtain ⟨u, rfl, t, rfl⟩ := vals1 r
 have hn := line63
 exact len_str (by omega) ⟨.int _, H, I.tok _, ⟨_, rfl⟩, q⟩
theorem CallR.or (h : CallR X f r) (h' : CallR X f r') : CallR X f fun xs H Q => r xs H Q ∨ r' xs H Q := by
 intro pins s σ H xs us Q I rs q
 rcases q with q | q
 · exact h _ s σ H xs us Q I rs q
 · exact h' _ s σ H xs us Q I rs q
theorem call_list_of : CallR X (.type "list") fun xs H Q => ∃ p ys, xs = [.ref p] ∧ (SqL X.K H p ys ∨ SqT X.K H p ys) ∧ ∀ l, H l = none → Q (.ref l) (upd H l (.lst ys)) := by
 intro pins s σ H xs us Q I r h
 obtain ⟨p, ys, rfl, hq, q⟩ := h
 obtain ⟨u, rfl, rx⟩ := vals1 r
 cases rx
 have fin : ∀ (its : List _), Vals ys _ → ys.length ≤ sizeLine → ∀ (h' : Heap) (c' : Nat), (∀ b o', s.heap.get? b = some o' → h'.get? b = some o') →
  h'.get? _ = some _ → EP X _ σ Q _ { s with heap := h' } := fun its r' hz h' c' kp e =>
  ⟨.ref _, _, I.laid kp (Nat.le_refl _) (show ObjOk _ _ _ h' _ (.lst ys) from ⟨hz, its, c', r', e⟩), rfl, q _ (I.hok.fresh (Nat.le_refl _))⟩
 rcases hq with hq | hq
 · obtain ⟨its, r', pl, hz⟩ := I.list hq
   have hlen := r'.length
   obtain ⟨o, ho, hc, n, hd⟩ := pl.isList
   exact call_list_seq p (.inl rfl) ho hc hd (fun h' c' kp e => fin _ r' hz h' c' kp e) (by simp_all)
 · obtain ⟨its, r', pl, hz⟩ := I.tuple hq
   have hlen := r'.length
   obtain ⟨o, ho, hc, n, hd⟩ := pl
   exact call_list_seq p (.inr rfl) ho hc hd (fun h' c' kp e => fin _ r' hz h' c' kp e) (by simp_all)
theorem call_tuple_of : CallR X (.type "tuple") fun xs H Q => ∃ p ys, xs = [.ref p] ∧ ((SqL X.K H p ys ∧ ∀ l, H l = none → Q (.ref l) (upd H l (.tup ys))) ∨ SqT X.K H p ys ∧ Q (.ref p) H) := by
 intro pins s σ H xs us Q I r h
 obtain ⟨p, ys, rfl, h⟩ := h
 obtain ⟨u, rfl, rx⟩ := vals1 r
 cases rx
 rcases h with ⟨hq, q⟩ | ⟨hq, q⟩
 · obtain ⟨its, r', pl, hz⟩ := I.list hq
   have hlen := r'.length
   refine call_tuple_list pl.isList (fun h' kp => ?_) (by simp_all)
   have I1 : Inv X _ σ H { s with heap := h' } := I.kept kp
   have I2 : Inv X _ σ (upd H _ (.tup ys)) { s with heap := h'.push _ } :=
    I1.laid (fun b o e => Heap.get?_push_of_some _ e) (Nat.le_refl _) ⟨hz, its, r', IsTup.new _ _⟩
   exact ⟨.ref _, _, I2, rfl, q _ (I1.hok.fresh (Nat.le_refl _))⟩
 · obtain ⟨its, r', pl, hz⟩ := I.tuple hq
   exact call_tuple_same pl ⟨.ref p, H, I, rfl, q⟩
def tyV (K : PySem.W.Frag) (T : String) (x : V) (H : Hp) : Prop := match x with
 | .str _ => T = "str"
 | .int _ => T = "int"
 | .ref p => (T = "list" ∧ ∃ xs, SqL K H p xs) ∨ (T = "tuple" ∧ ∃ o, K.lookup p = some o ∧ o.cls = .type "tuple" ∧ o.dict = none) ∨
  (T = "set" ∧ ∃ S n, H p = some (.set S n))
 | _ => False
theorem tyV_is {pins : List (Addr × Obj)} {σ : St} {H : Hp} {s : Shared} {T : String} {x : V} {v : Value} (I : Inv X pins σ H s) (r : RelV x v) (ty : tyV X.K T x H) :
 s.TypeIs v T ∧ ∀ a, v = .ref a → ∃ ob, s.heap.get? a = some ob ∧ ob.dict = none := by
 cases x with
 | str z =>
  obtain ⟨t, rfl⟩ := r
  cases (show T = "str" from ty)
  exact ⟨typeIs_str s z t, fun _ e => nomatch e⟩
 | int i =>
  obtain ⟨t, rfl⟩ := r
  cases (show T = "int" from ty)
  exact ⟨typeIs_int s i t, fun _ e => nomatch e⟩
 | ref p =>
  cases r
  rcases ty with ⟨rfl, xs, hq⟩ | ⟨rfl, o, hk, hc, hd⟩ | ⟨rfl, S, n, hk⟩
  · obtain ⟨its, _, pl, _⟩ := I.list hq
    refine ⟨pl.isList.typeIs, fun a e => ?_⟩
    cases e
    obtain ⟨o, n, e, c, hd, _⟩ := pl
    exact ⟨o, e, hd⟩
  · refine ⟨⟨o, I.kIn p o hk, hc⟩, fun a e => ?_⟩
    cases e
    exact ⟨o, I.kIn _ o hk, hd⟩
  · obtain ⟨o, _, _, _, e, ex, _⟩ := I.hok p _ hk
    refine ⟨⟨o, e, ex.1⟩, fun a e2 => ?_⟩
    cases e2
    exact ⟨o, e, ex.2.1⟩
 | _ => exact False.elim ty
def tBM0 (K : PySem.W.Frag) (T : String) (r : V → List V → Hp → VK → Prop) (to : TE) : TE := fun σ H Q => to σ H fun x H1 => tyV K T x H1 ∧ r x [] H1 Q
def tBM (K : PySem.W.Frag) (T : String) (r : V → List V → Hp → VK → Prop) (to : TE) (t : TA) : TE := fun σ H Q => to σ H fun x H1 => tyV K T x H1 ∧ t σ H1 fun xs H2 => r x xs H2 Q
variable {o e : Expr} {es : List Expr} {to : TE} {t : TA} {name : Str} {apos cpos : Pos} {T id : String} {r : V → List V → Hp → VK → Prop}
theorem pe_bm0 (pa : PlainAttrs T) (slot : Slot T name id) (hty : typeOf (.builtin id) = pure (.type "method_descriptor")) (hm : MtR X id r) (ho : PE X o to)
 (hbase : attributeBase o name X.env (eval o X.env) = eval o X.env := by rfl) (hline : (apos.endLine == cpos.line) = true := by rfl) : PE X (.Call (.Attribute o name apos) [] [] cpos) (tBM0 X.K T r to) := by
 intro pins s σ H Q I h
 refine wpAny_Call_method0_late hbase hline (thn (ho _ s σ H _ I h) fun v s1 ⟨x, H1, I1, r1, ty, q1⟩ => ?_)
 obtain ⟨h1, h2⟩ := tyV_is I1 r1 ty
 exact ⟨T, id, pa, slot, hty, h1, h2, Calls.callWith_builtin rfl (PySem.evalArgs_none (hm _ s1 σ H1 x [] v [] Q I1 r1 .nil q1))⟩
theorem pe_bm (pa : PlainAttrs T) (slot : Slot T name id) (hty : typeOf (.builtin id) = pure (.type "method_descriptor")) (hm : MtR X id r) (ho : PE X o to) (ha : PA X (e :: es) t)
 (hbase : attributeBase o name X.env (eval o X.env) = eval o X.env := by rfl)
 (hfew : ((backTo cpos (starEach (e :: es) X.env)).all (fun x => !x.1) && (backToKw cpos (keywordEach [] X.env)).all (fun x => x.1.isSome)
  && decide ((e :: es).length + ([] : List Keyword).length + (if ([] : List Keyword).isEmpty then 0 else 1) < 30)) = true := by rfl)
 (hline : (apos.endLine == cpos.line) = true := by rfl) (hs : starEach (e :: es) X.env = (false, eval e X.env) :: starEach es X.env := by rfl) (hplain : (backTo cpos (starEach es X.env)).any (·.1) = false := by rfl) :
 PE X (.Call (.Attribute o name apos) (e :: es) [] cpos) (tBM X.K T r to t) := by
 intro pins s σ H Q I h
 refine wpAny_Call_method_late hbase hfew hline rfl (thn (ho _ s σ H _ I h) fun v s1 ⟨x, H1, I1, r1, ty, q1⟩ => ?_)
 obtain ⟨h1, h2⟩ := tyV_is I1 r1 ty
 refine ⟨T, id, pa, slot, hty, h1, h2, ?_⟩
 have hA := ha cpos _ s1 σ H1 _ I1 q1
 rw [hs] at hA ⊢
 refine Calls.callWith_builtin (by show (false || (backTo _ _).any _) = false; rw [hplain] <;> rfl) (Calls.evalArgs_plain ?_)
 exact thn hA fun us s2 ⟨vs, H2, I2, r2, q2⟩ => hm _ s2 σ H2 x vs v us Q I2 r1 r2 q2
end
def MtM (X : Cx) (id : String) (r : V → List V → Hp → VK → Prop) : Prop :=
 ∀ (pins : List (Addr × Obj)) (s : Shared) (σ : St) (H : Hp) (x : V) (xs : List V) (v : Value) (us : List Value) (Q : VK), Inv X pins σ H s → RelV x v → Vals xs us → r x xs H Q →
  wpAny (model X.prog X.w) X.A (call (.builtin id) (v :: us)) (EP X pins σ Q) X.xe s
theorem Vals.one : ∀ {x} {us}, Vals [x] us → ∃ u, us = [u] ∧ RelV x u
 | _, _, .cons r .nil => ⟨_, rfl, r⟩
theorem Vals.two : ∀ {x y} {us}, Vals [x, y] us → ∃ u v, us = [u, v] ∧ RelV x u ∧ RelV y v
 | _, _, _, .cons r (.cons q .nil) => ⟨_, _, rfl, r, q⟩
theorem Vals.zero : ∀ {us}, Vals [] us → us = []
 | _, .nil => rfl
theorem Vals.reverse (h : Vals xs us) : Vals xs.reverse us.reverse := by
 induction h with
 | nil => exact .nil
 | cons r t ih => rw [List.reverse_cons, List.reverse_cons]; exact Vals.append ih (.cons r .nil)
theorem foldl_rep (its : List Value) : ∀ (k : Nat) (acc : List _),
 List.foldl (fun x1 x2 => x1 ++ x2) acc.toArray (List.replicate k its.toArray) = (acc ++ (List.replicate k its).flatten).toArray
 | 0, acc => by simp
 | k + 1, acc => by
  have e : acc.toArray ++ its.toArray = (acc ++ its).toArray := by simp
  have e2 : acc ++ its ++ (List.replicate k its).flatten = acc ++ (List.replicate (k + 1) its).flatten := by
   rw [List.replicate_succ, List.flatten_cons, List.append_assoc]
  rw [← e2, ← foldl_rep _ k, ← e, List.replicate_succ, List.foldl_cons]
section
variable {X : Cx} {pins : List (Addr × Obj)} {σ : St} {H : Hp} {s : Shared} {l b : Addr} {xs ys zs : List V}
theorem Inv.lset {its its' : List _} {n} {f} {t'} (I : Inv X pins σ H s) (hH : H l = some (.lst xs))
 (e : s.heap.get? l = some { cls := .type "list", data := .seq its.toArray n }) (hf : f its.toArray = its'.toArray) (hv : Vals ys its') (hz : ys.length ≤ sizeLine) :
 Inv X pins σ (upd H l (.lst ys)) { s with heap := s.heap.update l (Obj.mapSeq f), toks := t' } := by
 have q := PySem.IsL.update e f
 rw [hf] at q
 refine I.write (by rw [hH]; exact trivial) (.inl rfl) (fun b' u hb hu => (Heap.get?_update_other _ _ (Ne.symm hb)).trans hu) ⟨_, q⟩ ?_
 exact ⟨hz, _, _, hv, q⟩
theorem Inv.lnew (I : Inv X pins σ H s) (hv : Vals ys its) (hz : ys.length ≤ sizeLine) :
 Inv X pins σ (upd H s.heap.objs.size (.lst ys)) { s with heap := s.heap.push { cls := .type "list", data := .seq its.toArray }, toks := t' } :=
 I.laid (fun _ _ q => Heap.get?_push_of_some _ q) (Nat.le_refl _) ⟨hz, its, 0, hv, Heap.get?_push_size _ rfl⟩
theorem Inv.fresh (I : Inv X pins σ H s) : H s.heap.objs.size = none := I.hok.fresh (Nat.le_refl _)
theorem Inv.lstM (I : Inv X pins σ H s) (hH : H l = some (.lst xs)) : xs.length ≤ sizeLine ∧ ∃ (its : List _) (n : Nat), Vals xs its ∧ xs.length = its.length ∧ s.heap.get? l = some { cls := .type "list", data := .seq its.toArray n } := by
 obtain ⟨z, its, n, r, e⟩ := I.hok l _ hH
 exact ⟨z, its, n, r, r.length, e⟩
end
section
variable {X : Cx}
def rAppend : V → List V → Hp → VK → Prop := fun x vs H Q => ∃ l xs y, x = .ref l ∧ vs = [y] ∧ H l = some (.lst xs) ∧ xs.length < sizeLine ∧ Q .non (upd H l (.lst (xs ++ [y])))
theorem mt_append : MtM X "list.append" rAppend := by
 intro pins s σ H x vs v us Q I rx rv h
 obtain ⟨l, xs, y, rfl, rfl, hH, hz, q⟩ := h
 cases rx
 obtain ⟨u, rfl, ru⟩ := rv.one
 obtain ⟨z, its, n, r, hl, e⟩ := I.lstM hH
 refine call_meets F.slot_list_append ⟨_, e, rfl⟩ F.entry_list_append (F.args_list_append_2 _ _) (PySem.list_append l _ n u (by grind)) ⟨e, ?_⟩
 refine ⟨.non, _, I.lset hH e (by simp) (r.append (.cons ru .nil)) ?_, rfl, q⟩
 rw [List.length_append, List.length_singleton]
 omega
def rReverse : V → List V → Hp → VK → Prop := fun x vs H Q => ∃ l xs, x = .ref l ∧ vs = [] ∧ H l = some (.lst xs) ∧ Q .non (upd H l (.lst xs.reverse))
theorem mt_reverse : MtM X "list.reverse" rReverse := by
 intro pins s σ H x vs v us Q I rx rv h
 obtain ⟨l, xs, rfl, rfl, hH, q⟩ := h
 cases rx
 have hus := rv.zero
 subst hus
 obtain ⟨z, its, n, r, hl, e⟩ := I.lstM hH
 refine call_meets F.slot_list_reverse ⟨_, e, rfl⟩ F.entry_list_reverse (F.args_list_reverse_1 _) (AutoSeq1.list_reverse_list_0 l _ n (by simp_all)) ⟨e, ?_⟩
 refine ⟨.non, _, I.lset hH e (by simp) r.reverse ?_, rfl, q⟩
 simp_all
end
end L2
namespace Att
open PySem PySem.W PySem.Calls PyProof.Rows
theorem ints_of_wellAll : ∀ (ns : List _) (vs : List _), WellAll P h vs (ns.map WData.int) → IntsAre vs ns := by
 intro ns
 induction ns with
 | nil =>
  intro vs w
  cases w
  exact .nil
 | cons n ns ih =>
  intro vs w
  cases w with
  | cons a b =>
   cases a
   exact .cons _ _ (ih _ b)
theorem script_of {l : OpenLaw} {n} (hn : l.most = some n) {P} {h} {args} {vals}
 (hpre : l.row.toRowW.claim.pre args = true) (hwl : WellAll P h vals args) :
 ∃ a vs ns, vals = [Value.ref a] ∧ args = [WData.list (ns.map WData.int)] ∧ h.get? a = some { cls := .type "list", data := .seq vs.toArray } ∧ IntsAre vs ns ∧ ns.length ≤ n := by
 have hsh := (pre_splitW hpre).1
 have hc : l.pre.holds [] _ = true := (pre_splitW hpre).2
 obtain ⟨d, r, rfl, h1, h2⟩ := hasAllW_cons hsh
 obtain rfl := hasAllW_nil h2
 obtain ⟨xs, rfl, h3⟩ := hasW_list h1
 obtain ⟨ns, rfl⟩ := items_int h3
 have hlen : ns.length ≤ n := by
  have h4 : (WTm.not (.lt (.lit (.int n)) (.len (.arg 0)))).holds [] { args := [.list (ns.map .int)] } = true := by
   have h4 := (holds_andW hc).1
   simp_all
  have h5 := condW_of h4 (w_not (w_lt w_lit (w_len_list (w_arg rfl))))
  grind
 cases hwl with
 | cons w1 w2 =>
  cases w2
  cases w1 with
  | list ho hall => exact ⟨_, _, ns, rfl, rfl, ho, ints_of_wellAll ns _ hall, hlen⟩
theorem post_true (l : OpenLaw) (args : List _) : l.row.toRowW.claim.post args (.bool true) args = true :=
 postW_of
  rfl
  (w_eq_bool (w_res rfl) w_lit) rfl
theorem attach_call {l : OpenLaw} {n} {q} {loose} {XP} {YP} {d}
 (hn : l.most = some n) (hdf : d.params.defaults = [])
 (call : ∀ (w : World) (s₀ s₁ : Shared) (mg mb : Str → Option _) (fa : Addr) (o : Obj) (pm cd doc : Value) (a : Addr) (vs : List _) (ns : List _),
  Ground q loose [] XP w s₀ mg mb s₁.heap → YP w s₁.heap →
  s₁.heap.get? fa = some o → o.data = .func (docDef d.name d.params d.body d.scope pm cd doc) → s₁.heap.CodeRec cd d.name → mg d.name = some (.ref fa) →
  s₁.heap.get? a = some { cls := .type "list", data := .seq vs.toArray } → IntsAre vs ns → ns.length ≤ n → s₁.gens = #[] →
  codeAny (model l.prog w) callerA (.call (.ref fa) ⟨[.ref a], []⟩) (fun r s' => r = .ok (.ret (.bool true)) ∧ OldK s₁.heap s'.heap ∧ s'.os = s₁.os ∧ AllBare s'.gens) s₁) :
 WalkO q loose XP YP l.row.toRowW d [] fun f vs => PySem.call f vs := by
 intro w s₀ s₁ mg mb G Y fa o pm cd doc dV kV ho hd hcd hD hmg hg args vals as hpre hlay hrd hwl hlo
 obtain rfl : dV = .none := Dflts.none hD hdf
 obtain rfl : kV = .none := Dflts.noKw hD
 obtain ⟨a, vs, ns, rfl, rfl, hobj, hints, hlen⟩ := script_of hn hpre hwl
 refine enter_call (codeAny_mono (call w _ _ mg mb fa o pm cd _ a vs ns G Y ho (fd_plain hd) hcd hmg hobj hints hlen hg) fun r s' hq => ?_)
 obtain ⟨rfl, h2, h3, h4⟩ := hq
 exact ⟨.inl ⟨_, _, [], rfl, fun _ => rfl, .bool _, post_true l _, fun _ => ⟨List.Pairwise.nil, fun _ hm => nomatch hm⟩⟩, h2, h3, h4⟩
end Att
namespace L2
theorem vals_ints : ∀ {vs} {ns}, IntsAre vs ns → Vals (ns.map V.int) vs
 | _, _, .nil => .nil
 | _, _, .cons n t h => .cons ⟨t, rfl⟩ (vals_ints h)
abbrev KOf {K : PySem.W.Frag} {h : Heap} (_ : K.In h) : PySem.W.Frag := K
abbrev CX0 : CXT := fun _ _ _ _ _ _ => False
abbrev E0 : XK := fun _ _ _ => False
theorem pass0 : Passes CX0 X E0 := fun _ _ _ _ _ _ _ h => h.elim
structure Fun (K : PySem.W.Frag) (x qual : Str) (st : Stmt) (f : Addr) (fd : FuncData) : Prop where
 ex : ∃ (oc : Value) (od : Option Addr) (kV doc pm : Value) (an : Option Addr) (cdv ct : Value) (osl : Array (Option Value)),
  fd = PySem.W.fnOf x qual (defArgs st) (defBody st) (defScope st) .none kV doc pm an cdv ct ∧ K.lookup f = some ⟨oc, od, .func fd, osl⟩ ∧ PySem.W.codeIn K cdv qual = true
 kp : PySem.W.keepIn K (.ref f) = true
section
variable {P : Program} {w : World} {K : PySem.W.Frag} {mg : Str → Option Value} {base : Heap}
theorem Fun.ok {st} {f} {fd} {N ps} {k} {sp} (F : Fun K x qual st f fd) (S : FnScope N ps (defScope st)) (len : ∀ vs H Q E, sp vs H Q E → vs.length = ps.length)
 (hbody : ∀ (cdv : Value) (A : Around) (outer : List _) (s : Shared) (H : Hp) (vs : List V) (Q : VK) (E : XK), Room k (A.deeper (envOfC qual (defScope st) s.heap.objs.size f cdv)) → sp vs H Q E →
  ∃ t, PSs (cxOf CX0 P w K mg base N qual (defScope st) f cdv A outer s H E).nox (defBody st) t ∧ t { nx := fun _ H' => Q .non H', rt := Q } (start N vs) H) : FnOk P w K mg base CX0 (k + 1) f fd ps sp := by
 obtain ⟨oc, od, kV, doc, pm, an, cdv, ct, osl, rfl, lk, hcd⟩ := F.ex
 refine fn_of lk hcd S len fun A outer s H vs Q E hr hsp => ?_
 obtain ⟨t, h, q⟩ := hbody _ A _ s H vs Q E hr hsp
 exact ⟨t, h.nox, q⟩
theorem Fun.binds {st} {f} {fd} {ps} (F : Fun K x qual st f fd)
 (h : ∀ (kV doc pm : Value) (an : Option _) (cdv ct : Value) (us : List _), us.length = ps.length → bindArgs (PySem.W.fnOf x qual (defArgs st) (defBody st) (defScope st) .none kV doc pm an cdv ct) ⟨us, []⟩ = pure (ps.zip us)) : Binds K fd ps [] := by
 obtain ⟨oc, od, kV, doc, pm, an, cdv, ct, osl, rfl, lk, hcd⟩ := F.ex
 exact .all (h kV _ pm an _ ct)
theorem fun_mk {st} {f} {oc} {od an} {osl} {kV doc pm cdv ct} (l : K.lookup f = some ⟨oc, od, .func (PySem.W.fnOf x qual (defArgs st) (defBody st) (defScope st) .none kV doc pm an cdv ct), osl⟩)
 (c : PySem.W.codeIn K cdv qual = true) (k : PySem.W.keepIn K (.ref f) = true) : Fun K x qual st f (PySem.W.fnOf x qual (defArgs st) (defBody st) (defScope st) .none kV doc pm an cdv ct) := ⟨⟨oc, od, kV, doc, pm, an, cdv, ct, osl, rfl, l, c⟩, k⟩
end
end L2
end
section
namespace L2
def PF (X : Cx) (cs : List Expr) (t : TT) : Prop :=
 ∀ (pins : List (Addr × Obj)) (s : Shared) (σ : St) (H : Hp) (Q : Bool → Hp → Prop), Inv X pins σ H s → t σ H Q →
  wpAny (model X.prog X.w) X.A (forIn cs true fun c r => if r = true then do let ok ← isTrue c X.env (eval c X.env); pure (ForInStep.yield ok) else pure (ForInStep.yield r)) (TP X pins σ Q) X.xe s
def tYes : TT := fun _ H Q => Q true H
theorem forIn_no : ∀ (cs : List _), (forIn cs false fun c r => if r = true then do let ok ← isTrue c env (eval c env); pure (ForInStep.yield ok) else pure (ForInStep.yield r)) = pure false
 | [] => rfl
 | c :: cs => by
  rw [List.forIn_cons]
  exact forIn_no cs
theorem pf_nil : PF X [] tYes := fun _ _ σ H _ I h => wpAny_pure ⟨H, I, h⟩
theorem pf_cons {t u} (h1 : PT X c t) (h2 : PF X cs u) : PF X (c :: cs) (tAnd t u) := by
 intro pins s σ H Q I h
 rw [List.forIn_cons]
 refine wpAny_bind (wpAny_bind (thn (h1 _ s σ H _ I h) fun b s1 ⟨H1, I1, q1⟩ => wpAny_pure ?_))
 cases b with
 | true => exact h2 _ s1 σ H1 _ I1 q1
 | false =>
  dsimp only
  rw [forIn_no]
  exact wpAny_pure ⟨H1, I1, q1⟩
theorem cells_step {env : Env} : ∀ (names : List (Str × NameKind)) (cs : List (Str × Addr)), (∀ x ∈ names, x.2 = .free → ∃ c, env.cells.lookup x.1 = some c) → (∀ x c, cs.lookup x = some c → env.cells.lookup x = some c) →
 ∃ cl, (forIn names cs fun (p : Str × NameKind) (r : List (Str × Addr)) => if (p.2 == .free) = true then do let a ← cellOf env p.1; pure (ForInStep.yield ((p.1, a) :: r)) else pure (ForInStep.yield r)) = (pure cl : Sem (List (Str × Addr))) ∧
  (∀ x c, cl.lookup x = some c → env.cells.lookup x = some c) ∧ (∀ x, (cs.lookup x).isSome = true → (cl.lookup x).isSome = true) ∧ ∀ x, (x, NameKind.free) ∈ names → (cl.lookup x).isSome = true
 | [], cs, _, h2 => ⟨cs, rfl, h2, fun _ h => h, fun _ h => nomatch h⟩
 | (n, k) :: r, cs, h1, h2 => by
  by_cases hk : k = .free
  · subst hk
    obtain ⟨c, hc⟩ := h1 (n, .free) List.mem_cons_self rfl
    have h2' : ∀ x d, ((n, c) :: cs).lookup x = some d → env.cells.lookup x = some d := fun x d e => by
     cases hx : x == n with
     | true => grind
     | false => grind
    obtain ⟨cl, e, a, b, d⟩ := cells_step r ((n, c) :: cs) (fun x hx => h1 x (List.mem_cons_of_mem _ hx)) h2'
    refine ⟨cl, ?_, a, fun x hx => b x ?_, fun x hx => ?_⟩
    · rw [List.forIn_cons]
      simp only [cellOf, hc]
      exact e
    · grind
    · rcases List.mem_cons.mp hx with z | z
      · grind
      · exact d x z
  · obtain ⟨cl, e, a, b, d⟩ := cells_step r cs (fun x hx => h1 x (List.mem_cons_of_mem _ hx)) h2
    refine ⟨cl, ?_, a, b, fun x hx => ?_⟩
    · grind
    · rcases List.mem_cons.mp hx with z | z
      · grind
      · exact d x z
theorem closure_ok (h : ∀ x ∈ scope.names, x.2 = .free → ∃ c, env.cells.lookup x.1 = some c) :
 ∃ cl, closureFor scope env = pure cl ∧ (∀ x c, cl.lookup x = some c → env.cells.lookup x = some c) ∧ ∀ x, (x, NameKind.free) ∈ scope.names → (cl.lookup x).isSome = true := by
 obtain ⟨cl, e, a, _, d⟩ := cells_step _ [] h fun x c e => by cases e
 refine ⟨cl, ?_, a, d⟩
 simp only [closureFor]
 simp_all
def cxComp (X : Cx) (N' : List Str) (scope : Scope) (cl : List (Str × Addr)) (C : Addr) (ex : List Addr) (s : Shared) (H : Hp) : Cx where
 prog := X.prog
 w := X.w
 K := X.K
 mg := X.mg
 base := X.base
 A := X.A
 N := N'
 s₀ := s
 H₀ := H
 env := compEnvC scope cl C X.env
 outer := X.stack
 stack := X.stack
 ex := ex
 fn := fun _ => false
 calm := X.calm
 pn := []
 xe := fun _ _ => False
def pick (ix : List (Option Nat)) (σ : St) : St := ix.map fun o => match o with | none => none | some j => (σ[j]?).getD none
def nameOk (osc scope : Scope) (x : Str × NameKind) : Bool :=
 match x.2 with
 | .cell => false
 | .local => scope.names.lookup x.1 == some .local
 | .free => osc.names.lookup x.1 == some .cell || osc.names.lookup x.1 == some .free
 | _ => true
def slotOk (N : List Str) (scope : Scope) : List (Option Nat) → List Str → Bool
 | [], [] => true
 | none :: r, _ :: q => slotOk N scope r q
 | some j :: r, x :: q => N[j]? == some x && scope.names.lookup x == some .free && slotOk N scope r q
 | _, _ => false
def compOk (osc : Scope) (N : List Str) (scope : Scope) (N' : List Str) (ix : List (Option Nat)) : Bool :=
 scope.kind == .function && scope.names.all (nameOk osc scope) && slotOk N scope ix N'
theorem slotOk_len : ∀ {ix} {N'}, slotOk N scope ix N' = true → ix.length = N'.length
 | [], [], _ => rfl
 | none :: r, _ :: q, h => by rw [List.length_cons, List.length_cons, slotOk_len (ix := r) h]
 | some j :: r, x :: q, h => by
  have h := (Bool.and_eq_true_iff.mp h).imp_left Bool.and_eq_true_iff.mp
  rw [List.length_cons, List.length_cons, slotOk_len h.2]
 | [], _ :: _, h => by cases h
 | none :: _, [], h => by cases h
 | some _ :: _, [], h => by cases h
theorem slotOk_at {scope} : ∀ {ix} {N'} {i j : Nat}, slotOk N scope ix N' = true → ix[i]? = some (some j) → ∃ x, N'[i]? = some x ∧ N[j]? = some x ∧ scope.names.lookup x = some .free
 | [], [], _, _, _, e => by simp at e
 | none :: r, _ :: q, 0, _, h, e => by simp at e
 | none :: r, _ :: q, i + 1, j, h, e => by
  obtain ⟨x, a, b⟩ := slotOk_at (ix := r) h (by simpa using e)
  grind
 | some k :: r, x :: q, 0, j, h, e => by
  have h := (Bool.and_eq_true_iff.mp h).imp_left Bool.and_eq_true_iff.mp
  grind
 | some k :: r, x :: q, i + 1, j, h, e => by
  have h := (Bool.and_eq_true_iff.mp h).imp_left Bool.and_eq_true_iff.mp
  obtain ⟨y, a, b⟩ := slotOk_at h.2 (by simpa using e)
  grind
 | [], _ :: _, _, _, h, _ => by cases h
 | none :: _, [], _, _, h, _ => by cases h
 | some _ :: _, [], _, _, h, _ => by cases h
theorem pick_at {i : Nat} {v} (h : (pick ix σ)[i]? = some (some v)) : ∃ j, ix[i]? = some (some j) ∧ σ[j]? = some (some v) := by
 unfold pick at h
 rw [List.getElem?_map] at h
 cases e : ix[i]? with
 | none => rw [e] at h; cases h
 | some o =>
  rw [e] at h
  cases o with
  | none => cases h
  | some j =>
   have h' : σ[j]?.getD _ = some v := Option.some.inj h
   cases q : σ[j]? with
   | none => rw [q] at h'; cases h'
   | some z => simp_all
theorem pick_len (ix : List _) (σ : St) : (pick ix σ).length = ix.length := by unfold pick; rw [List.length_map]
theorem relabel_free (h : scope.names.lookup x = some .free) : (relabel scope env).names.lookup x = some .cell ∨ (relabel scope env).names.lookup x = some .free := by
 unfold relabel
 dsimp only
 revert h
 generalize scope.names = l
 intro h
 induction l with
 | nil => cases h
 | cons p r ih =>
  obtain ⟨n, k⟩ := p
  rw [List.map_cons]
  cases hx : x == n with
  | true =>
   split
   · left; simp [List.lookup_cons, hx]
   simp_all
  | false =>
   simp only [List.lookup_cons, hx] at h
   split
   · simp only [List.lookup_cons, hx]; exact ih h
   · simp only [List.lookup_cons, hx]; exact ih h
theorem relabel_cell (hn : ∀ y ∈ scope.names, y.2 ≠ .cell) (h : (relabel scope env).names.lookup x = some .cell ∨ (relabel scope env).names.lookup x = some .free) : (x, NameKind.free) ∈ scope.names := by
 have key : ∀ k, k = NameKind.cell ∨ k = NameKind.free → (x, k) ∈ (relabel scope env).names → (x, NameKind.free) ∈ scope.names := by
  intro k hk hm
  obtain ⟨⟨n, k'⟩, hy, e⟩ := List.mem_map.mp hm
  dsimp only at e
  split at e
  · grind
  · cases e
    rcases hk with z | z
    · exact absurd z (hn _ hy)
    simp_all
 rcases h with h | h
 · exact key _ (.inl rfl) (PySem.mem_of_lookup h)
 · exact key _ (.inr rfl) (PySem.mem_of_lookup h)
section
variable {X : Cx} {pins : List (Addr × Obj)} {σ : St} {H H' : Hp} {s : Shared}
theorem Inv.off (I : Inv X pins σ H s) {b} (f : FpOk X pins H b) : b ∉ frs X.stack := fun hb => by
 rcases List.mem_cons.mp (I.stkSub b hb) with e | e
 · exact f.2.1 e
 · exact f.2.2.1 e
theorem compOk_is {osc scope : Scope} {N N' : List Str} {ix : List (Option Nat)} (h : compOk osc N scope N' ix = true) : scope.kind = .function ∧ (∀ y ∈ scope.names, nameOk osc scope y = true) ∧ ∀ y ∈ scope.names, y.2 ≠ .cell := by
 unfold compOk at h
 simp only [Bool.and_eq_true] at h
 refine ⟨by simpa using h.1.1, List.all_eq_true.mp h.1.2, fun y hy z => ?_⟩
 have := List.all_eq_true.mp h.1.2 y hy
 unfold nameOk at this
 rw [z] at this
 cases this
theorem pick_loc (I : Inv X pins σ H s) {scope : Scope} {N' : List Str} {ix : List (Option Nat)} {cl : List (Str × Addr)} {h' : Heap} {i : Nat} {x : Str} {v : V} (hok : compOk X.env.scope X.N scope N' ix = true)
 (hc1 : ∀ x c, cl.lookup x = some c → X.env.cells.lookup x = some c) (hc2 : ∀ x, (x, NameKind.free) ∈ scope.names → (cl.lookup x).isSome = true) (old : ∀ b o, s.heap.get? b = some o → h'.get? b = some o) (e1 : N'[i]? = some x) (e2 : (pick ix σ)[i]? = some (some v)) :
 ∃ u, RelV v u ∧ scope.names.lookup x = some .free ∧ ∃ c, cl.lookup x = some c ∧ h'.IsCell c u := by
 have hall := (compOk_is hok).2.1
 have hsl : slotOk X.N scope ix N' = true := by
  unfold compOk at hok
  simp only [Bool.and_eq_true] at hok
  exact hok.2
 obtain ⟨j, hj, hv⟩ := pick_at e2
 obtain ⟨y, a, b, hf⟩ := slotOk_at hsl hj
 rw [a] at e1
 have e1 : y = x := Option.some.inj e1
 subst e1
 have hmem : (y, NameKind.free) ∈ scope.names := PySem.mem_of_lookup hf
 have ho := hall _ hmem
 simp only [nameOk, Bool.or_eq_true] at ho
 have vis : Vis X.env.scope y := by
  rcases ho with z | z
  · exact .inr (.inl (by simpa using z))
  · exact .inr (.inr (by simpa using z))
 obtain ⟨m, hn, hl⟩ := I.loc
 obtain ⟨u, r, l⟩ := hl j y v b hv vis
 obtain ⟨c, hc⟩ := Option.isSome_iff_exists.mp (hc2 y hmem)
 refine ⟨u, r, hf, c, hc, ?_⟩
 rcases l with ⟨kl, _⟩ | ⟨_, c', e', z⟩
 · exfalso
   have kl' : X.env.scope.names.lookup y = some .local := kl
   rw [kl'] at ho
   rcases ho with z | z
   · exact absurd z (by decide)
   · exact absurd z (by decide)
 · rw [hc1 y c hc] at e'
   cases e'
   obtain ⟨o, ho', hd⟩ := z
   exact ⟨o, old _ o ho', hd⟩
theorem comp_inv (I : Inv X pins σ H s) {scope : Scope} {N' : List Str} {ix : List (Option Nat)} {cl : List (Str × Addr)} {ex : List Addr} {h' : Heap} {tk : Nat} (hok : compOk X.env.scope X.N scope N' ix = true)
 (hc1 : ∀ x c, cl.lookup x = some c → X.env.cells.lookup x = some c) (hc2 : ∀ x, (x, NameKind.free) ∈ scope.names → (cl.lookup x).isSome = true) (hex : ∀ b ∈ ex, FpOk X pins H b ∧ b < s.heap.objs.size)
 {mC : Str → Option Value} (hns : h'.Ns s.heap.objs.size mC) (old : ∀ b o, s.heap.get? b = some o → h'.get? b = some o) :
 Inv (cxComp X N' scope cl s.heap.objs.size ex s H) [] (pick ix σ) H { s with heap := h', toks := tk } := by
 obtain ⟨hk, _, nocell⟩ := compOk_is hok
 refine ⟨⟨I.ok.mod, hk, I.ok.glob, I.ok.blt, Nat.le_refl _, fun x y c e1 e2 => I.ok.inj x y c (hc1 x c e1) (hc1 y c e2), fun x hx => ?_, fun x c z => (nomatch z), I.ok.hd, I.ok.frames, .inl rfl, fun b hb => ?_, I.bs, Nat.le_trans I.ok.bsz I.sz, fun b o e hb => ?_, fun b hb => I.off (hex b hb).1, I.stack, I.stkFree⟩,
  ⟨rfl, Nat.le_refl _⟩, I.bare, Un.kept old, ⟨_, hns, fun i x v e1 e2 e3 => ?_⟩, fun x c e => ?_, I.hok.fresh (Nat.le_refl _), fun x c e => I.freeC x c (hc1 x c e), fun p hp => (nomatch hp), I.hok.kept old, ?_⟩
 · have := hc2 x (relabel_cell (env := X.env) nocell hx)
   exact Option.isSome_iff_exists.mp this
 · exact ⟨Nat.ne_of_lt (hex b hb).2, fun x c e => (hex b hb).1.2.2.2.2.1 x c (hc1 x c e)⟩
 · rcases (hex b hb).1.2.2.2.1 with z | z
   · exact I.ok.noex b o e z
   · exact absurd (Nat.lt_of_lt_of_le (Nat.lt_of_lt_of_le (Heap.lt_size e) I.ok.bsz) z) (Nat.lt_irrefl _)
 · obtain ⟨u, r, hf, c, hc, z⟩ := pick_loc I hok hc1 hc2 old e1 e2
   exact ⟨u, r, .inr ⟨relabel_free hf, c, hc, z⟩⟩
 · obtain ⟨v, o, ho', hd⟩ := I.cell x c (hc1 x c e)
   exact ⟨v, o, old _ o ho', hd⟩
 · unfold compOk at hok
   rw [pick_len]
   exact slotOk_len (Bool.and_eq_true_iff.mp hok).2
theorem Inv.track (I : Inv X pins σ H s) {D} {o} (f : FpOk X pins H D) (new : ObjOk X.prog X.w (upd H D o) s.heap D o) : Inv X pins σ (upd H D o) s := by
 obtain ⟨f0, f1, f2, f3, f4, f5⟩ := f
 have ne : ∀ b u, H b = some u → b ≠ D := fun b u e z => by grind
 refine I.step (ch := [D]) (fun b hb => ?_) (fun b o _ _ _ e _ => e) (fun b o _ _ _ e _ => ⟨_, e⟩) (fun b u hc _ n => ?_)
  (fun b o _ e => ⟨o, e⟩) (fun b xs e => by rw [upd_ne (ne _ _ e)]; exact e) (fun b u xs e => by rw [upd_ne (ne _ _ e)]; exact e) (fun b ps e => ⟨#[], by rw [upd_ne (ne _ _ e), e]; simp⟩) (fun m hm => hm) (fun b u e => ?_) I.bare (Nat.le_refl _)
 · have e := by simpa using hb
   subst e
   exact ⟨f3, f1, f4, f5⟩
 · rw [upd_ne (by simpa using hc)]; exact n
 · by_cases hb : b = D
   · subst hb
     rw [upd_same] at e
     cases e
     exact new
   · rw [upd_ne hb] at e
     refine (I.hok b u e).stay (fun c v hc q => q) fun c q => ?_
     rw [upd_ne (ne _ _ q)]; exact q
end
def Sub (σ σ' : St) : Prop := σ'.length = σ.length ∧ ∀ (i : Nat) v, σ[i]? = some (some v) → σ'[i]? = some (some v)
theorem Sub.set (h : σ[i]? = some none) : Sub σ (σ.set i v) := ⟨by rw [List.length_set], fun j u e => by
 have hj : i ≠ j := fun z => by grind
 simp_all⟩
theorem Sub.trans (a : Sub σ σ1) (b : Sub σ1 σ2) : Sub σ σ2 := ⟨b.1.trans a.1, fun i v e => b.2 i v (a.2 i v e)⟩
def CompG {β : Type} (L S Z : β → Prop) (EM : St → Hp → β → (β → Hp → Prop) → Prop) (y0 : β) (J : It) (σc : St) (g : TG) (tt : TT) (Q : β → Hp → Prop) (H1 : Hp) : Prop :=
 ∃ W : Nat → Nat → β → Hp → Prop, (∃ m, W 0 m y0 H1) ∧ (∀ i m y H, W i m y H → L y) ∧ ∀ i m y H, W i m y H →
  (J.stop i H ∧ S y ∧ Q y H) ∨
  (J.go i H ∧ Z y ∧ ∃ N : β → Hp → Prop, (∀ y' H', N y' H' → ∃ m', m' < m ∧ W (i + 1) m' y' H') ∧ ∀ x H2, J.yld i H x H2 → g x σc H2 fun σ2 H3 => Sub σc σ2 ∧ tt σ2 H3 fun ok H4 =>
   if ok = true then EM σ2 H4 y N else N y H4)
def emL (te : TE) (σ2 : St) (H4 : Hp) (ys : List V) (N : List V → Hp → Prop) : Prop := te σ2 H4 fun y H5 => N (ys ++ [y]) H5
def CompW (J : It) (σc : St) (g : TG) (tt : TT) (te : TE) (Q : List V → Hp → Prop) (H1 : Hp) : Prop :=
 CompG (fun _ => True) (fun ys => ys.length ≤ sizeLine) (fun ys => ys.length < sizeLine) (emL te) [] J σc g tt Q H1
def tComp (ix : List (Option Nat)) (wi : TI) (g : TG) (tt : TT) (te : TE) : TE := fun σ H Q => wi σ H fun J H1 =>
 CompW J (pick ix σ) g tt te (fun ys H' => ∀ p, H' p = none → Q (.ref p) (upd H' p (.lst ys))) H1
def turnG (c : Code) (iter target : Expr) (ifs : List Expr) (it : Value) (env : Env) (em : Sem Unit) : Sem Fin := do
 standAt iter.pos
 match ← pyNext it with
 | none => pure (.done .next)
 | some v =>
  letOwnedTupleGo target it v
  assign target env v
  let mut ok := true
  for c in ifs do
   if ok then ok ← isTrue c env (eval c env)
  if ok then em
  again c
structure Cd (P : Program) (w : World) (A : Around) (e : Expr) (d : Nat) (iter target : Expr) (ifs : List Expr) (em : Value → Env → Sem Unit) : Prop where
 q : ∀ it acc env, (Code.compLoop e d it acc env).quiet = true
 u : ∀ it acc env, A.under (.compLoop e d it acc env) = A
 den : ∀ it acc env, (model P w).den (.compLoop e d it acc env) = (turnG (.compLoop e d it acc env) iter target ifs it env (em acc env)).onRaise fun x => do noteFrame x env; theTreesLotGoes x
 us : ∀ it acc env, A.under (.compStart e d it acc env) = A
 dens : ∀ it acc env, (model P w).den (.compStart e d it acc env) = (compStart e d it acc env).onRaise fun x => do noteFrame x env; standAt theWindowsPlace
 cl : (clausesOf e)[d]? = some ⟨target, iter, ifs, 0⟩
theorem comp_loopG {prog : Program} {w : World} {A : Around} {R : Result → Shared → Prop} {s : Shared} {e : Expr} {d : Nat} {iter target : Expr} {ifs : List Expr} {it acc : Value} {env : Env} {em : Value → Env → Sem Unit} (hd : Cd prog w A e d iter target ifs em) (I : Nat → Shared → Prop)
 (turn : ∀ n s, I n s → wpAny (model prog w) A (pyNext it) (fun r s₁ => match r with
  | none => R (.ok .next) s₁
  | some v => wpAny (model prog w) A (letOwnedTupleGo target it v) (fun _ s₁' => wpAny (model prog w) A (assign target env v) (fun _ s₂ =>
   wpAny (model prog w) A (forIn ifs true fun c r => if r = true then do let ok ← isTrue c env (eval c env); pure (ForInStep.yield ok) else pure (ForInStep.yield r)) (fun ok s₃ =>
    if ok = true then wpAny (model prog w) A (em acc env) (fun _ s₅ => ∃ m, m < n ∧ I m s₅) (fun _ _ => False) s₃
    else ∃ m, m < n ∧ I m s₃) (fun _ _ => False) s₂) (fun _ _ => False) s₁') (fun _ _ => False) s₁) (fun _ _ => False) s)
 (n : Nat) (h : I n s) : codeAny (model prog w) A (.compLoop e d it acc env) R s := by
 refine codeAny_loop (hd.q _ _ _) I (fun n s hI => ?_) n h
 rw [hd.u, hd.den]
 refine wpAny_noted ?_
 refine wpAny_bind (wpAny_standAt (wpAny_bind (wpAny_mono (turn n s hI) (fun r s₁ h₁ => ?_) fun _ _ h' => h'.elim)))
 cases r with
 | none => exact wpAny_pure h₁
 | some v =>
  refine wpAny_bind (wpAny_mono h₁ (fun _ s₁' h₁' => ?_) fun _ _ h' => h'.elim)
  refine wpAny_bind (wpAny_mono h₁' (fun _ s₂ h₂ => wpAny_bind (wpAny_mono h₂ (fun ok s₃ h₃ => ?_) fun _ _ h' => h'.elim)) fun _ _ h' => h'.elim)
  cases ok with
  | false => exact wpAny_pure ⟨rfl, h₃⟩
  | true => exact wpAny_bind (wpAny_mono h₃ (fun _ s₅ h₅ => wpAny_pure ⟨rfl, h₅⟩) fun _ _ h' => h'.elim)
theorem start_g {A} {R} {s} {e} {d} {iter target} {ifs} {it acc} {env} {em} (hd : Cd prog w A e d iter target ifs em)
 (h0 : codeAny (model prog w) A (.compLoop e d it acc env) R s) (h : wpAny (model prog w) A (pyIter it) (fun it' s' => codeAny (model prog w) A (.compLoop e d it' acc env) R s') (fun _ _ => False) s) :
 codeAny (model prog w) A (.compStart e d it acc env) R s := by
 refine codeAny_of_tree ?_
 rw [hd.us, hd.dens]
 refine wpAny_notedAt ?_
 unfold compStart
 rw [hd.cl]
 refine wpAny_bind (wpAny_askSetting (wpAny_ite ?_))
 have st := fun it' s' (h' : codeAny (model prog w) A (.compLoop e d it' acc env) R s') => And.intro (hd.q it' acc env) h'
 split
 · exact wpAny_bind (wpAny_pure (wpAny_pure (st _ _ h0)))
 · refine wpAny_bind (wpAny_rule ?_)
   exact wpAny_bind (wpAny_standAt (wpAny_bind (wpAny_mono h (fun it' s' h' => wpAny_pure (st _ _ h')) fun _ _ x => x.elim)))
def Emit {β : Type} (Xc : Cx) (σc : St) (OB : β → Obj → Prop) (Z : β → Prop) (EM : St → Hp → β → (β → Hp → Prop) → Prop) (em : Value → Env → Sem Unit) : Prop :=
 ∀ {D : Addr} {pins : List (Addr × Obj)} {σ : St} {H : Hp} {s : Shared} {y : β} {ob : Obj} {N : β → Hp → Prop}, Sub σc σ → Inv Xc ((D, ob) :: pins) σ H s → (∀ {H' : Hp}, H' D = none → FpOk Xc pins H' D) → OB y ob → Z y → EM σ H y N →
  wpAny (model Xc.prog Xc.w) Xc.A (em (.ref D) Xc.env) (fun _ s' => ∃ H' y' ob', Inv Xc pins σc H' s' ∧ H' D = none ∧ s'.heap.get? D = some ob' ∧ OB y' ob' ∧ N y' H') (fun _ _ => False) s
theorem Inv.sub {σ σ' : St} {H} {s} (I : Inv X pins σ' H s) (h : Sub σ σ') (hp : ∀ p ∈ pins', p ∈ pins) : Inv X pins' σ H s :=
 (I.weak h.1.symm h.2).pins_of fun p q => I.pin p (List.mem_append_right _ (hp p q))
theorem Sub.refl (σ) : Sub σ σ := ⟨rfl, fun _ _ e => e⟩
theorem clause {β : Type} {OB : β → Obj → Prop} {Xc : Cx} {pins : List (Addr × Obj)} {D : Addr} {s2 : Shared} {σ : St} {H2 : Hp} {e : Expr} {d : Nat} {iter target : Expr} {ifs : List Expr} {em : Value → Env → Sem Unit} {g : TG} {tt : TT} {it : Addr} {fp : List Addr} {tn : Nat → Heap → Prop} {J : It} {L S Z : β → Prop} {EM : St → Hp → β → (β → Hp → Prop) → Prop} {Q : β → Hp → Prop} {R : Result → Shared → Prop} {y0 : β} {o0 : Obj}
 (hd : Cd Xc.prog Xc.w Xc.A e d iter target ifs em) (hc : Xc.calm = true) (hx : Xc.xe = fun _ _ => False) (hg : PG Xc target g) (hf : PF Xc ifs tt) (hO : ∀ y ob, OB y ob → ∀ v, ob.data ≠ .cell v) (fD : ∀ {H' : Hp}, H' D = none → FpOk Xc pins H' D)
 (I : Inv Xc ((D, o0) :: pins) σ H2 s2) (o : OB y0 o0) (T : Turn Xc.prog Xc.w Xc.K target J fp it tn) (st2 : tn 0 s2.heap) (f2 : ∀ b ∈ fp, FpOk Xc ((D, o0) :: pins) H2 b) (hw : CompG L S Z EM y0 J σ g tt Q H2) (emit : Emit Xc σ OB Z EM em)
 (fin : ∀ {H' : Hp} {s' : Shared} {y : β} {ob : Obj}, Inv Xc pins σ H' s' → H' D = none → s'.heap.get? D = some ob → OB y ob → S y → Q y H' → R (.ok .next) s') :
 codeAny (model Xc.prog Xc.w) Xc.A (.compStart e d (.ref it) (.ref D) Xc.env) R s2 := by
 obtain ⟨W, ⟨m0, w0⟩, _, turn⟩ := hw
 have mem0 : ∀ {ob : Obj}, (D, ob) ∈ Xc.pn ++ (D, ob) :: pins := List.mem_append_right _ List.mem_cons_self
 have pD2 := I.pin (D, o0) mem0
 have dr := (fD (H' := fun _ => none) rfl).2
 have stat : ∀ {H' : Hp} {ob : Obj}, (∀ b ∈ fp, H' b = none) → ∀ b ∈ fp, FpOk Xc ((D, ob) :: pins) H' b := fun {H' ob} hn b hb => by
  obtain ⟨_, a1, a2, a3, a4, a5⟩ := f2 b hb
  refine ⟨hn b hb, a1, a2, a3, a4, fun p hp z => ?_⟩
  rcases List.mem_append.mp hp with hp | hp
  · exact a5 p (List.mem_append_left _ hp) z
  · rcases List.mem_cons.mp hp with hp | hp
    · rw [hp] at z
      exact a5 _ mem0 z
    · exact a5 p (List.mem_append_right _ (List.mem_cons_of_mem _ hp)) z
 have hDf : D ∉ fp := fun hm => (f2 D hm).2.2.2.2.2 _ mem0 rfl
 have loop : codeAny (model Xc.prog Xc.w) Xc.A (.compLoop e d (.ref it) (.ref D) Xc.env) R s2 := by
  refine comp_loopG hd (fun n s' => ∃ i y ob H', Inv Xc pins σ H' s' ∧ tn i s'.heap ∧ (∀ b ∈ fp, H' b = none) ∧ H' D = none ∧ s'.heap.get? D = some ob ∧ OB y ob ∧ W i n y H') ?_ m0
   ⟨0, y0, o0, H2, I.sub (.refl _) fun _ h => List.mem_cons_of_mem _ h, st2, fun b hb => (f2 b hb).1, pD2.2.1, pD2.1, o, w0⟩
  rintro n s5 ⟨i, y, ob, H5, I5, st5, fr5, d5, o5, v5, w5⟩
  have I5p : Inv Xc ((D, ob) :: pins) σ H5 s5 := I5.pins_of fun p hp => by
   rcases List.mem_cons.mp hp with hp | hp
   · subst hp
     exact ⟨o5, d5, dr.1, dr.2.1, hO _ _ v5⟩
   · exact I5.pin p (List.mem_append_right _ hp)
  rcases turn i n y H5 w5 with ⟨stop, hS, q⟩ | ⟨go, hZ, N, hN, step⟩
  · refine thn (T.done Xc rfl rfl rfl hc i _ s5 σ H5 (fun _ _ => False) I5p (stat fr5) st5 stop) fun r s6 ⟨hr, I6⟩ => ?_
    subst hr
    have p6 := I6.pin (D, ob) mem0
    exact fin (I6.sub (.refl _) fun _ h => List.mem_cons_of_mem _ h) p6.2.1 p6.1 v5 hS q
  · refine thn (T.item Xc rfl rfl rfl hc i _ s5 σ H5 (fun _ _ => False) I5p (stat fr5) st5 go) fun r s6 ⟨u, hr, h6⟩ => ?_
    subst hr
    dsimp only
    refine thn h6 fun _ s7 ⟨x, H7, I7, r7, y7, st7, fr7⟩ => ?_
    have I7' := I7.pinned (stat fr7) (T.obj _ _ st7)
    have g7 := hg _ s7 σ H7 x u _ I7' r7 (step x H7 y7)
    rw [hx] at g7
    refine thn g7 fun _ s8 ⟨σ8, H8, I8, sub8, q8⟩ => ?_
    have t8 := hf _ s8 σ8 H8 _ I8 q8
    rw [hx] at t8
    refine thn t8 fun ok s9 ⟨H9, I9, q9⟩ => ?_
    have back : ∀ {H' : Hp} {s' : Shared}, Inv Xc (pins ++ pinsAt fp s7.heap) σ H' s' → Inv Xc pins σ H' s' ∧ tn (i + 1) s'.heap ∧ ∀ b ∈ fp, H' b = none := fun {H' s'} K => by
     refine ⟨K.sub (.refl _) fun _ h => List.mem_append_left _ h, T.keep _ _ _ st7 fun b hb o e => (K.pin (b, o) (List.mem_append_right _ (List.mem_append_right _ (mem_pinsAt hb e)))).1, fun b hb => ?_⟩
     obtain ⟨o, e, d⟩ := T.obj _ _ st7 b hb
     exact (K.pin (b, o) (List.mem_append_right _ (List.mem_append_right _ (mem_pinsAt hb e)))).2.1
    cases ok with
    | false =>
     obtain ⟨m', hm, w9⟩ := hN _ _ q9
     obtain ⟨b1, b2, b3⟩ := back (I9.sub sub8 fun _ h => List.mem_cons_of_mem _ h)
     have pD := I9.pin (D, ob) (List.mem_append_right _ List.mem_cons_self)
     exact ⟨m', hm, i + 1, y, ob, H9, b1, b2, b3, pD.2.1, pD.1, v5, w9⟩
    | true =>
     refine thn (emit (pins := pins ++ pinsAt fp s7.heap) sub8 I9 (fun {H'} hn => ?_) v5 hZ q9) fun _ s10 ⟨H', y', ob', K, hD', oD', v', q'⟩ => ?_
     · obtain ⟨a0, a1, a2, a3, a4, a5⟩ := fD hn
       refine ⟨a0, a1, a2, a3, a4, fun p hp z => ?_⟩
       rcases List.mem_append.mp hp with hp | hp
       · exact a5 p (List.mem_append_left _ hp) z
       · rcases List.mem_append.mp hp with hp | hp
         · exact a5 p (List.mem_append_right _ hp) z
         · exact hDf (by rw [← z]; exact (of_pinsAt hp).1)
     · obtain ⟨m', hm, w'⟩ := hN _ _ q'
       obtain ⟨b1, b2, b3⟩ := back K
       exact ⟨m', hm, i + 1, y', ob', H', b1, b2, b3, hD', oD', v', w'⟩
 exact start_g hd loop (T.self Xc.A 0 _ _ _ st2 loop)
def obL (ys : List V) (ob : Obj) : Prop := ∃ its k, Vals ys its ∧ ob = { cls := .type "list", data := .seq its.toArray k }
theorem emit_list {elt} {te} (he : PE Xc elt te) (hx : Xc.xe = fun _ _ => False) : Emit Xc σc obL (fun ys => ys.length < sizeLine) (emL te) fun acc env => (do let _ ← call (.builtin "list.append") [acc, ← eval elt env]) := by
 intro D pins σ H s y ob N hs I fD o hz h
 obtain ⟨its, k, v, rfl⟩ := o
 have e9 := he _ s σ H _ I h
 rw [hx] at e9
 refine wpAny_bind (thn e9 fun u s1 ⟨z, H1, I1, r1, q1⟩ => wpAny_bind ?_)
 obtain ⟨p1, p2, _⟩ := I1.pin _ (List.mem_append_right _ List.mem_cons_self)
 have vl := v.length
 refine append_at p1 (fun h' hs' ho' => wpAny_pure ⟨H1, _, _, ?_, p2, ho', ⟨_, _, v.append (.cons r1 .nil), by rw [List.push_toArray]⟩, q1⟩) (by rw [List.size_toArray]; omega)
 have f := fD p2
 exact (I1.sub hs fun _ h => List.mem_cons_of_mem _ h).turned (fun b o hb e => (hs'.2 b hb).trans e) p2 f.2.1 f.2.2.2.1 f.2.2.2.2.1 f.2.2.2.2.2
section
variable {X : Cx}
theorem HOk.but {h h'} {C} (ok : HOk P w H h) (hC : H C = none) (hs : Heap.SameBut C h h') : HOk P w H h' := fun b ob e => by
 refine (ok b ob e).stay (fun c w' hc q => (hs.2 c ?_).trans q) fun _ q => q
 grind
theorem Un.but {C : Addr} (u : Un fs ex H H1 h h1) (hC : h.objs.size ≤ C) (hs : Heap.SameBut C h1 h2) : Un fs ex H H1 h h2 := by
 have ne : ∀ b o, h.get? b = some o → b ≠ C := fun b o e z => by
  subst z
  exact absurd (Nat.lt_of_lt_of_le (Heap.lt_size e) hC) (Nat.lt_irrefl _)
 refine ⟨fun b o e n a c => (hs.2 b (ne b o e)).trans (u.keep b o e n a c), fun b o e n a c => ?_, u.free, fun b o e c => ?_, u.tups, u.frzs, u.tbls⟩
 · obtain ⟨sl, q⟩ := u.slot b o e n a c
   exact ⟨sl, (hs.2 b (ne b o e)).trans q⟩
 · obtain ⟨o', q⟩ := u.there b o e c
   exact ⟨o', (hs.2 b (ne b o e)).trans q⟩
structure Gth (X : Cx) {β : Type} (OB : β → Obj → Prop) (S : β → Prop) (ho : β → HO) (y0 : β) (mk : Sem Value) : Prop where
 cell : ∀ y o, OB y o → ∀ v, o.data ≠ .cell v
 fr : ∀ y o, OB y o → o.isFreed = false
 ok : ∀ {H h a y o}, OB y o → S y → h.get? a = some o → ObjOk X.prog X.w H h a (ho y)
 new : ∀ {s : Shared} {Q E : Value → Shared → Prop}, (∀ o, OB y0 o → Q (.ref s.heap.objs.size) { s with heap := s.heap.push o }) → wpAny (model X.prog X.w) X.A mk Q E s
theorem comp_block {β : Type} {OB : β → Obj → Prop} {L S Z : β → Prop} {ho : β → HO} {y0 : β} {mk : Sem Value} {EM : St → Hp → β → (β → Hp → Prop) → Prop} {em : Value → Env → Sem Unit} {pins : List (Addr × Obj)} {s2 : Shared} {σ : St} {H2 : Hp} {e target iter : Expr} {ifs : List Expr} {scope : Scope} {N' : List Str} {ix : List (Option Nat)} {cl : List (Str × Addr)} {g : TG} {tt : TT} {it : Addr} {fp : List Addr} {tn : Nat → Heap → Prop} {J : It} {Q : β → Hp → Prop}
 {RR : Value → Addr → Result → Shared → Prop} {E : Value → Shared → Prop}
 (hG : Gth X OB S ho y0 mk) (hd : Cd X.prog X.w X.A e 0 iter target ifs em) (hc : X.calm = true) (hg : ∀ cl C ex s H, PG (cxComp X N' scope cl C ex s H) target g) (hf : ∀ cl C ex s H, PF (cxComp X N' scope cl C ex s H) ifs tt) (he : ∀ cl C ex s H, Emit (cxComp X N' scope cl C ex s H) (pick ix σ) OB Z EM em)
 (hok : compOk X.env.scope X.N scope N' ix = true) (hc1 : ∀ x c, cl.lookup x = some c → X.env.cells.lookup x = some c) (hc2 : ∀ x, (x, NameKind.free) ∈ scope.names → (cl.lookup x).isSome = true)
 (I2 : Inv X pins σ H2 s2) (T : Turn X.prog X.w X.K target J fp it tn) (st2 : tn 0 s2.heap) (f2 : ∀ b ∈ fp, FpOk X pins H2 b) (hw : CompG L S Z EM y0 J (pick ix σ) g tt Q H2)
 (hRR : ∀ (D C : Addr) (s' : Shared) (H' : Hp) (y : β) (m : Str → Option Value), s'.heap.Ns C m → FpOk X pins H' C → C ≠ D → H' D = none → (∀ h', Heap.SameBut C s'.heap h' → Inv X pins σ (upd H' D (ho y)) { s' with heap := h' }) → Q y H' → RR (.ref D) C (.ok .next) s') :
 wpAny (model X.prog X.w) X.A mk (fun acc s₃ => wpAny (model X.prog X.w) X.A (newFunctionEnv scope X.env.globals cl [] X.env.qual none .none (some X.env)) (fun cenv s₄ =>
  codeAny (model X.prog X.w) X.A (.compStart e 0 (.ref it) acc { cenv with scope := relabel scope X.env }) (RR acc cenv.locals) s₄) E s₃) E s2 := by
 obtain ⟨hk, _, hcell⟩ := compOk_is hok
 refine hG.new fun o0 ob0 => wpAny_newFunctionEnv hcell (by intro y hy; simp at hy) (fun h₁ hns₁ hsb₁ => ?_) hk
 dsimp only at hns₁ hsb₁ ⊢
 have fpLt : ∀ b ∈ fp, b < s2.heap.objs.size := fun b hb => by
  obtain ⟨o, e, _⟩ := T.obj _ _ st2 b hb
  exact Heap.lt_size e
 have hDf : s2.heap.objs.size ∉ fp := fun hm => Nat.lt_irrefl _ (fpLt _ hm)
 generalize hH3 : s2.heap.push o0 = H3 at hns₁ hsb₁ ⊢
 have hC : H3.objs.size = s2.heap.objs.size + 1 := by rw [← hH3, Heap.size_push]
 have old3 : ∀ b o, s2.heap.get? b = some o → H3.get? b = some o := fun b o e => by rw [← hH3]; exact Heap.get?_push_of_some _ e
 have old1 : ∀ b o, H3.get? b = some o → h₁.get? b = some o := fun b o e => hsb₁.extBut b o (Nat.ne_of_lt (Heap.lt_size e)) (Heap.get?_push_of_some _ e)
 have accD : H3.get? s2.heap.objs.size = some o0 := by rw [← hH3]; exact Heap.get?_push_size _ (hG.fr _ _ ob0)
 have I3 : Inv X pins σ H2 { s2 with heap := H3 } := I2.kept (t' := s2.toks) old3
 have fD : FpOk X pins H2 s2.heap.objs.size := I2.fpOk (Nat.le_refl _) (I2.hok.fresh (Nat.le_refl _))
 have hex : ∀ b ∈ s2.heap.objs.size :: fp, FpOk X pins H2 b ∧ b < ({ s2 with heap := H3 } : Shared).heap.objs.size := fun b hb => by
  show _ ∧ b < H3.objs.size
  rcases List.mem_cons.mp hb with z | z
  · rw [z]; exact ⟨fD, by rw [hC]; exact Nat.lt_succ_self _⟩
  · exact ⟨f2 b z, by rw [hC]; exact Nat.lt_succ_of_lt (fpLt b z)⟩
 have I4 := comp_inv I3 (tk := s2.toks + ([] : List (Str × Value)).length) hok hc1 hc2 hex hns₁ old1
 have own : ∀ {H' : Hp} {b : Addr}, b ∈ s2.heap.objs.size :: fp → H' b = none → FpOk (cxComp X N' scope cl H3.objs.size (s2.heap.objs.size :: fp) { s2 with heap := H3 } H2) [] H' b := fun {H' b} hb hn => by
  have f := (hex b hb).1
  exact ⟨hn, Nat.ne_of_lt (hex b hb).2, I2.off f, .inl hb, fun x c e => f.2.2.2.2.1 x c (hc1 x c e), fun p hp => nomatch hp⟩
 refine clause (Xc := cxComp X N' scope cl H3.objs.size (s2.heap.objs.size :: fp) { s2 with heap := H3 } H2) (pins := []) hd hc rfl (hg _ _ _ _ _) (hf _ _ _ _ _) hG.cell (fun hn => own List.mem_cons_self hn)
  (I4.pins_of fun p hp => ?_) ob0 T (T.keep _ _ _ st2 fun b hb o e => old1 b o (old3 b o e)) (fun b hb => ?_) hw (he _ _ _ _ _) fun {H' s' y ob} I6 d6 o6 v6 hS q => ?_
 · cases List.mem_singleton.mp hp
   exact ⟨old1 _ _ accD, fD.1, Nat.ne_of_lt (hex _ List.mem_cons_self).2, I2.off fD, hG.cell _ _ ob0⟩
 · obtain ⟨a0, a1, a2, a3, a4, a5⟩ := own (H' := H2) (List.mem_cons_of_mem _ hb) (f2 b hb).1
   refine ⟨a0, a1, a2, a3, a4, fun p hp z => ?_⟩
   cases List.mem_singleton.mp hp
   exact hDf (by rw [show s2.heap.objs.size = b from z]; exact hb)
 · obtain ⟨mC, hnC, _⟩ := I6.loc
   have fC : FpOk X pins H' H3.objs.size := ⟨I6.free, (I3.fpOk (Nat.le_refl _) (I3.hok.fresh (Nat.le_refl _))).2⟩
   refine hRR _ _ s' H' y mC hnC fC (by rw [hC]; exact Nat.ne_of_gt (Nat.lt_succ_self _)) d6 (fun h' hs' => ?_) q
   have J : Inv X pins σ H' { s' with heap := h' } := I3.call' (s' := { s' with heap := h' }) (ch := s2.heap.objs.size :: fp) I6.os (Un.but I6.base (Nat.le_refl _) hs') (HOk.but I6.hok fC.1 hs') I6.bare
    (fun b hb => by
     have f := (hex b hb).1
     exact ⟨f.2.2.2.1, f.2.1, f.2.2.2.2.1, f.2.2.2.2.2⟩)
   exact J.track ⟨d6, fD.2⟩ (hG.ok v6 hS ((hs'.2 _ (by rw [hC]; exact Nat.ne_of_lt (Nat.lt_succ_self _))).trans o6))
theorem comp_clo {pins : List (Addr × Obj)} {σ : St} {H : Hp} {s : Shared} {scope : Scope} {N' : List Str} {ix : List (Option Nat)} (I : Inv X pins σ H s) (hok : compOk X.env.scope X.N scope N' ix = true) :
 scope.kind = .function ∧ (∀ x ∈ scope.names, x.2 = .local → scope.names.lookup x.1 = some .local) ∧ ∃ cl, closureFor scope X.env = pure cl ∧ (∀ x c, cl.lookup x = some c → X.env.cells.lookup x = some c) ∧ ∀ x, (x, NameKind.free) ∈ scope.names → (cl.lookup x).isSome = true := by
 obtain ⟨hk, hall, _⟩ := compOk_is hok
 refine ⟨hk, fun y hy z => ?_, closure_ok fun y hy z => ?_⟩
 · have := hall y hy
   unfold nameOk at this
   rw [z] at this
   simpa using this
 · have := hall y hy
   unfold nameOk at this
   rw [z] at this
   simp only [Bool.or_eq_true] at this
   refine I.ok.has y.1 ?_
   rcases this with q | q
   · exact .inl (by simpa [Env.kindOf] using q)
   · exact .inr (by simpa [Env.kindOf] using q)
theorem gth_list : Gth X obL (fun ys => ys.length ≤ sizeLine) .lst [] (newList []) :=
 ⟨fun y o ⟨_, _, _, e⟩ v z => (by rw [e] at z; cases z), fun y o ⟨_, _, _, e⟩ => by rw [e]; rfl, fun ⟨its, k, v, e⟩ hz h => ⟨hz, its, k, v, by rw [h, e]⟩, fun h => wpAny_newObj_type (h _ ⟨[], _, .nil, rfl⟩)⟩
theorem cd_list {ifs} {scope} {pos} : Cd X.prog X.w X.A (.ListComp elt [⟨target, iter, ifs, 0⟩] scope pos) 0 iter target ifs fun acc env => (do let _ ← call (.builtin "list.append") [acc, ← eval elt env]) :=
 ⟨fun _ _ _ => rfl, fun _ _ _ => rfl, fun _ _ _ => rfl, fun _ _ _ => rfl, fun _ _ _ => rfl, rfl⟩
theorem pe_compG {OB} {L S Z} {ho} {y0} {mk} {EM : St → St → Hp → β → (β → Hp → Prop) → Prop} {em} {e target iter} {ifs} {gs} {scope} {p} {N'} {ix} {wi} {g} {tt}
 (hG : Gth X OB S ho y0 mk) (hd : Cd X.prog X.w X.A e 0 iter target ifs em) (hev : eval e X.env = comprehension e scope X.env p mk false (eval iter X.env) none) (hcl : clausesOf e = ⟨target, iter, ifs, 0⟩ :: gs) (hc : X.calm = true) (hi : PI X target iter wi)
 (hg : ∀ cl C ex s H, PG (cxComp X N' scope cl C ex s H) target g) (hf : ∀ cl C ex s H, PF (cxComp X N' scope cl C ex s H) ifs tt) (he : ∀ σc cl C ex s H, Emit (cxComp X N' scope cl C ex s H) σc OB Z (EM σc) em)
 (hok : compOk X.env.scope X.N scope N' ix = true) (hs : ∀ x, foldedSetIterable iter X.env x = pure x) : PE X e fun σ H Q => wi σ H fun J H1 => CompG L S Z (EM (pick ix σ)) y0 J (pick ix σ) g tt (fun y H' => ∀ p, H' p = none → Q (.ref p) (upd H' p (ho y))) H1 := by
 intro pins s σ H Q I h
 obtain ⟨hk, hn, cl, hcl', hc1, hc2⟩ := comp_clo I hok
 rw [hev]
 refine wpAny_comprehension_free hcl hs hcl' hk hn (thn (hi _ s σ H _ I h) fun v s1 h1 => thn h1 fun itv s2 h2 => ?_)
 obtain ⟨it, fp, tn, J, H2, e, I2, T, st2, f2, hw⟩ := h2
 subst e
 refine comp_block hG hd hc hg hf (he _) hok hc1 hc2 I2 T st2 f2 hw ?_
 intro D C s' H' y m hn fC hCD hD hI hq
 exact ⟨m, hn, fun h' hs' => ⟨.ref D, _, hI h' hs', rfl, hq D hD⟩⟩
theorem pe_comp {elt target iter : Expr} {ifs : List Expr} {scope : Scope} {pos : Pos} {N' : List Str} {ix : List (Option Nat)} {wi : TI} {g : TG} {tt : TT} {te : TE} (hc : X.calm = true) (hi : PI X target iter wi)
 (hg : ∀ cl C ex s H, PG (cxComp X N' scope cl C ex s H) target g) (hf : ∀ cl C ex s H, PF (cxComp X N' scope cl C ex s H) ifs tt) (he : ∀ cl C ex s H, PE (cxComp X N' scope cl C ex s H) elt te)
 (hok : compOk X.env.scope X.N scope N' ix = true) (hs : ∀ x, foldedSetIterable iter X.env x = pure x := by intro _; rfl) : PE X (.ListComp elt [⟨target, iter, ifs, 0⟩] scope pos) (tComp ix wi g tt te) :=
 pe_compG gth_list cd_list (eval_ListComp ..) rfl hc hi hg hf (fun _ _ _ _ _ _ => emit_list (he _ _ _ _ _) rfl) hok hs
theorem ps_setC {elt target iter : Expr} {ifs : List Expr} {scope : Scope} {pos spos py : Pos} {y : Str} {i : Nat} {N' : List Str} {ix : List (Option Nat)} {wi : TI} {g : TG} {tt : TT} {te : TE} (hN : X.N.Nodup) (hiy : X.N[i]? = some y) (hy : X.env.kindOf y = some .local) (hc : X.calm = true) (hi : PI X target iter wi)
 (hg : ∀ cl C ex s H, PG (cxComp X N' scope cl C ex s H) target g) (hf : ∀ cl C ex s H, PF (cxComp X N' scope cl C ex s H) ifs tt) (he : ∀ cl C ex s H, PE (cxComp X N' scope cl C ex s H) elt te)
 (hok : compOk X.env.scope X.N scope N' ix = true) (hsw : swapsWith (.ListComp elt [⟨target, iter, ifs, 0⟩] scope pos) (some (.Name y py)) spos.line X.env = pure true) (hs : ∀ x, foldedSetIterable iter X.env x = pure x := by intro _; rfl) :
 PS X (.Assign [.Name y py] (.ListComp elt [⟨target, iter, ifs, 0⟩] scope pos) spos) (tAsg (tComp ix wi g tt te) (gName i)) := by
 intro pins s σ H D0 I h
 obtain ⟨hk, hnm, cl, hcl, hc1, hc2⟩ := comp_clo I hok
 rw [exec_Assign_Name_used _ _ _ _ hsw]
 refine wpAny_bind (wpAny_standAt (wpAny_bind ?_))
 refine wpAny_bind (wpAny_mono (wpAny_comprehension_free rfl hs hcl hk hnm (thn (hi _ s σ H _ I h) fun v s1 h1 => thn h1 fun itv s2 h2 => ?_)) (fun _ s' hq => wpAny_pure (wpAny_pure hq)) fun _ _ e => e)
 obtain ⟨it, fp, tn, J, H2, e, I2, T, st2, f2, hw⟩ := h2
 subst e
 refine comp_block gth_list cd_list hc hg hf (fun _ _ _ _ _ => emit_list (he _ _ _ _ _) rfl) hok hc1 hc2 I2 T st2 f2 hw ?_
 intro D C s' H' ys m hn fC hCD hD hI hq
 have J := hI _ (.refl ..)
 refine wpAny_assign_Name (store_ok2 J hN hiy (.inl hy) (v := .ref D) rfl (fun s'' J' ⟨a, hs, ha⟩ => ?_) (.inr hy))
 have hCa : C ≠ a := by
  rcases ha with z | z
  · rw [z]; exact fC.2.1
  · exact fun q => fC.2.2.2.2.1 y a z q.symm
 refine ⟨m, hn.sameBut hs hCa, fun h' hs' => ?_⟩
 refine ⟨_, _, ?_, hq D hD⟩
 exact J'.turned (fun b o hb e => (hs'.2 b hb).trans e) (by rw [upd_ne hCD]; exact fC.1) fC.2.1 fC.2.2.2.1 fC.2.2.2.2.1 fC.2.2.2.2.2
theorem ep_str {σ : St} {H} {s} {Q} {z} {t} (I : Inv X pins σ H s) (q : Q (.str z) H) : EP X pins σ Q (.str z t) s := ⟨.str z, H, I, ⟨t, rfl⟩, q⟩
theorem ep_int {σ : St} {H} {s} {Q} {z} {t} (I : Inv X pins σ H s) (q : Q (.int z) H) : EP X pins σ Q (.int z t) s := ⟨.int z, H, I, ⟨t, rfl⟩, q⟩
def CDivL (i j : Int) : Prop := 0 < j ∧ j < 2 ^ 1000
theorem op_fdivL : OpR X (binaryOp .FloorDiv) (rI CDivL fun i j => .int (i / j)) := opI fun i j _ _ _ _ _ hc q => by
 have h0 := hc.1
 refine floordiv_int (by omega) (by rw [Int.fdiv_eq_ediv_of_nonneg i (by omega)]; exact q) (.inl (PyProof.noPylong_of_log2 ?_))
 have h1 : j.natAbs < 2 ^ 1000 := by
  have h2 := hc.2
  omega
 have h3 : j.natAbs ≠ 0 := by omega
 have h4 := (Nat.log2_lt h3).mpr h1
 omega
theorem op_le_str : OpR X (compareOp .LtE) fun x y H Q => ∃ i j, x = .str i ∧ y = .str j ∧ Q (.bl !decide (j.cps.toList < i.cps.toList)) H := by
 intro pins s σ H x y v u Q I rx ry h
 obtain ⟨i, j, rfl, rfl, q⟩ := h
 obtain ⟨t, rfl⟩ := rx
 obtain ⟨t', rfl⟩ := ry
 exact P.le_str (fin_bl I q rfl)
def rSlS : V → Option Int → Option Int → Hp → VK → Prop := fun x lo hi H Q => ∃ z, x = .str z ∧ z.length ≤ sizeLine ∧ Q (.str (Txt.slice z lo hi)) H
theorem sl_str : SlR X rSlS := by
 intro pins s σ H x v vl vu lo hi sl Q I rx hs pl pu h
 obtain ⟨z, rfl, hz, q⟩ := h
 obtain ⟨t, rfl⟩ := rx
 refine ⟨_, _, F.slot_str_getitem.lookup, typeIs_str _ _ _, ?_⟩
 obtain ⟨o, ho, hc, hd⟩ := hs
 have fin : ∀ (lo hi : Option _), Q (.str (Txt.slice z lo hi)) H → ∀ t' k, EP X _ σ Q (.str _ t') _ := fun lo hi q t' k => ep_str (I.tok k) q
 cases pl with
 | none =>
  cases pu with
  | none => exact wpAny_getItem_str_slice (l := none) (u := none) (st := none) ⟨o, ho, hc, hd⟩ rfl (post_val_or_str ⟨Nat.le_trans (Txt.slice_le z _ _) hz, fun t' k => fin _ _ q t' k⟩)
  | int j tj => exact wpAny_getItem_str_slice (l := none) (u := some (j, tj)) (st := none) ⟨o, ho, hc, hd⟩ rfl (post_val_or_str ⟨Nat.le_trans (Txt.slice_le z _ _) hz, fun t' k => fin _ _ q t' k⟩)
 | int i ti =>
  cases pu with
  | none => exact wpAny_getItem_str_slice (l := some (i, ti)) (u := none) (st := none) ⟨o, ho, hc, hd⟩ rfl (post_val_or_str ⟨Nat.le_trans (Txt.slice_le z _ _) hz, fun t' k => fin _ _ q t' k⟩)
  | int j tj => exact wpAny_getItem_str_slice (l := some (i, ti)) (u := some (j, tj)) (st := none) ⟨o, ho, hc, hd⟩ rfl (post_val_or_str ⟨Nat.le_trans (Txt.slice_le z _ _) hz, fun t' k => fin _ _ q t' k⟩)
theorem strsAre_of : ∀ {ys} {us}, Vals (ys.map V.str) us → StrsAre us ys
 | [], _, .nil => .nil
 | y :: ys, _, .cons ⟨t, e⟩ r => by subst e; exact .cons y t (strsAre_of r)
def rJoin (K : PySem.W.Frag) : V → List V → Hp → VK → Prop := fun x vs H Q => ∃ sep a ys, x = .str sep ∧ vs = [.ref a] ∧ SqL K H a (ys.map V.str) ∧ (ys.map (·.length)).sum + ys.length * sep.length ≤ 16777216 ∧ Q (.str (Txt.join sep ys)) H
theorem mt_join : MtR X "str.join" (rJoin X.K) := by
 intro pins s σ H x vs v us Q I rx rv h
 obtain ⟨sep, a, ys, rfl, rfl, hS, hz, q⟩ := h
 obtain ⟨t, rfl⟩ := rx
 obtain ⟨u, rfl, ru⟩ := rv.one
 cases ru
 obtain ⟨its, r, p, _⟩ := I.list hS
 exact join_list p.isList (strsAre_of (by simpa using r)) hz fun t' k => ep_str (I.tok k) q
def rJoinT (K : PySem.W.Frag) : V → List V → Hp → VK → Prop := fun x vs H Q => ∃ sep a ys, x = .str sep ∧ vs = [.ref a] ∧ SqT K H a (ys.map V.str) ∧ (ys.map (·.length)).sum + ys.length * sep.length ≤ 16777216 ∧ Q (.str (Txt.join sep ys)) H
theorem mt_joinT : MtR X "str.join" (rJoinT X.K) := by
 intro pins s σ H x vs v us Q I rx rv h
 obtain ⟨sep, a, ys, rfl, rfl, hS, hz, q⟩ := h
 obtain ⟨t, rfl⟩ := rx
 obtain ⟨u, rfl, ru⟩ := rv.one
 cases ru
 obtain ⟨its, r, p, _⟩ := I.tuple hS
 exact join_tuple p (strsAre_of (by simpa using r)) hz fun t' k => ep_str (I.tok k) q
def repS (z : Str) (n : Int) : Str := if n < 1 then Str.empty else if (n == 1 || z.length == 0) = true then z else ⟨(List.replicate n.toNat z.cps).foldl (· ++ ·) #[]⟩
theorem op_mul_str : OpR X (binaryOp .Mult) (fun x y H Q => ∃ z n, x = .str z ∧ y = .int n ∧ z.length ≤ 1000 ∧ 0 ≤ n ∧ n ≤ 1000 ∧ Q (.str (repS z n)) H) := by
 intro pins s σ H x y v u Q I rx ry h
 obtain ⟨z, n, rfl, rfl, hz, h0, h1, q⟩ := h
 obtain ⟨t, rfl⟩ := rx
 obtain ⟨t', rfl⟩ := ry
 have hsz : z.length * n.toNat ≤ 1000000 := by
  have := Nat.mul_le_mul hz (show n.toNat ≤ 1000 by omega)
  omega
 have hline : sizeLine = 16777216 := by rw [sizeLine_eq]
 refine P.mul_str (by rw [decide_eq_false (by omega), decide_eq_false (by omega)]; rfl) (fun a b hh => ?_) (fun a b => ?_) ?_
 · have : (1000 : Int) ≤ (2 ^ 63 - 1) / n := by
    have e : (2 ^ 63 - 1 : Int) / 1000 ≤ (2 ^ 63 - 1) / n := by
     refine (Int.le_ediv_iff_mul_le (by omega)).mpr ?_
     have : (2 ^ 63 - 1 : Int) / 1000 * n ≤ (2 ^ 63 - 1) / 1000 * 1000 := Int.mul_le_mul_of_nonneg_left h1 (by decide)
     exact Int.le_trans this (by decide)
    exact Int.le_trans (by decide) e
   omega
 · exact decide_eq_false (by rw [hline]; omega)
 · unfold repS at q
   split
   · rename_i c
     rw [if_pos c] at q
     exact ⟨by decide, ep_str (I.tok _) q⟩
   · rename_i c
     rw [if_neg c] at q
     split
     · rename_i d
       rw [if_pos d] at q
       exact ep_str I q
     · rename_i d
       rw [if_neg d] at q
       refine ⟨?_, ep_str (I.tok _) q⟩
       have key : ∀ (k : Nat) (acc : Array Nat), ((List.replicate k z.cps).foldl (· ++ ·) acc).size = acc.size + z.length * k := by
        intro k
        induction k with
        | zero => simp
        | succ k ih => intro acc; rw [List.replicate_succ, List.foldl_cons, ih, Array.size_append, Nat.mul_succ]; show acc.size + z.length + z.length * k = _; omega
       have := key n.toNat #[]
       show Array.size _ ≤ sizeLine
       rw [this, hline]
       simp only [List.size_toArray, List.length_nil]
       omega
theorem call_int_text : CallR X (.type "int") fun xs H Q => ∃ z n, xs = [.str z] ∧ PySem.intText? z = some n ∧ z.length ≤ 640 ∧ Q (.int n) H := by
 intro pins s σ H xs us Q I rv h
 obtain ⟨z, n, rfl, hn, hl, q⟩ := h
 obtain ⟨u, rfl, t, rfl⟩ := rv.one
 exact PySem.W.KIN.call_text hn hl (ep_int (I.tok _) q)
def Its (z : Str) : It := ⟨fun i _ => i < z.length, fun i H x H' => H' = H ∧ ∃ c, z.cps[i]? = some c ∧ x = .str ⟨#[c]⟩, fun i _ => z.length ≤ i⟩
def iStr (tl : TE) : TI := fun σ H R => tl σ H fun x H1 => ∃ z, x = .str z ∧ R (Its z) H1
theorem pi_str {tg l : Expr} {tl : TE} (hl : PE X l tl) : PI X tg l (iStr tl) := by
 intro pins s σ H R I h
 refine thn (hl pins s σ H _ I h) fun v s1 ⟨x, H1, I1, r1, q1⟩ => ?_
 obtain ⟨z, e, q⟩ := q1
 subst e
 obtain ⟨t, rfl⟩ := r1
 have I2 : ∀ o, Inv X pins σ H1 { s1 with heap := s1.heap.push o } := fun o => I1.kept (t' := s1.toks) fun b o' e => Heap.get?_push_of_some _ e
 have fp : ∀ b ∈ [s1.heap.objs.size], FpOk X pins H1 b := fun b hb => by
  have e : b = s1.heap.objs.size := by simpa using hb
  subst e
  exact I1.fpOk (Nat.le_refl _) (I1.hok.fresh (Nat.le_refl _))
 have mk : ∀ (nm : String) (W : ∀ A' : Around, A'.handled = none → Walks X.prog X.w A' s1.heap.objs.size [s1.heap.objs.size] [s1.heap.objs.size] z.cps.size (SignAt z) (fun i h => h.IsStrIter s1.heap.objs.size nm z t i))
  (sf : ∀ (A : Around) (i : Nat) (s : Shared) (Q : Value → Shared → Prop) (E : Value → Shared → Prop), s.heap.IsStrIter s1.heap.objs.size nm z t i → Q (.ref s1.heap.objs.size) s → wpAny (model X.prog X.w) A (pyIter (.ref s1.heap.objs.size)) Q E s)
  (hn : ["enumerate", "zip", "dict_itemiterator", "dict_reverseitemiterator", "odict_iterator", "itertools.zip_longest", "itertools.pairwise"].contains nm = false),
  Turn _ _ X.K tg (Its z) [s1.heap.objs.size] _ (fun i h => i ≤ z.length ∧ h.IsStrIter _ nm z t i) := fun nm W sf hn =>
  {
   mem := by simp
   obj := fun i h st b hb => by
    obtain ⟨_, o, e, c, d⟩ := st
    simp_all
   keep := fun i h h' st k => ⟨st.1, let ⟨o, e, r⟩ := st.2; ⟨o, k _ (by simp) o e, r⟩⟩
   item := by
    intro X' hP hw hK hc i pins s σ H E I hf st hg
    obtain ⟨f0, f1, f2, f3, f4, f5⟩ := hf _ (List.mem_singleton.mpr rfl)
    refine (W _ (I.ok.hd hc)).item i s _ _ hg st.2 fun v h' tk hv st' kk => ?_
    obtain ⟨c, u, hc', rfl⟩ := hv
    have I1 : Inv X' _ σ H { s with heap := h', toks := tk } := I.turned (fun b o hb e => kk b o (fun z => hb (List.mem_singleton.mp z)) e) f0 f1 f3 f4 f5
    obtain ⟨o, e, c1, d⟩ := id st'
    exact ⟨_, rfl, go_of e c1 d hn ⟨.str _, H, I1, ⟨u, rfl⟩, ⟨rfl, c, hc', rfl⟩, ⟨hg, st'⟩, fun b hb => (hf b hb).1⟩⟩
   done := by
    intro X' hP hw hK hc i pins s σ H E I hf st hg
    obtain ⟨f0, f1, f2, f3, f4, f5⟩ := hf _ (List.mem_singleton.mpr rfl)
    have e := Nat.le_antisymm st.1 hg
    subst e
    exact (W _ (I.ok.hd hc)).done s _ _ st.2 fun h' tk kk => ⟨rfl, I.turned (fun b o hb e => kk b o (fun z => hb (List.mem_singleton.mp z)) e) f0 f1 f3 f4 f5⟩
   self := fun A i s Q E st h => sf A i s Q E st.2 h }
 cases ha : z.cps.all _
 · exact wpAny_pyIter_wide ha ⟨_, _, _, _, H1, rfl, I2 _, mk _ (fun A' hA => Walks.strWide hA _ z t) (fun A i s Q E st h => wpAny_pyIter_striter_wide st h) (rfl), ⟨Nat.zero_le _, _, Heap.get?_push_size _ rfl, rfl, rfl⟩, fp, q⟩
 · exact wpAny_pyIter_ascii ha ⟨_, _, _, _, H1, rfl, I2 _, mk _ (fun A' hA => Walks.strAscii hA _ z t) (fun A i s Q E st h => wpAny_pyIter_striter_ascii st h) (rfl), ⟨Nat.zero_le _, _, Heap.get?_push_size _ rfl, rfl, rfl⟩, fp, q⟩
end
def rSplit : V → List V → Hp → VK → Prop := fun x vs H Q => ∃ z y, x = .str z ∧ vs = [.str y] ∧ z.length ≤ 1000000 ∧ y.length = 1 ∧ ∀ p, H p = none → Q (.ref p) (upd H p (.lst ((Txt.split z y).map V.str)))
theorem split_vals : ∀ l : List (Str × Tok), Vals ((l.map (·.1)).map V.str) (strValues l)
 | [] => .nil
 | (x, t) :: l => .cons ⟨t, rfl⟩ (split_vals l)
theorem mt_split {X : Cx} : MtR X "str.split" rSplit := by
 intro pins s σ H x vs v us Q I rx rv h
 obtain ⟨z, y, rfl, rfl, hz, hy, q⟩ := h
 obtain ⟨t, rfl⟩ := rx
 obtain ⟨u, rfl, k, rfl⟩ := rv.one
 have hL : z.length + 2 ≤ sizeLine := by rw [sizeLine_eq]; omega
 have hn : (PySem.Builtin.Str.partsBetween z (PySem.Builtin.Str.occurrences z y 0 z.length (z.length + 1)) y.length).length ≤ sizeLine := by
  have := StrLaws.occ_length_le z y 0 z.length (z.length + 1)
  rw [length_partsBetween]
  omega
 have hy0 : (y.length == 0) = false := by rw [hy]; rfl
 have fin : ∀ (l : List (Str × Tok)) (tk : Tok), l.map (·.1) = Txt.split z y → l.length ≤ sizeLine → EP X pins σ Q (.ref s.heap.objs.size) { s with toks := tk, heap := s.heap.push { cls := .type "list", data := .seq (strValues l).toArray } } := fun l tk e hl =>
  ⟨.ref _, _, I.lnew (t' := tk) (e ▸ split_vals l) (by rw [List.length_map, ← e, List.length_map]; exact hl), rfl, q _ I.fresh⟩
 cases h1 : (decide (z.length < y.length) || decide (PySem.Builtin.Str.strKind z < PySem.Builtin.Str.strKind y)) with
 | true => exact call_meets F.slot_str_split (typeIs_str _ _ _) F.entry_str_split (F.args_str_split_2 _ _) (meets_str_split_cannot_occur z y t k h1) (fin [(z, t)] _ (if_pos h1).symm (by show 1 ≤ sizeLine; rw [sizeLine_eq]; decide))
 | false =>
  cases hf : (PySem.Builtin.Str.occurrences z y 0 z.length (z.length + 1)).isEmpty with
  | true => exact call_meets F.slot_str_split (typeIs_str _ _ _) F.entry_str_split (F.args_str_split_2 _ _) (meets_str_split_not_found z y t k h1 hy0 hf) (fin [(z, t)] _ ((if_neg (ne_true_of_eq_false h1)).trans (if_pos hf)).symm (by show 1 ≤ sizeLine; rw [sizeLine_eq]; decide))
  | false =>
   refine call_meets F.slot_str_split (typeIs_str _ _ _) F.entry_str_split (F.args_str_split_2 _ _) (meets_str_split_sep z y t k h1 hy0 hf (by omega) hn) ?_
   rw [strsFrom_eq]
   have e1 := numbered_texts s.toks (PySem.Builtin.Str.partsBetween z (PySem.Builtin.Str.occurrences z y 0 z.length (z.length + 1)) y.length)
   exact fin (numbered s.toks _) _ (e1.trans ((if_neg (ne_true_of_eq_false h1)).trans (if_neg (ne_true_of_eq_false hf))).symm) (by have := congrArg List.length e1; rw [List.length_map] at this; rw [this]; exact hn)
end L2
end
section
namespace L2
open AutoSeq1 (wpAny_loadPart')
section
variable {prog : Program} {w : World} {A : Around} {E : Value → Shared → Prop} {s : Shared}
theorem nextOf_tuple {it l : Addr} {i : Nat} {items} {Q : Value → Shared → Prop} (hit : s.heap.IsTupleIter it l i) (hl : s.heap.IsTuple l items)
 (h : match items[i]? with
  | some x => ∀ h', h'.IsTupleIter it l (i + 1) → Heap.SameBut it s.heap h' → Q x { s with heap := h' }
  | none => A.handled = none ∧ ∀ h' e, Heap.ExtBut it s.heap h' → (∃ o, h'.get? e = some o ∧ o.cls = .type "StopIteration") → E (.ref e) { s with heap := h' }) :
 wpAny (model prog w) A (Builtin.SmallTypes.nextOf (.ref it)) Q E s := by
 obtain ⟨o, ho, hc, hd⟩ := id hit
 obtain ⟨ol, hol, _, nl, hdl⟩ := hl
 refine wpAny_bind (wpAny_callSpecial?_slot (name := Str.ofString "__next__") hit.typeIs F.slot_tuple_iterator_next
  (wpAny_call_entry F.slot_tuple_iterator_next hit.typeIs F.entry_tuple_iterator_next ?_ (F.args_tuple_iterator_next_1 _)))
 show wpAny _ _ (field (.ref it) 0 >>= _) _ _ s
 refine wpAny_bind (wpAny_field ho hd (x := .ref l) rfl ?_)
 refine wpAny_bind (wpAny_field ho hd (x := .int i 0) rfl ?_)
 refine wpAny_bind (wpAny_seqItems hol hdl ?_)
 cases hx : items[i]? with
 | some x =>
  rw [hx] at h
  simp only [Int.toNat_natCast, hx]
  refine wpAny_bind (wpAny_setField ho hd (by simp) (wpAny_pure ⟨x, rfl, wpAny_pure (h _ ?_ (Heap.SameBut.update ..))⟩))
  exact ⟨_, Heap.get?_update_self _ ho (Obj.isFreed_of_fields (Obj.data_mapFields hd _)), (Obj.cls_mapFields ..).trans hc, by
   rw [Obj.data_mapFields hd]; simp [rawInt]⟩
 | none =>
  rw [hx] at h
  simp only [Int.toNat_natCast, hx]
  refine wpAny_bind (wpAny_rule (wpAny_bind (wpAny_setField ho hd (by simp) ?_)))
  refine wpAny_bind ?_
  refine wpAny_bind (m := firstArgMember _ _) (wpAny_of_eq (a := Value.none) (by rfl) ?_)
  refine wpAny_newObj_type ?_ (by size_fits)
  refine wpAny_bind (wpAny_handled ?_)
  first | rw [h.1]
  refine wpAny_bind (wpAny_pure (wpAny_throw ?_))
  exact h.2 _ _ (((Heap.SameBut.update ..).extBut.push _).push _) ⟨_, Heap.get?_push_size _ rfl, rfl⟩
theorem enum_step {e it : Addr} {i : Nat} {x old : Value} {T : Heap → Prop} {Q : Value → Shared → Prop}
 (he : IsEnum s.heap e it i old) (hne : e ≠ it) (hT : ∀ h h', T h → (∀ o, h.get? it = some o → h'.get? it = some o) → T h')
 (hN : ∀ (Q' : Value → Shared → Prop), (∀ h', T h' → Heap.SameBut it s.heap h' → Q' x { s with heap := h' }) → wpAny (model prog w) A (Builtin.SmallTypes.nextOf (.ref it)) Q' E s)
 (hQ : ∀ h', IsEnumOut h' e it ((i : Int) + 1) x s.heap.objs.size → T h' →
  h'.get? s.heap.objs.size = some { cls := .type "tuple", data := .seq #[.int i s.toks, x] } → h'.objs.size = s.heap.objs.size + 1 →
  (∀ b o, b ≠ e → b ≠ it → s.heap.get? b = some o → h'.get? b = some o) → Q (.ref s.heap.objs.size) { s with heap := h', toks := s.toks + 1 }) :
 wpAny (model prog w) A (Builtin.«enumerate.__next__» ⟨[.ref e], []⟩) (fun fin s' => ∃ v, fin = .done (.ret v) ∧ Q v s') E s := by
 obtain ⟨hp, g, d, tk, os⟩ := s
 show wpAny _ _ (field (.ref e) 2 >>= _) _ _ _
 refine wpAny_bind (wpAny_field he rfl (x := .ref it) rfl ?_)
 refine wpAny_bind (hN _ fun h₁ hit₁ hs₁ => ?_)
 have he₁ : IsEnum h₁ e it i old := (hs₁.2 e hne).trans he
 refine wpAny_bind (wpAny_field he₁ rfl (x := rawInt i) rfl ?_)
 refine wpAny_bind (wpAny_field he₁ rfl (x := .none) rfl ?_)
 refine wpAny_bind (wpAny_mkInt ?_)
 refine wpAny_bind (wpAny_setField_rec he₁ (by simp) fun h₂ he₂ hs₂ => ?_)
 refine wpAny_bind (wpAny_setField_rec he₂ (by simp) fun h₃ he₃ hs₃ => ?_)
 refine wpAny_bind (wpAny_newTuple ?_)
 have he₄ : IsEnum (h₃.push { cls := .type "tuple", data := .seq #[.int i tk, x] }) e it ((i : Int) + 1) old := Heap.get?_push_of_some _ he₃
 generalize hh₄ : h₃.push { cls := .type "tuple", data := .seq #[.int i tk, x] } = h₄ at he₄
 have hsz : h₃.objs.size = hp.objs.size := by rw [hs₃.1, hs₂.1, hs₁.1]
 have hel : e < hp.objs.size := Heap.lt_size he
 have ht₄ : h₄.get? hp.objs.size = some { cls := .type "tuple", data := .seq #[.int i tk, x] } := by rw [← hh₄, ← hsz]; exact Heap.get?_push_size _ rfl
 have hz₄ : h₄.objs.size = hp.objs.size + 1 := by rw [← hh₄, Heap.size_push, hsz]
 have hk₄ : ∀ b o, b ≠ e → b ≠ it → hp.get? b = some o → h₄.get? b = some o := fun b o hbe hbi hb => by
  rw [← hh₄]; exact Heap.get?_push_of_some _ (hs₃.extBut b o hbe (hs₂.extBut b o hbe (hs₁.extBut b o hbi hb)))
 have hit₄ : T h₄ := hT _ _ hit₁ fun o ho => by
  rw [← hh₄]; exact Heap.get?_push_of_some _ (hs₃.extBut _ o (Ne.symm hne) (hs₂.extBut _ o (Ne.symm hne) ho))
 rw [hsz]
 refine wpAny_bind ?_
 · refine wpAny_bind (wpAny_field he₄ rfl (x := .none) rfl (wpAny_pure ?_))
   refine wpAny_bind (wpAny_rule ?_)
   refine wpAny_bind (wpAny_field he₄ rfl (x := old) rfl ?_)
   refine wpAny_bind (wpAny_setField_rec he₄ (by simp) fun h₅ he₅ hs₅ => ?_)
   refine wpAny_bind ?_
   · refine wpAny_bind (wpAny_setField_rec he₅ (by simp) fun h₆ he₆ hs₆ => ?_)
     refine wpAny_setField_rec he₆ (by simp) fun h₇ he₇ hs₇ => ?_
     refine wpAny_bind (wpAny_letGo (wpAny_pure ⟨_, rfl, hQ h₇ he₇ ?_ ?_ ?_ ?_⟩))
     · exact hT _ _ hit₄ fun o ho => hs₇.extBut _ o (Ne.symm hne) (hs₆.extBut _ o (Ne.symm hne) (hs₅.extBut _ o (Ne.symm hne) ho))
     · exact hs₇.extBut _ _ (Nat.ne_of_gt hel) (hs₆.extBut _ _ (Nat.ne_of_gt hel) (hs₅.extBut _ _ (Nat.ne_of_gt hel) ht₄))
     · rw [hs₇.1, hs₆.1, hs₅.1, hz₄]
     · exact fun b o hbe hbi hb => hs₇.extBut b o hbe (hs₆.extBut b o hbe (hs₅.extBut b o hbe (hk₄ b o hbe hbi hb)))
theorem enum_new_tuple (l : Addr) (items : Array Value) (n : Nat) (dct : Option Addr) (sl : Array (Option Value)) :
 Meets (Builtin.«enumerate.__new__» ⟨[.type "enumerate", .ref l], []⟩) (fun _ R s => s.heap.get? l = some { cls := .type "tuple", dict := dct, data := .seq items n, slots := sl } ∧
  R (.ok (.ret (.ref (s.heap.push { cls := .type "tuple_iterator", data := .fields #[.ref l, .int 0 0] }).objs.size)))
   { s with heap := (s.heap.push { cls := .type "tuple_iterator", data := .fields #[.ref l, .int 0 0] }).push { cls := .type "enumerate", data := .fields #[.none, .bool false, .ref s.heap.objs.size, rawInt 0, .none, .none] } }) :=
 .of_wp fun prog w A R s h => by
  obtain ⟨hp, g, d, tk, os⟩ := s; obtain ⟨hl, h⟩ := h
  have hsub := sub_enumerate
  have hL : Heap.IsTuple (Shared.heap ⟨hp, g, d, tk, os⟩) l items := ⟨_, hl, rfl, n, rfl⟩
  wp_walk using wpAny_loadPart' hl
  refine wpAny_stack_any fun st => wpAny_pure ?_
  split
  · rename_i c _ _ _ _ _
    cases (c == Value.type _)
    · wp_walk using wpAny_loadPart' hl, wpAny_pyIter_tuple hL
      exact ⟨_, rfl, h⟩
    · wp_walk using wpAny_loadPart' hl, wpAny_pyIter_tuple hL
      exact ⟨_, rfl, h⟩
  · wp_walk using wpAny_loadPart' hl, wpAny_pyIter_tuple hL
    exact ⟨_, rfl, h⟩
theorem call_enum_tuple {Q} (hL : s.heap.IsTuple l items)
 (h : ∀ h', IsEnum h' (s.heap.objs.size + 1) s.heap.objs.size 0 .none → h'.IsTupleIter s.heap.objs.size l 0 → h'.objs.size = s.heap.objs.size + 2 →
  (∀ b o, s.heap.get? b = some o → h'.get? b = some o) → Q (.ref (s.heap.objs.size + 1)) { s with heap := h' }) :
 wpAny (model prog w) A (call (.type "enumerate") [.ref l]) Q E s := by
 obtain ⟨⟨c, dct, dt, sl⟩, hl, hc, n, hd⟩ := hL
 subst hc hd
 refine callType_new F.called_enumerate rfl (F.typeCall_enumerate_1 _) (F.newCall_enumerate_1 _) (fun obj => F.args_object_init_2 _ _) F.entry_enumerate_new
  (enum_new_tuple l _ n _ sl) ⟨hl, ?_⟩
 have hz : (s.heap.push { cls := .type "tuple_iterator", data := .fields #[.ref l, .int 0 0] }).objs.size = s.heap.objs.size + 1 := Heap.size_push ..
 rw [hz]
 have he := by
  have := Heap.get?_push_size (s.heap.push { cls := .type "tuple_iterator", data := .fields #[.ref l, .int 0 0] })
   (o := { cls := .type "enumerate", data := .fields #[.none, .bool false, .ref s.heap.objs.size, rawInt 0, .none, .none] }) rfl
  rw [hz] at this; exact this
 refine ⟨⟨_, he, rfl⟩, h _ he ⟨_, Heap.get?_push_of_some _ (Heap.get?_push_size _ rfl), rfl, rfl⟩ (by rw [Heap.size_push, hz]) fun b o x => Heap.get?_push_of_some _ (Heap.get?_push_of_some _ x)⟩
end
def Ite (Sq : Hp → List V → Prop) : It := ⟨fun i H => ∃ xs x, Sq H xs ∧ xs[i]? = some x, fun i H x H' => ∃ p v, H p = none ∧ x = .ref p ∧ (∀ xs, Sq H xs → xs[i]? = some v) ∧ H' = upd H p (.tup [.int i, v]), fun i H => ∃ xs, Sq H xs ∧ xs.length ≤ i⟩
section
variable {X : Cx} {pins : List (Addr × Obj)} {σ : St} {H : Hp} {s : Shared}
theorem Inv.turnedL {h'} {ch : List _} (I : Inv X pins σ H s) (k : ∀ b o, b ∉ ch → s.heap.get? b = some o → h'.get? b = some o) (hf : ∀ b ∈ ch, FpOk X pins H b) : Inv X pins σ H { s with heap := h', toks := t' } := by
 have nit : ∀ b u, H b = some u → b ∉ ch := fun b u e z => by rw [(hf b z).1] at e; cases e
 refine I.step (fun b hb => ?_) (fun b o _ _ hc e _ => k b o hc e) (fun b o _ _ hc e _ => ⟨_, k b o hc e⟩) (fun _ _ _ _ n => n)
  (fun b o hc e => ⟨o, k b o hc e⟩) (fun _ _ e => e) (fun _ _ _ e => e) (fun b ps e => ⟨#[], by rw [e]; simp⟩) (fun m hm => ?_) (fun b u e => ?_) I.bare (Nat.le_refl _)
 · obtain ⟨f0, f1, f2, f3, f4, f5⟩ := hf b hb
   exact ⟨f3, f1, f4, f5⟩
 · obtain ⟨o, es, ep, ho, r⟩ := hm
   exact ⟨o, es, ep, k _ o (fun z => (hf _ z).2.1 rfl) ho, r⟩
 · refine (I.hok b u e).stay (fun c v hc q => k c v ?_ q) fun _ q => q
   grind
def Own1 (i : Addr) (T : Heap → Prop) : Prop := ∀ h h', T h → (∀ o, h.get? i = some o → h'.get? i = some o) → T h'
structure ItK (P : Program) (w : World) (K : PySem.W.Frag) (Sq : Hp → List V → Prop) (l it : Addr) (T : Nat → Heap → Prop) : Prop where
 own : ∀ i, Own1 it (T i)
 obj : ∀ i h, T i h → ∃ o, h.get? it = some o ∧ ∀ v, o.data ≠ .cell v
 inj : ∀ (X : Cx) pins σ H s xs ys, X.K = K → Inv X pins σ H s → Sq H xs → Sq H ys → xs = ys
 nx : ∀ (X : Cx), X.K = K → ∀ pins σ H s xs x i, Inv X pins σ H s → Sq H xs → xs[i]? = some x → ∃ u, RelV x u ∧ ∀ h, (∀ o, s.heap.get? l = some o → h.get? l = some o) → T i h → ∀ (A : Around) (E : Value → Shared → Prop) (Q' : Value → Shared → Prop),
  (∀ h', T (i + 1) h' → Heap.SameBut it h h' → Q' u { s with heap := h' }) → wpAny (model P w) A (Builtin.SmallTypes.nextOf (.ref it)) Q' E { s with heap := h }
 en : ∀ (X : Cx), X.K = K → ∀ pins σ H s xs i, Inv X pins σ H s → Sq H xs → xs.length ≤ i → ∀ h, (∀ o, s.heap.get? l = some o → h.get? l = some o) → T i h → ∀ (A : Around) (E : Value → Shared → Prop) (Q' : Value → Shared → Prop), A.handled = none →
  (∀ h' e, Heap.ExtBut it h h' → (∃ o, h'.get? e = some o ∧ o.cls = .type "StopIteration") → E (.ref e) { s with heap := h' }) → wpAny (model P w) A (Builtin.SmallTypes.nextOf (.ref it)) Q' E { s with heap := h }
theorem itk_of {P : Program} {w : World} {K : PySem.W.Frag} {S : Hp → List V → Prop} {l it : Addr} {T : Nat → Heap → Prop} {IsS : Heap → Array Value → Prop} (own : ∀ i, Own1 it (T i)) (obj : ∀ i h, T i h → ∃ o, h.get? it = some o ∧ ∀ v, o.data ≠ .cell v)
 (inj : ∀ (X : Cx) pins σ H s xs ys, X.K = K → Inv X pins σ H s → S H xs → S H ys → xs = ys)
 (get : ∀ (X : Cx) pins σ H s xs, X.K = K → Inv X pins σ H s → S H xs → ∃ its : List Value, Vals xs its ∧ ∀ h, (∀ o, s.heap.get? l = some o → h.get? l = some o) → IsS h its.toArray)
 (nx : ∀ (s : Shared) i (its : Array Value) (A : Around) (E Q : Value → Shared → Prop), T i s.heap → IsS s.heap its → (match its[i]? with
  | some x => ∀ h', T (i + 1) h' → Heap.SameBut it s.heap h' → Q x { s with heap := h' }
  | none => A.handled = none ∧ ∀ h' e, Heap.ExtBut it s.heap h' → (∃ o, h'.get? e = some o ∧ o.cls = .type "StopIteration") → E (.ref e) { s with heap := h' }) → wpAny (model P w) A (Builtin.SmallTypes.nextOf (.ref it)) Q E s) : ItK P w K S l it T where
 own := own
 obj := obj
 inj := inj
 nx := by
  intro X hK pins σ H s xs x i I hq hx
  obtain ⟨its, rv, ht⟩ := get X _ σ H s xs hK I hq
  obtain ⟨u, hu, ru⟩ := rv.get hx
  refine ⟨u, ru, fun h hl hit A E Q' hQ => nx _ i _ A E Q' hit (ht h hl) ?_⟩
  simp_all
 en := by
  intro X hK pins σ H s xs i I hq hx h hl hit A E Q' hA hE
  obtain ⟨its, rv, ht⟩ := get X _ σ H s xs hK I hq
  have hln := rv.length
  refine nx _ i _ A E Q' hit (ht h hl) ?_
  grind
theorem itk_tup {K} (l it) : ItK P w K (fun H xs => SqT K H l xs) l it fun i h => h.IsTupleIter it l i :=
 itk_of (IsS := fun h its => h.IsTuple l its) (fun i h h' ⟨o, e, r⟩ k => ⟨o, k o e, r⟩) (fun i h ⟨o, e, c, d⟩ => ⟨o, e, fun v z => by rw [d] at z; cases z⟩)
  (fun X pins σ H s xs ys hK I h1 h2 => by subst hK; exact I.tuple_inj h1 h2) (fun X pins σ H s xs hK I hq => by
   subst hK
   obtain ⟨its, rv, ⟨o, e, r⟩, hz⟩ := I.tuple hq
   exact ⟨its, rv, fun h k => ⟨o, k o e, r⟩⟩) fun s i its A E Q hit hl h => nextOf_tuple hit hl h
theorem itk_lst {K} (l it) : ItK P w K (fun H xs => SqL K H l xs) l it fun i h => h.IsListIter it l i :=
 itk_of (IsS := fun h its => h.IsList l its) (fun i h h' ⟨o, e, r⟩ k => ⟨o, k o e, r⟩) (fun i h ⟨o, e, c, d⟩ => ⟨o, e, fun v z => by rw [d] at z; cases z⟩)
  (fun X pins σ H s xs ys hK I h1 h2 => by subst hK; exact I.list_inj h1 h2) (fun X pins σ H s xs hK I hq => by
   subst hK
   obtain ⟨its, rv, ht, hz⟩ := I.list hq
   obtain ⟨o, e, r⟩ := ht.isList
   exact ⟨its, rv, fun h k => ⟨o, k o e, r⟩⟩) fun s i its A E Q hit hl h => by
  cases hx : its[i]? with
  | some x => rw [hx] at h; exact wpAny_nextOf_list_item hit hl hx h
  | none => rw [hx] at h; exact wpAny_nextOf_list_end h.1 hit hl hx h.2
theorem turn_enum {P : Program} {w : World} {K : PySem.W.Frag} {elts : List Expr} {x1} {pt : Pos} {it e l : Addr} {Sq : Hp → List V → Prop} {T : Nat → Heap → Prop} (hne : e ≠ it) (k : ItK P w K Sq l it T) :
 Turn P w K (.Tuple elts x1 pt) (Ite Sq) [e, it] e (fun i h => T i h ∧ ∃ old, IsEnum h e it i old) where
 mem := by simp
 obj := fun i h st b hb => by
  obtain ⟨t1, old, e2⟩ := st
  rcases List.mem_cons.mp hb with z | z
  · grind
  · have z' : b = it := List.mem_singleton.mp z
    rw [z']; exact k.obj _ _ t1
 keep := fun i h h' st q => by
  obtain ⟨t1, old, e2⟩ := st
  exact ⟨k.own _ _ _ t1 fun o => q it (List.mem_cons_of_mem _ (List.mem_singleton.mpr rfl)) o, old, q e List.mem_cons_self _ e2⟩
 item := by
  intro X hP hw hK hc i pins s σ H E I hf st hg
  obtain ⟨xs, x, hq, hx⟩ := hg
  obtain ⟨t1, old, e2⟩ := st
  obtain ⟨u, ru, hn⟩ := k.nx X hK pins σ H s xs x i I hq hx
  have hTy : s.TypeIs (.ref e) "enumerate" := ⟨_, e2, rfl⟩
  unfold pyNext
  refine wpAny_bind (wpAny_attempt (wpAny_callSpecial?_slot (name := Str.ofString "__next__") hTy F.slot_enumerate_next
   (wpAny_call_entry F.slot_enumerate_next hTy F.entry_enumerate_next
    (enum_step (T := T (i + 1)) e2 hne (k.own _) (fun Q' h => hn _ (fun _ e => e) t1 _ _ Q' h) fun h' a b c d kp => wpAny_pure ?_) (F.args_enumerate_next_1 _))))
  refine ⟨_, rfl, wpAny_letOwnedTupleGo_enum a fun h2 a2 hs2 => ?_⟩
  have pe : s.heap.objs.size ≠ e := Nat.ne_of_gt (Heap.lt_size e2)
  have k2 : ∀ b o, b ∉ [e, it] → s.heap.get? b = some o → h2.get? b = some o := fun b o hb q => by
   have hbe : b ≠ e := fun z => hb (by simp_all)
   have hbi : b ≠ it := fun z => hb (by grind)
   exact (hs2.2 b hbe).trans (kp b o hbe hbi q)
  have I2 : Inv X pins σ H { s with heap := h2, toks := s.toks + 1 } := I.turnedL k2 hf
  have f := I.fpOk (Nat.le_refl _) (I.hok.fresh (Nat.le_refl _))
  have hpt : h2.get? s.heap.objs.size = some { cls := .type "tuple", data := .seq #[.int i s.toks, u] } := (hs2.2 _ pe).trans c
  have I3 := I2.track (o := .tup [.int i, x]) f ⟨(by show 2 ≤ sizeLine; decide), [.int i s.toks, u], .cons ⟨s.toks, rfl⟩ (.cons ru .nil), ⟨_, hpt, rfl, 0, rfl⟩⟩
  refine ⟨.ref s.heap.objs.size, _, I3, rfl, ⟨s.heap.objs.size, x, f.1, rfl, fun ys hy => by rw [k.inj X pins σ H s ys xs hK I hy hq]; exact hx, rfl⟩, ⟨k.own _ _ _ b fun o q => (hs2.2 _ (Ne.symm hne)).trans q, u, ?_⟩, fun b hb => ?_⟩
  · have a2' : IsEnum h2 e it ((i : Int) + 1) u := a2
    have ei : (((i + 1 : Nat)) : Int) = (i : Int) + 1 := by omega
    show IsEnum h2 e it (((i + 1 : Nat)) : Int) u
    rw [ei]; exact a2'
  · have hlt : b < s.heap.objs.size := by
     rcases List.mem_cons.mp hb with z | z
     · rw [z]; exact Heap.lt_size e2
     · have z' : b = it := List.mem_singleton.mp z
       rw [z']
       obtain ⟨o, q, _⟩ := k.obj _ _ t1
       exact Heap.lt_size q
    rw [upd_ne (Nat.ne_of_lt hlt)]
    exact (hf b hb).1
 done := by
  intro X hP hw hK hc i pins s σ H E I hf st hg
  obtain ⟨xs, hq, hx⟩ := hg
  obtain ⟨t1, old, e2⟩ := st
  have hTy : s.TypeIs (.ref e) "enumerate" := ⟨_, e2, rfl⟩
  refine wpAny_bind (wpAny_attempt (wpAny_callSpecial?_slot (name := Str.ofString "__next__") hTy F.slot_enumerate_next
   (wpAny_call_entry F.slot_enumerate_next hTy F.entry_enumerate_next ?_ (F.args_enumerate_next_1 _))))
  show wpAny _ _ (field (.ref e) 2 >>= _) _ _ _
  refine wpAny_bind (wpAny_field e2 rfl (x := .ref it) rfl ?_)
  refine wpAny_bind (k.en X hK pins σ H s xs i I hq hx _ (fun _ e => e) t1 _ _ _ (I.ok.hd hc) fun h' x he' hx' => ?_)
  obtain ⟨o, ho, hc⟩ := hx'
  refine wpAny_bind (wpAny_isInstance (T := "StopIteration") (b := true) ⟨o, ho, hc⟩ isSubtype_stop ?_)
  refine wpAny_pure ⟨rfl, ?_⟩
  exact I.turnedL (t' := s.toks) (ch := [e, it]) (fun b o hb q => he' b o (fun z => hb (by grind)) q) hf
 self := fun A i s Q E st h => by
  obtain ⟨t1, old, e2⟩ := st
  exact wpAny_pyIter_enum e2 h
def SqB (K : PySem.W.Frag) (b : Bool) (H : Hp) (a : Addr) (xs : List V) : Prop := if b then SqT K H a xs else SqL K H a xs
def iEnum (b : Bool) (K : PySem.W.Frag) (ta : TA) : TI := fun σ H R => ta σ H fun vs H1 => ∃ a, vs = [.ref a] ∧ (∃ xs, SqB K b H1 a xs) ∧ R (Ite fun H xs => SqB K b H a xs) H1
def itB (b : Bool) (l it : Addr) (i : Nat) (h : Heap) : Prop := if b then h.IsTupleIter it l i else h.IsListIter it l i
theorem itk_b {P : Program} {w : World} {K : PySem.W.Frag} (b : Bool) (l it : Addr) : ItK P w K (fun H xs => SqB K b H l xs) l it (itB b l it) := by
 cases b
 · exact itk_lst l it
 · exact itk_tup l it
end
section
variable {X : Cx}
theorem enum_fp {σ : St} {H} {s} (I : Inv X pins σ H s) : ∀ b ∈ [s.heap.objs.size + 1, s.heap.objs.size], FpOk X pins H b := fun b hb => by
 rcases List.mem_cons.mp hb with z | z
 · rw [z]; exact I.fpOk (Nat.le_succ _) (I.hok.fresh (Nat.le_succ _))
 · have z' := List.mem_singleton.mp z
   rw [z']; exact I.fpOk (Nat.le_refl _) (I.hok.fresh (Nat.le_refl _))
theorem pi_enum (b : Bool) {elts : List Expr} {x1} {pt : Pos} {a : Expr} {ta : TA} {p pos : Pos} (hg : Gl X "enumerate") (hm : X.mg "enumerate" = none) (ha : PA X [a] ta) (hs : starEach [a] X.env = [(false, eval a X.env)]) :
 PI X (.Tuple elts x1 pt) (.Call (.Name "enumerate" p) [a] [] pos) (iEnum b X.K ta) := by
 intro pins s σ H R I h
 refine Call_ (ld_blt I hg hm boot_enumerate (PyProof.Rows.callWith_type1 (thn (ha pos pins s σ H _ I h) fun us s1 ⟨vs, H1, I1, r1, q1⟩ => ?_) hs rfl))
 obtain ⟨t, e, ⟨xs, hq⟩, q⟩ := q1
 subst e
 obtain ⟨u, rfl, ru⟩ := r1.one
 cases ru
 have go : ∀ h', IsEnum h' (s1.heap.objs.size + 1) s1.heap.objs.size 0 .none → itB b t s1.heap.objs.size 0 h' → (∀ b o, s1.heap.get? b = some o → h'.get? b = some o) → wpAny (model X.prog X.w) X.A (pyIter (.ref (s1.heap.objs.size + 1))) (PIE X pins σ (.Tuple elts x1 pt) R) X.xe { s1 with heap := h' } := fun h' hen hit hk =>
  wpAny_pyIter_enum hen ⟨_, _, _, _, H1, rfl, I1.kept (t' := s1.toks) hk, turn_enum (Nat.succ_ne_self _) (itk_b b t _), ⟨hit, _, hen⟩, enum_fp I1, q⟩
 cases b
 · obtain ⟨its, rv, ht, hz⟩ := I1.list hq
   exact call_enumerate_list ht.isList fun h' a b _ c => go h' a b c
 · obtain ⟨its, rv, ht, hz⟩ := I1.tuple hq
   exact call_enum_tuple ht fun h' a b _ c => go h' a b c
end
end L2
end
section
namespace L2
open PySem PySem.Spec PyProof.Rows SeqAt
inductive T where
 | non | bl (b : Bool) | int (i : Int) | str (x : Str) | tup (xs : List T) | lst (xs : List T) | ins (q : Str)
mutual
def eqT : T → T → Bool
 | .non, .non => true
 | .bl a, .bl b => a == b
 | .bl a, .int i => (if a then 1 else 0) == i
 | .int i, .bl b => i == (if b then 1 else 0)
 | .int i, .int j => i == j
 | .str a, .str b => a == b
 | .tup xs, .tup ys => eqTs xs ys
 | .lst xs, .lst ys => eqTs xs ys
 | .ins a, .ins b => a == b
 | _, _ => false
def eqTs : List T → List T → Bool
 | [], [] => true
 | x :: xs, y :: ys => eqT x y && eqTs xs ys
 | _, _ => false
end
mutual
theorem eqT_refl : ∀ t, eqT t t = true
 | .non => rfl
 | .bl b => beq_self_eq_true b
 | .int i => beq_self_eq_true i
 | .str x => beq_self_eq_true x
 | .tup xs => eqTs_refl xs
 | .lst xs => eqTs_refl xs
 | .ins q => beq_self_eq_true q
theorem eqTs_refl : ∀ ts, eqTs ts ts = true
 | [] => rfl
 | t :: ts => Bool.and_eq_true_iff.mpr ⟨eqT_refl t, eqTs_refl ts⟩
end
mutual
def dep : T → Nat
 | .tup xs => deps xs + 1
 | .lst xs => deps xs + 1
 | .ins _ => 61
 | _ => 0
def deps : List T → Nat
 | [] => 0
 | x :: xs => max (dep x) (deps xs)
end
theorem eqTs_all : ∀ (xs ys : List T), eqTs xs ys = ((List.range (min xs.length ys.length)).all (fun j => match xs[j]?, ys[j]? with | some x, some y => eqT x y | _, _ => true) && xs.length == ys.length)
 | [], [] => rfl
 | [], y :: ys => rfl
 | x :: xs, [] => rfl
 | x :: xs, y :: ys => by
  rw [eqTs, eqTs_all xs ys, List.length_cons, List.length_cons, Nat.add_min_add_right, List.range_succ_eq_map, List.all_cons]
  simp only [List.all_map]
  rw [Bool.and_assoc]
  congr 2
  simp
theorem dep_get : ∀ {xs} {j} (h : j < xs.length), dep xs[j] ≤ deps xs
 | [], j, h => by simp at h
 | x :: xs, 0, h => by simp only [List.getElem_cons_zero, deps]; omega
 | x :: xs, j + 1, h => by
  have := dep_get (by simpa using h)
  simp only [List.getElem_cons_succ, deps]
  omega
end L2
end
section
namespace L2
structure Has (P : Program) (w : World) (K : PySem.W.Frag) (mg : Str → Option Value) (base : Heap) (k : Nat) (x : Str) (ps : List Str) (sp : Sp) : Prop where
 ex : ∃ f fd, FnOk P w K mg base CX0 k f fd ps sp ∧ mg x = some (.ref f) ∧ PySem.W.keepIn K (.ref f) = true ∧ Binds K fd ps []
structure Df (K : PySem.W.Frag) (mg : Str → Option Value) (x : Str) (st : Stmt) : Prop where
 ex : ∃ f fd, Fun K x x st f fd ∧ mg x = some (.ref f)
section
variable {P : Program} {w : World} {K : PySem.W.Frag} {mg : Str → Option Value} {base : Heap}
theorem Df.has {st} {N ps} {k} {sp} (F : Df K mg x st) (S : FnScope N ps (defScope st))
 (hb : ∀ (kV doc pm : Value) (an : Option _) (cdv ct : Value) (us : List _), us.length = ps.length → bindArgs (PySem.W.fnOf x x (defArgs st) (defBody st) (defScope st) .none kV doc pm an cdv ct) ⟨us, []⟩ = pure (ps.zip us))
 (len : ∀ vs H Q E, sp vs H Q E → vs.length = ps.length)
 (hbody : ∀ (f : Addr) (cdv : Value) (A : Around) (outer : List _) (s : Shared) (H : Hp) (vs : List V) (Q : VK) (E : XK), Room k (A.deeper (envOfC x (defScope st) s.heap.objs.size f cdv)) → sp vs H Q E →
  ∃ t, PSs (cxOf CX0 P w K mg base N x (defScope st) f cdv A outer s H E).nox (defBody st) t ∧ t { nx := fun _ H' => Q .non H', rt := Q } (start N vs) H) : Has P w K mg base (k + 1) x ps sp := by
 obtain ⟨f, fd, F, m⟩ := F.ex
 exact ⟨f, fd, F.ok S len (hbody f), m, F.kp, F.binds hb⟩
end
section
variable {X : Cx} {e : Expr} {es : List Expr} {t : TA} {p pos : Pos}
theorem pe_own {sp} (h : Has X.prog X.w X.K X.mg X.base k x ps sp) (hr : Room k X.A) (hg : Gl X x) (ha : PA X (e :: es) t) (hdb : (x == "__debug__") = false := by decide)
 (he : starEach (e :: es) X.env = (false, eval e X.env) :: starEach es X.env := by rfl) (hpl : (backTo pos (starEach es X.env)).any (·.1) = false := by rfl) : PE X (.Call (.Name x p) (e :: es) [] pos) (tCall sp [] E0 t) := by
 obtain ⟨f, fd, F, hm, hk, hb⟩ := h.ex
 exact pe_call F hr hg hm hk hb .nil pass0 ha hdb he hpl
end
section
variable {X : Cx} {K : PySem.W.Frag}
def rLenS (K : PySem.W.Frag) : List V → Hp → VK → Prop := fun xs H Q => ∃ p ys, xs = [.ref p] ∧ (SqL K H p ys ∨ SqT K H p ys) ∧ Q (.int ys.length) H
theorem lenK_seq (h : X.K = K) : CallR X (.builtin "len") (rLenS K) := by subst h; exact call_len_seq
def rListOf (K : PySem.W.Frag) : List V → Hp → VK → Prop := fun xs H Q => ∃ p ys, xs = [.ref p] ∧ (SqL K H p ys ∨ SqT K H p ys) ∧ ∀ l, H l = none → Q (.ref l) (upd H l (.lst ys))
theorem listK_of (h : X.K = K) : CallR X (.type "list") (rListOf K) := by subst h; exact call_list_of
def rTupleOf (K : PySem.W.Frag) : List V → Hp → VK → Prop := fun xs H Q => ∃ p ys, xs = [.ref p] ∧ ((SqL K H p ys ∧ ∀ l, H l = none → Q (.ref l) (upd H l (.tup ys))) ∨ (SqT K H p ys ∧ Q (.ref p) H))
theorem tupleK_of (h : X.K = K) : CallR X (.type "tuple") (rTupleOf K) := by subst h; exact call_tuple_of
theorem inK_seq (h : X.K = K) : OpR X (compareOp .In) (rIn K false) := by subst h; exact op_in_seq
theorem notInK_seq (h : X.K = K) : OpR X (compareOp .NotIn) (rIn K true) := by subst h; exact op_notIn_seq
variable {o e : Expr} {es : List Expr} {to : TE} {t : TA} {name : Str} {apos cpos : Pos} {Ty id : String} {r : V → List V → Hp → VK → Prop}
theorem peK_bm0 (h : X.K = K) (pa : PlainAttrs Ty) (slot : Slot Ty name id) (hty : typeOf (.builtin id) = pure (.type "method_descriptor")) (hm : MtR X id r) (ho : PE X o to)
 (hbase : attributeBase o name X.env (eval o X.env) = eval o X.env := by rfl) (hline : (apos.endLine == cpos.line) = true := by rfl) : PE X (.Call (.Attribute o name apos) [] [] cpos) (tBM0 K Ty r to) := by
 subst h; exact pe_bm0 pa slot hty hm ho hbase hline
theorem peK_bm (h : X.K = K) (pa : PlainAttrs Ty) (slot : Slot Ty name id) (hty : typeOf (.builtin id) = pure (.type "method_descriptor")) (hm : MtR X id r) (ho : PE X o to) (ha : PA X (e :: es) t)
 (hbase : attributeBase o name X.env (eval o X.env) = eval o X.env := by rfl)
 (hfew : ((backTo cpos (starEach (e :: es) X.env)).all (fun x => !x.1) && (backToKw cpos (keywordEach [] X.env)).all (fun x => x.1.isSome)
  && decide ((e :: es).length + ([] : List Keyword).length + (if ([] : List Keyword).isEmpty then 0 else 1) < 30)) = true := by rfl)
 (hline : (apos.endLine == cpos.line) = true := by rfl) (hs : starEach (e :: es) X.env = (false, eval e X.env) :: starEach es X.env := by rfl) (hplain : (backTo cpos (starEach es X.env)).any (·.1) = false := by rfl) :
 PE X (.Call (.Attribute o name apos) (e :: es) [] cpos) (tBM K Ty r to t) := by
 subst h; exact pe_bm pa slot hty hm ho ha hbase hfew hline hs hplain
end
end L2
end
section
namespace L2
def TabO (P : Addr) : HO := .ext fun h => ∃ ps : Array Value, h.get? P = some (PySem.W.tabObj ps) ∧ TriplesOk ps.toList
theorem tabO_ok {h} {P} {ps} (e : h.get? P = some (PySem.W.tabObj ps)) (t : TriplesOk ps.toList) : ObjOk Pg w H h P (TabO P) :=
 ⟨⟨ps, e, t⟩, ⟨_, e⟩, fun h1 h2 ⟨ps, a, b⟩ k => ⟨ps, k _ a, b⟩⟩
theorem upd_self {o} (h : H a = some o) : upd H a o = H := by
 funext b
 unfold upd
 grind
structure Bm (mg : Str → Option Value) (base : Heap) : Prop where
 ex : ∃ bm ob, mg "__builtins__" = some (.ref bm) ∧ bm ≠ builtinsNs ∧ base.get? bm = some ob ∧ ob.cls = .type "module" ∧ ob.dict = some builtinsNs ∧ ob.data = .plain
section
variable {X : Cx} {pins : List (Addr × Obj)} {σ : St} {H : Hp} {s : Shared}
theorem Inv.grown (I : Inv X pins σ H s) {P} {ps} {h'} {tk} (hP : H P = some (TabO P)) (k : ∀ b o, b ≠ P → s.heap.get? b = some o → h'.get? b = some o) (e : h'.get? P = some (PySem.W.tabObj ps)) (t : TriplesOk ps.toList) :
 Inv X pins σ H { s with heap := h', toks := tk } := by
 have z := I.write (t' := tk) (by rw [hP]; trivial) (.inl rfl) k ⟨_, e⟩ (tabO_ok e t)
 rw [upd_self hP] at z
 exact z
theorem Inv.gens (I : Inv X pins σ H s) {s'} (hh : s'.heap = s.heap) (ho : s'.os = s.os) (hb : AllBare s'.gens) (hz : s.gens.size ≤ s'.gens.size) : Inv X pins σ H s' :=
 I.call' (ch := []) ⟨ho, hz⟩ (by rw [hh]; exact Un.refl) (by rw [hh]; exact I.hok) hb fun b hb => absurd hb (by simp)
theorem bare_set (hb : AllBare s.gens) (hx : x.bare = true) : AllBare (s.setGen g x).gens := by
 intro y hy
 obtain ⟨i, hi, rfl⟩ := Array.mem_iff_getElem.mp hy
 by_cases e : i = g
 · subst e
   simp [Shared.setGen, hx]
 · have hs := by simpa [Shared.setGen] using hi
   have q : (s.setGen g x).gens[i]? = s.gens[i]? := by simp [Shared.setGen, Ne.symm e]
   rw [Array.getElem?_eq_getElem hi, Array.getElem?_eq_getElem hs] at q
   rw [Option.some.inj q]
   exact hb _ (Array.getElem_mem hs)
theorem size_set : (s.setGen g x).gens.size = s.gens.size := by simp [Shared.setGen]
theorem gen_code {Q} {c P} {pos} {q} {sc} (I : Inv X pins σ H s) (hc : X.env.code = .ref c) (hd : PySem.W.CodeHd X.base c P) (ht : H P = some (TabO P))
 (hQ : ∀ code h' tk, Inv X pins σ H { s with heap := h', toks := tk } → (∀ b o, b ≠ P → s.heap.get? b = some o → h'.get? b = some o) → Q code { s with heap := h', toks := tk }) : wpAny M A (genexprCode X.env pos q sc) Q E s := by
 obtain ⟨⟨ps, e, t⟩, _, _⟩ := I.hok P _ ht
 have hd' := hd.keeps I.bk
 cases hf : codeAmong _ _ with
 | some cv => exact wpAny_genexprCode_hit hc (hd'.code e t) hf (hQ cv _ _ I fun _ _ _ e => e)
 | none =>
  refine wpAny_genexprCodeX hc (hd'.code e t) (hd'.tab e) hf fun c' h' tk hx _ _ hcode _ htab _ => ?_
  obtain ⟨_, _, _, _, _, _, _, _, _, op, _, _, _, _, _, _, _, hop, hpd, htr, _⟩ := hcode
  exact hQ _ h' tk (I.grown ht (fun b o hb e => hx b o hb e) htab.2 htr) fun b o hb e => hx b o hb e
theorem gen_blt {Q} (I : Inv X pins σ H s) (B : Bm X.mg X.base) (h : Q builtinsNs s) : wpAny M A (builtinsFor X.env.globals X.env.builtins) Q E s := by
 obtain ⟨bm, ob, e1, e2, e3, e4, e5, e6⟩ := B.ex
 rw [I.ok.glob]
 exact wpAny_builtinsFor (I.mod.glob.keeps I.bk) e1 e2 (I.bk _ _ e3) e4 e5 e6 h
end
def cxGen (X : Cx) (N' : List Str) (elt : Expr) (gs : List Comprehension) (scope : Scope) (pos : Pos) (cl : List (Str × Addr)) (C : Addr) (code : Value) (it : Addr) (ex : List Addr) (s : Shared) (H : Hp) : Cx where
 prog := X.prog
 w := X.w
 K := X.K
 mg := X.mg
 base := X.base
 A := X.A.in1.in1.over (.compLoop (.GeneratorExp elt gs scope pos) 0 (.ref it) .none (genEnv scope cl C code builtinsNs X.env)) []
 N := N'
 s₀ := s
 H₀ := H
 env := genEnv scope cl C code builtinsNs X.env
 outer := X.stack
 stack := genEnv scope cl C code builtinsNs X.env :: X.stack
 ex := ex
 fn := fun _ => false
 calm := X.calm
 pn := []
 xe := fun _ _ => False
section
variable {X : Cx} {pins : List (Addr × Obj)} {σ : St} {H H' : Hp} {s : Shared}
theorem gen_inv (I : Inv X pins σ H s) {elt : Expr} {gs : List Comprehension} {scope : Scope} {pos : Pos} {N' : List Str} {ix : List (Option Nat)} {cl : List (Str × Addr)} {ex : List Addr} {code : Value} {it : Addr} {h' : Heap} {tk : Nat} {g' : Array GenState} (hok : compOk X.env.scope X.N scope N' ix = true)
 (hc1 : ∀ x c, cl.lookup x = some c → X.env.cells.lookup x = some c) (hc2 : ∀ x, (x, NameKind.free) ∈ scope.names → (cl.lookup x).isSome = true) (hex : ∀ b ∈ ex, FpOk X pins H b ∧ b < s.heap.objs.size)
 {mC : Str → Option Value} (hns : h'.Ns s.heap.objs.size mC) (old : ∀ b o, s.heap.get? b = some o → h'.get? b = some o) (hg : AllBare g') :
 Inv (cxGen X N' elt gs scope pos cl s.heap.objs.size code it ex { s with gens := g' } H) [] (pick ix σ) H { s with heap := h', gens := g', toks := tk } := by
 obtain ⟨hk, _, nocell⟩ := compOk_is hok
 refine ⟨⟨I.ok.mod, hk, I.ok.glob, rfl, Nat.le_refl _, fun x y c e1 e2 => I.ok.inj x y c (hc1 x c e1) (hc1 y c e2), fun x hx => ?_, fun x c z => (nomatch z), I.ok.hd, ?_, .inr ⟨rfl, rfl⟩, fun b hb => ?_, I.bs, Nat.le_trans I.ok.bsz I.sz, fun b o e hb => ?_, fun b hb => I.off (hex b hb).1, I.stack, I.stkFree⟩,
  ⟨rfl, Nat.le_refl _⟩, hg, Un.kept old, ⟨_, hns, fun i x v e1 e2 e3 => ?_⟩, fun x c e => ?_, I.hok.fresh (Nat.le_refl _), fun x c e => I.freeC x c (hc1 x c e), fun p hp => (nomatch hp), I.hok.kept old, ?_⟩
 · refine Option.isSome_iff_exists.mp (hc2 x ?_)
   rcases hx with z | z
   · exact absurd rfl (nocell _ (PySem.mem_of_lookup (show scope.names.lookup x = some .cell from z)))
   · exact PySem.mem_of_lookup (show scope.names.lookup x = some .free from z)
 · show pushEnvs [_] X.A.frames = _
   rw [I.ok.frames]
   rfl
 · exact ⟨Nat.ne_of_lt (hex b hb).2, fun x c e => (hex b hb).1.2.2.2.2.1 x c (hc1 x c e)⟩
 · rcases (hex b hb).1.2.2.2.1 with z | z
   · exact I.ok.noex b o e z
   · exact absurd (Nat.lt_of_lt_of_le (Nat.lt_of_lt_of_le (Heap.lt_size e) I.ok.bsz) z) (Nat.lt_irrefl _)
 · obtain ⟨u, r, hf, c, hc, z⟩ := pick_loc I hok hc1 hc2 old e1 e2
   exact ⟨u, r, .inr ⟨.inr hf, c, hc, z⟩⟩
 · obtain ⟨v, o, ho', hd⟩ := I.cell x c (hc1 x c e)
   exact ⟨v, o, old _ o ho', hd⟩
 · unfold compOk at hok
   rw [pick_len]
   exact slotOk_len (Bool.and_eq_true_iff.mp hok).2
end
def GenW (d : Bool) (J : It) (σc : St) (g : TG) (tt : TT) (te : TE) (Q : VK) (H1 : Hp) : Prop :=
 ∃ W : Nat → Nat → Hp → Prop, (∃ m, W 0 m H1) ∧ ∀ i m H, W i m H →
  (J.stop i H ∧ Q (.bl d) H) ∨
  (J.go i H ∧ ∃ N : Hp → Prop, (∀ H', N H' → ∃ m', m' < m ∧ W (i + 1) m' H') ∧ ∀ x H2, J.yld i H x H2 → g x σc H2 fun σ2 H3 => Sub σc σ2 ∧ tt σ2 H3 fun ok H4 =>
   if ok = true then te σ2 H4 fun y H5 => ∃ b, y = .bl b ∧ (if b = d then N H5 else Q (.bl b) H5) else N H4)
def tGen (d : Bool) (P : Addr) (ix : List (Option Nat)) (wi : TI) (g : TG) (tt : TT) (te : TE) : TE := fun σ H Q => wi σ H fun J H1 => H1 P = some (TabO P) ∧ GenW d J (pick ix σ) g tt te Q H1
def GP (Xc : Cx) (pg : List (Addr × Obj)) (σc : St) (d : Bool) (Q : VK) : Nat → Shared → Shared → Prop := fun _ _ s₁ => ∃ H, Inv Xc pg σc H s₁ ∧ Q (.bl d) H
def GR (Xc : Cx) (pg : List (Addr × Obj)) (σc : St) (d : Bool) (Q : VK) : GenEnd := fun n s₀ r s₁ => r = .ok .next ∧ GP Xc pg σc d Q n s₀ s₁
def GY (Xc : Cx) (pg : List (Addr × Obj)) (σc : St) (d : Bool) (Q : VK) : Protocol := fun n s₀ v s kap => ∃ b H, v = .bool b ∧ Inv Xc pg σc H s ∧
 (b = d → ∀ s'', Inv Xc pg σc H s'' → s''.heap = s.heap → kap (.send .none) s'') ∧ (b ≠ d → Q (.bl b) H)
section
variable {Xc : Cx} {pg : List (Addr × Obj)} {σc : St} {d : Bool} {Q : VK} {J : It} {fp : List Addr} {it : Addr} {tn : Nat → Heap → Prop} {elt target iter : Expr} {ifs : List Expr} {scope : Scope} {pos : Pos} {g : TG} {tt : TT} {te : TE} {A1 : Around}
 {W : Nat → Nat → Hp → Prop}
theorem gen_seg (T : Turn Xc.prog Xc.w Xc.K target J fp it tn) (xA : Xc.A = A1.over (.compLoop (.GeneratorExp elt [⟨target, iter, ifs, 0⟩] scope pos) 0 (.ref it) .none Xc.env) []) (xc : Xc.calm = true) (xx : Xc.xe = fun _ _ => False) (hco : Xc.env.scope.isCoroutine = false)
 (hg : PG Xc target g) (hf : PF Xc ifs tt) (he : PE Xc elt te) (stat : ∀ {H' : Hp}, (∀ b ∈ fp, H' b = none) → ∀ b ∈ fp, FpOk Xc pg H' b)
 (turn : ∀ i m H, W i m H → (J.stop i H ∧ Q (.bl d) H) ∨
  (J.go i H ∧ ∃ N : Hp → Prop, (∀ H', N H' → ∃ m', m' < m ∧ W (i + 1) m' H') ∧ ∀ x H2, J.yld i H x H2 → g x σc H2 fun σ2 H3 => Sub σc σ2 ∧ tt σ2 H3 fun ok H4 =>
   if ok = true then te σ2 H4 fun y H5 => ∃ b, y = .bl b ∧ (if b = d then N H5 else Q (.bl b) H5) else N H4)) :
 ∀ (m n : Nat), m < n → ∀ (i : Nat) (H : Hp) (s s₀ : Shared), W i m H → Inv Xc pg σc H s → tn i s.heap → (∀ b ∈ fp, H b = none) →
  Seg (model Xc.prog Xc.w) A1 (GR Xc pg σc d Q) (GY Xc pg σc d Q) n s₀ (.compLoop (.GeneratorExp elt [⟨target, iter, ifs, 0⟩] scope pos) 0 (.ref it) .none Xc.env)
   ((model Xc.prog Xc.w).den (.compLoop (.GeneratorExp elt [⟨target, iter, ifs, 0⟩] scope pos) 0 (.ref it) .none Xc.env)) [] s := by
 intro m
 induction m using Nat.strongRecOn with
 | ind m ih =>
  intro n hmn i H s s₀ w I st fr
  show Seg _ A1 _ _ _ s₀ _ ((compTurn (.GeneratorExp elt [⟨target, iter, ifs, 0⟩] scope pos) 0 (.ref it) .none Xc.env).onRaise (leaving Xc.env)) [] s
  rw [compTurn_gen, Sem.onRaise_eq_wrap]
  refine seg_bind_wrap (wpAny_standAt ?_)
  rcases turn i m H w with ⟨stop, q⟩ | ⟨go, N, hN, step⟩
  · have td := fun E => T.done Xc rfl rfl rfl xc i pg s σc H E I (stat fr) st stop
    rw [xA] at td
    refine seg_bind_wrap (thn (td _) fun r s6 ⟨hr, I6⟩ => ?_)
    subst hr
    exact seg_end (.ok .next) ⟨rfl, H, I6, q⟩
  · have ti := fun E => T.item Xc rfl rfl rfl xc i pg s σc H E I (stat fr) st go
    rw [xA] at ti
    refine seg_bind_wrap (thn (ti _) fun r s6 ⟨u, hr, h6⟩ => ?_)
    subst hr
    refine seg_bind_wrap (thn h6 fun _ s7 ⟨x, H7, I7, r7, y7, st7, fr7⟩ => ?_)
    have I7' := I7.pinned (stat fr7) (T.obj _ _ st7)
    have g7 := hg _ s7 σc H7 x u _ I7' r7 (step x H7 y7)
    rw [xA, xx] at g7
    refine seg_bind_wrap (wpAny_mono g7 (fun _ s8 ⟨σ8, H8, I8, sub8, q8⟩ => ?_) fun _ _ h => h.elim)
    have t8 := hf _ s8 σ8 H8 _ I8 q8
    rw [xA, xx] at t8
    refine seg_bind_wrap (wpAny_mono t8 (fun ok s9 ⟨H9, I9, q9⟩ => ?_) fun _ _ h => h.elim)
    have back : ∀ {H' : Hp} {s' : Shared}, Inv Xc (pg ++ pinsAt fp s7.heap) σ8 H' s' → Inv Xc pg σc H' s' ∧ tn (i + 1) s'.heap ∧ (∀ b ∈ fp, H' b = none) := fun {H' s'} K => by
     refine ⟨(K.weak sub8.1.symm sub8.2).unpinned, T.keep _ _ _ st7 fun b hb o e => (K.pin (b, o) (List.mem_append_right _ (List.mem_append_right _ (mem_pinsAt hb e)))).1, fun b hb => ?_⟩
     obtain ⟨o, e, d⟩ := T.obj _ _ st7 b hb
     exact (K.pin (b, o) (List.mem_append_right _ (List.mem_append_right _ (mem_pinsAt hb e)))).2.1
    cases ok with
    | false =>
     obtain ⟨m', hm, w9⟩ := hN _ q9
     obtain ⟨b1, b2, b3⟩ := back I9
     simp only [Bool.false_eq_true, if_false]
     exact seg_again rfl (ih m' hm n (by omega) (i + 1) H9 s9 s₀ w9 b1 b2 b3)
    | true =>
     have e9 := he _ s9 σ8 H9 _ I9 q9
     rw [xA, xx] at e9
     simp only [if_true]
     have hy : ∀ v, yieldOut Xc.env v = yieldValue v := fun v => by simp only [yieldOut, hco, Bool.false_eq_true, if_false]
     simp only [hy]
     rw [Sem.bind_eq_wrap', Sem.bind_eq_wrap', Sem.wrap_wrap, Sem.wrap_wrap]
     refine seg_wrap (wpAny_mono e9 (fun y s10 ⟨z, H10, I10, r10, b, hb, q10⟩ => ?_) fun _ _ h => h.elim)
     subst hb
     obtain ⟨b1, b2, b3⟩ := back I10
     obtain ⟨n', rfl⟩ : ∃ n', n = n' + 1 := ⟨n - 1, by omega⟩
     refine seg_at (seg_yield rfl rfl rfl ⟨b, H10, r10, b1, fun hbd s'' I'' e'' => ?_, fun hbd => ?_⟩)
     · rw [if_pos hbd] at q10
       obtain ⟨m', hm, w10⟩ := hN _ q10
       exact seg_again rfl (ih m' hm n' (by omega) (i + 1) H10 s'' s'' w10 I'' (by rw [e'']; exact b2) b3)
     · rw [if_neg hbd] at q10
       exact q10
theorem gen_start (T : Turn Xc.prog Xc.w Xc.K target J fp it tn) {n} {s s₀} {R} {Y} (st : tn 0 s.heap)
 (loop : Seg (model Xc.prog Xc.w) A1 R Y n s₀ (.compLoop (.GeneratorExp elt [⟨target, iter, ifs, 0⟩] scope pos) 0 (.ref it) .none Xc.env)
  ((model Xc.prog Xc.w).den (.compLoop (.GeneratorExp elt [⟨target, iter, ifs, 0⟩] scope pos) 0 (.ref it) .none Xc.env)) [] s) :
 Seg (model Xc.prog Xc.w) A1 R Y n s₀ (.compStart (.GeneratorExp elt [⟨target, iter, ifs, 0⟩] scope pos) 0 (.ref it) .none Xc.env)
  ((model Xc.prog Xc.w).den (.compStart (.GeneratorExp elt [⟨target, iter, ifs, 0⟩] scope pos) 0 (.ref it) .none Xc.env)) [] s := by
 show Seg _ A1 _ _ _ _ _ ((compStart _ 0 _ _ _).onRaise _) [] s
 rw [Sem.onRaise_eq_wrap]
 refine seg_bind_wrap (wpAny_askSetting ?_)
 split
 · exact seg_again rfl loop
 · first
    | exact seg_bind_wrap (wpAny_rule (seg_bind_wrap (wpAny_standAt (seg_bind_wrap (T.self _ 0 s _ _ st (seg_again rfl loop))))))
def Rdy (Xc : Cx) (pg : List (Addr × Obj)) (σc : St) (d : Bool) (Q : VK) (A1 : Around) (gn n : Nat) (s : Shared) : Prop :=
 ∃ H gs, Inv Xc pg σc H s ∧ s.gens[gn]? = some gs ∧ ∀ s'', Inv Xc pg σc H s'' → s''.heap = s.heap → gs.Goes (model Xc.prog Xc.w) A1 (GR Xc pg σc d Q) (GY Xc pg σc d Q) n (.send .none) s''
theorem gen_next {A : Around} {E : Value → Shared → Prop} {n gn : Nat} {a : Addr} {s : Shared} {QQ : Option Value → Shared → Prop} (hh : A.handled = none) (hroom : A.depth < recursionLimit) (hgn : gn < Xc.s₀.gens.size) (hpin : ∀ {H s}, Inv Xc pg σc H s → s.heap.IsGen a gn) (R : Rdy Xc pg σc d Q A.in1 gn n s)
 (hend : ∀ H s', Inv Xc pg σc H s' → Q (.bl d) H → QQ none s') (hgo : ∀ n' s', n = n' + 1 → Rdy Xc pg σc d Q A.in1 gn n' s' → QQ (some (.bool d)) s') (hout : ∀ b H s', b ≠ d → Inv Xc pg σc H s' → Q (.bl b) H → QQ (some (.bool b)) s') :
 wpAny (model Xc.prog Xc.w) A (pyNext (.ref a)) QQ E s := by
 obtain ⟨H, gs, I, hgs, go⟩ := R
 have I1 : Inv Xc pg σc H (s.setGen gn .running) := I.gens rfl rfl (bare_set I.bare rfl) (Nat.le_of_eq size_set.symm)
 refine wpAny_pyNext_genexpQ (P := GP Xc pg σc d Q) (Y := GY Xc pg σc d Q) hh I.nolimit hroom (hpin I) hgs (go _ I1 rfl) (fun v s1 gs' hb hv => ?_) (fun s1 hp h' hk => ?_)
 · obtain ⟨b, H1, rfl, J1, h1, h2⟩ := hv
   have J2 : Inv Xc pg σc H1 (s1.setGen gn gs') := J1.gens rfl rfl (bare_set J1.bare hb) (Nat.le_of_eq size_set.symm)
   by_cases hbd : b = d
   · subst hbd
     cases n with
     | zero => exact (h1 rfl s1 J1 rfl).elim
     | succ n' =>
      refine hgo n' _ rfl ⟨H1, gs', J2, ?_, fun s'' I'' e'' => h1 rfl s'' I'' e''⟩
      have hlt : gn < s1.gens.size := Nat.lt_of_lt_of_le hgn J1.os.2
      simp [Shared.setGen, hlt]
   · exact hout b H1 _ hbd J2 (h2 hbd)
 · obtain ⟨H1, J1, q⟩ := hp
   have J2 : Inv Xc pg σc H1 (s1.setGen gn .finished) := J1.gens rfl rfl (bare_set J1.bare rfl) (Nat.le_of_eq size_set.symm)
   exact hend H1 _ (J2.kept (t' := (s1.setGen gn .finished).toks) hk) q
end
section
variable {Xc : Cx} {pg : List (Addr × Obj)} {σc : St} {Q : VK}
theorem all_loop {A : Around} {a : Addr} {gn : Nat} {RR : Result → Shared → Prop} (hh : A.handled = none) (hroom : A.depth < recursionLimit) (hgn : gn < Xc.s₀.gens.size) (hpin : ∀ {H s}, Inv Xc pg σc H s → s.heap.IsGen a gn)
 (hR : ∀ b H s', Inv Xc pg σc H s' → Q (.bl b) H → RR (.ok (.ret (.bool b))) s') : ∀ (n : Nat) (s : Shared), Rdy Xc pg σc true Q A.in1.in1 gn n s → codeAny (model Xc.prog Xc.w) A (.builtin "all.loop" ⟨[.ref a], []⟩) RR s := by
 intro n
 induction n with
 | zero =>
  intro s R
  refine codeAny_builtin F.entry_all_loop ?_
  rw [Around.under_plainId F.plain_all_loop _]
  show wpAny _ A.in1 (pyNext (.ref a) >>= _) _ _ s
  refine wpAny_bind (gen_next hh hroom hgn hpin R (fun H s' I q => wpAny_bind (wpAny_rule (wpAny_pure (hR true H s' I q)))) (fun n' s' e _ => absurd e (by omega)) (fun b H s' hb I q => ?_))
  obtain rfl : b = false := by cases b with | false => rfl | true => exact absurd rfl hb
  refine wpAny_bind (wpAny_holding (wpAny_of_eq rfl ?_))
  refine wpAny_bind (wpAny_letGo ?_)
  simp only [Bool.false_eq_true, if_false]
  exact wpAny_bind (wpAny_rule (wpAny_pure (hR false H s' I q)))
 | succ n ih =>
  intro s R
  refine codeAny_builtin F.entry_all_loop ?_
  rw [Around.under_plainId F.plain_all_loop _]
  show wpAny _ A.in1 (pyNext (.ref a) >>= _) _ _ s
  refine wpAny_bind (gen_next hh hroom hgn hpin R (fun H s' I q => wpAny_bind (wpAny_rule (wpAny_pure (hR true H s' I q)))) (fun n' s' e R' => ?_) (fun b H s' hb I q => ?_))
  · obtain rfl : n = n' := by omega
    refine wpAny_bind (wpAny_holding (wpAny_of_eq rfl ?_))
    refine wpAny_bind (wpAny_letGo ?_)
    simp only [if_true]
    exact wpAny_pure ⟨plainId_quiet F.plain_all_loop _, ih s' R'⟩
  · obtain rfl : b = false := by cases b with | false => rfl | true => exact absurd rfl hb
    refine wpAny_bind (wpAny_holding (wpAny_of_eq rfl ?_))
    refine wpAny_bind (wpAny_letGo ?_)
    simp only [Bool.false_eq_true, if_false]
    exact wpAny_bind (wpAny_rule (wpAny_pure (hR false H s' I q)))
theorem any_loop {A : Around} {a : Addr} {gn : Nat} {RR : Result → Shared → Prop} (hh : A.handled = none) (hroom : A.depth < recursionLimit) (hgn : gn < Xc.s₀.gens.size) (hpin : ∀ {H s}, Inv Xc pg σc H s → s.heap.IsGen a gn)
 (hR : ∀ b H s', Inv Xc pg σc H s' → Q (.bl b) H → RR (.ok (.ret (.bool b))) s') : ∀ (n : Nat) (s : Shared), Rdy Xc pg σc false Q A.in1.in1 gn n s → codeAny (model Xc.prog Xc.w) A (.builtin "any.loop" ⟨[.ref a], []⟩) RR s := by
 intro n
 induction n with
 | zero =>
  intro s R
  refine codeAny_builtin F.entry_any_loop ?_
  rw [Around.under_plainId F.plain_any_loop _]
  show wpAny _ A.in1 (pyNext (.ref a) >>= _) _ _ s
  refine wpAny_bind (gen_next hh hroom hgn hpin R (fun H s' I q => wpAny_bind (wpAny_rule (wpAny_pure (hR false H s' I q)))) (fun n' s' e _ => absurd e (by omega)) (fun b H s' hb I q => ?_))
  obtain rfl : b = true := by cases b with | true => rfl | false => exact absurd rfl hb
  refine wpAny_bind (wpAny_holding (wpAny_of_eq rfl ?_))
  refine wpAny_bind (wpAny_letGo ?_)
  simp only [if_true]
  exact wpAny_bind (wpAny_rule (wpAny_pure (hR true H s' I q)))
 | succ n ih =>
  intro s R
  refine codeAny_builtin F.entry_any_loop ?_
  rw [Around.under_plainId F.plain_any_loop _]
  show wpAny _ A.in1 (pyNext (.ref a) >>= _) _ _ s
  refine wpAny_bind (gen_next hh hroom hgn hpin R (fun H s' I q => wpAny_bind (wpAny_rule (wpAny_pure (hR false H s' I q)))) (fun n' s' e R' => ?_) (fun b H s' hb I q => ?_))
  · obtain rfl : n = n' := by omega
    refine wpAny_bind (wpAny_holding (wpAny_of_eq rfl ?_))
    refine wpAny_bind (wpAny_letGo ?_)
    simp only [Bool.false_eq_true, if_false]
    exact wpAny_pure ⟨plainId_quiet F.plain_any_loop _, ih s' R'⟩
  · obtain rfl : b = true := by cases b with | true => rfl | false => exact absurd rfl hb
    refine wpAny_bind (wpAny_holding (wpAny_of_eq rfl ?_))
    refine wpAny_bind (wpAny_letGo ?_)
    simp only [if_true]
    exact wpAny_bind (wpAny_rule (wpAny_pure (hR true H s' I q)))
end
section
variable {X : Cx}
theorem gen_make {pins : List (Addr × Obj)} {s : Shared} {σ : St} {H : Hp} {Q : VK} {d : Bool} {elt target iter : Expr} {ifs : List Expr} {scope : Scope} {pos : Pos} {N' : List Str} {ix : List (Option Nat)} {wi : TI} {g : TG} {tt : TT} {te : TE} {c P : Addr} {QQ : Value → Shared → Prop}
 (hcalm : X.calm = true) (hroom : X.A.depth < recursionLimit) (hi : PI X target iter wi)
 (hg : ∀ cl C code it ex s H, PG (cxGen X N' elt [⟨target, iter, ifs, 0⟩] scope pos cl C code it ex s H) target g) (hf : ∀ cl C code it ex s H, PF (cxGen X N' elt [⟨target, iter, ifs, 0⟩] scope pos cl C code it ex s H) ifs tt)
 (he : ∀ cl C code it ex s H, PE (cxGen X N' elt [⟨target, iter, ifs, 0⟩] scope pos cl C code it ex s H) elt te)
 (hok : compOk X.env.scope X.N scope N' ix = true) (hco : scope.isCoroutine = false) (h0 : scope.names.lookup (".0" : Str) = some NameKind.local) (B : Bm X.mg X.base) (hc : X.env.code = .ref c) (hd : PySem.W.CodeHd X.base c P)
 (hs : ∀ x, genFold iter X.env x = pure x) (I : Inv X pins σ H s) (h : tGen d P ix wi g tt te σ H Q)
 (hQQ : ∀ (Xc : Cx) (pg : List (Addr × Obj)) (σc : St) (a : Addr) (gn n : Nat) (s' : Shared), Xc.prog = X.prog → Xc.w = X.w → gn < Xc.s₀.gens.size → (∀ {H s}, Inv Xc pg σc H s → s.heap.IsGen a gn) → Rdy Xc pg σc d Q X.A.in1.in1 gn n s' →
  (∀ b H s', Inv Xc pg σc H s' → Q (.bl b) H → EP X pins σ Q (.bool b) s') → QQ (.ref a) s') :
 wpAny (model X.prog X.w) X.A (eval (.GeneratorExp elt [⟨target, iter, ifs, 0⟩] scope pos) X.env) QQ X.xe s := by
 obtain ⟨hk, _, hcell⟩ := compOk_is hok
 obtain ⟨_, _, cl, hcl, hc1, hc2⟩ := comp_clo I hok
 refine wpAny_GeneratorExp_make hco hcl hcell h0 hk hroom (thn (hi pins s σ H _ I h) fun v s1 h1 => thn h1 fun itv s2 h2 => ?_) hs
 obtain ⟨it, fp, tn, J, H2, e, I2, T, st2, f2, ht, W, ⟨m0, w0⟩, turn⟩ := h2
 subst e
 refine ⟨I2.nolimit, gen_code I2 hc hd ht fun code h3 tk3 I3 k3 => gen_blt I3 B ?_⟩
 intro h4 hns4 hsb4
 dsimp only at hns4 hsb4 ⊢
 have fpP : ∀ b ∈ fp, b ≠ P := fun b hb z => by
  have := (f2 b hb).1
  rw [z, ht] at this
  cases this
 have st3 : tn 0 h3 := T.keep _ _ _ st2 fun b hb o e => k3 b o (fpP b hb) e
 have fpLt : ∀ b ∈ fp, b < h3.objs.size := fun b hb => by
  obtain ⟨o, e, _⟩ := T.obj _ _ st3 b hb
  exact Heap.lt_size e
 have hz4 : h4.objs.size = h3.objs.size + 1 := by rw [hsb4.1, Heap.size_push]
 have old4 : ∀ b o, h3.get? b = some o → h4.get? b = some o := fun b o e => hsb4.extBut b o (Nat.ne_of_lt (Heap.lt_size e)) (Heap.get?_push_of_some _ e)
 generalize hog : ({ cls := .type "generator", data := .fields #[.int s2.gens.size 0, .str "<genexpr>" (tk3 + 1), .str (X.env.qual ++ "<genexpr>") (tk3 + 1 + 1)] } : Obj) = og
 have old5 : ∀ b o, h3.get? b = some o → (h4.push og).get? b = some o := fun b o e => Heap.get?_push_of_some _ (old4 b o e)
 have hex : ∀ b ∈ fp, FpOk X pins H2 b ∧ b < ({ s2 with heap := h3, toks := tk3 } : Shared).heap.objs.size := fun b hb => ⟨f2 b hb, fpLt b hb⟩
 have I5 := gen_inv I3 (elt := elt) (gs := [⟨target, iter, ifs, 0⟩]) (pos := pos) (code := code) (it := it) (tk := tk3 + 1 + 1 + 1) (g' := s2.gens.push (.fresh (.compStart (.GeneratorExp elt [⟨target, iter, ifs, 0⟩] scope pos) 0 (.ref it) .none (genEnv scope cl h3.objs.size code builtinsNs X.env)))) hok hc1 hc2 hex (hns4.push og) old5 (I3.bare.push rfl)
 generalize hXc : cxGen X N' elt [⟨target, iter, ifs, 0⟩] scope pos cl ({ s2 with heap := h3, toks := tk3 } : Shared).heap.objs.size code it fp _ H2 = Xc at I5
 have hg' : PG Xc target g := by rw [← hXc]; exact hg _ _ _ _ _ _ _
 have hf' : PF Xc ifs tt := by rw [← hXc]; exact hf _ _ _ _ _ _ _
 have he' : PE Xc elt te := by rw [← hXc]; exact he _ _ _ _ _ _ _
 have xP : Xc.prog = X.prog := by rw [← hXc]; rfl
 have xw : Xc.w = X.w := by rw [← hXc]; rfl
 have xK : Xc.K = X.K := by rw [← hXc]; rfl
 have xE : Xc.env = genEnv scope cl h3.objs.size code builtinsNs X.env := by rw [← hXc]; rfl
 have xA : Xc.A = X.A.in1.in1.over (.compLoop (.GeneratorExp elt [⟨target, iter, ifs, 0⟩] scope pos) 0 (.ref it) .none Xc.env) [] := by rw [xE, ← hXc]; rfl
 have xc : Xc.calm = true := by rw [← hXc]; exact hcalm
 have xL : Xc.env.locals = h3.objs.size := by rw [xE]; rfl
 have xx : Xc.ex = fp := by rw [← hXc]; rfl
 have xp : Xc.pn = [] := by rw [← hXc]; rfl
 have xs : Xc.s₀.heap = h3 := by rw [← hXc]; rfl
 have xsg : Xc.s₀.gens.size = s2.gens.size + 1 := by rw [← hXc]; exact Array.size_push _
 have xso : Xc.s₀.os = s2.os := by rw [← hXc]; rfl
 have xH : Xc.H₀ = H2 := by rw [← hXc]; rfl
 have xf : Xc.fs = frs X.stack := by rw [← hXc]; rfl
 have xcl : Xc.env.cells = cl := by rw [xE]; rfl
 have xx' : Xc.xe = fun _ _ => False := by rw [← hXc]; rfl
 have xco : Xc.env.scope.isCoroutine = false := by rw [xE]; exact hco
 have aLt : (h3.objs.size : Nat) < h4.objs.size := by omega
 have aFp : h4.objs.size ∉ fp := fun hb => Nat.lt_irrefl _ (Nat.lt_trans aLt (fpLt _ hb))
 have stat : ∀ {H' : Hp}, (∀ b ∈ fp, H' b = none) → ∀ b ∈ fp, FpOk Xc [(h4.objs.size, og)] H' b := fun {H'} hn b hb => by
  refine ⟨hn b hb, by rw [xL]; exact Nat.ne_of_lt (fpLt b hb), by rw [xf]; exact I2.off (f2 b hb), .inl (by rw [xx]; exact hb), fun x c e => (f2 b hb).2.2.2.2.1 x c (hc1 x c (by rw [xcl] at e; exact e)), fun p hp z => ?_⟩
  rw [xp] at hp
  have hp' : p = (h4.objs.size, og) := by simpa using hp
  rw [hp'] at z
  exact aFp (by have z' : h4.objs.size = b := z; rw [z']; exact hb)
 have aX : h4.objs.size ∉ frs X.stack := fun hb => by
  rcases List.mem_cons.mp (I3.stkSub _ hb) with z | z
  · have h' : X.env.locals < h3.objs.size := I3.lt
    exact Nat.lt_irrefl _ (Nat.lt_trans aLt (by rw [z]; exact h'))
  · exact I3.nofs (a := h4.objs.size) (Nat.le_of_lt aLt) z
 have I6 : Inv Xc [(h4.objs.size, og)] (pick ix σ) H2 { s2 with heap := h4.push og, gens := s2.gens.push (.fresh (.compStart (.GeneratorExp elt [⟨target, iter, ifs, 0⟩] scope pos) 0 (.ref it) .none (genEnv scope cl h3.objs.size code builtinsNs X.env))), toks := tk3 + 1 + 1 + 1 } := I5.pins_of fun p hp => by
  have hp' : p = (h4.objs.size, og) := by simpa using hp
  subst hp'
  refine ⟨Heap.get?_push_size _ (by rw [← hog]; rfl), I3.hok.fresh (Nat.le_of_lt aLt), by rw [xL]; exact Nat.ne_of_gt aLt, by rw [xf]; exact aX, fun v z => ?_⟩
  rw [← hog] at z
  cases z
 rw [← xP, ← xw, ← xK] at T
 have seg := gen_seg (Xc := Xc) (pg := [(h4.objs.size, og)]) (σc := pick ix σ) (d := d) (Q := Q) (A1 := X.A.in1.in1) (W := W) T xA xc xx' xco hg' hf' he' stat turn m0 (m0 + 1) (Nat.lt_succ_self _) 0 H2
 refine hQQ Xc [(h4.objs.size, og)] (pick ix σ) h4.objs.size s2.gens.size (m0 + 1) _ xP xw (by rw [xsg]; exact Nat.lt_succ_self _) (fun {H s} K => ?_) ⟨H2, _, I6, Array.getElem?_push_size .., fun s'' I'' e'' => ⟨rfl, ?_⟩⟩ (fun b H' s' K q => ?_)
 · have := (K.pin (h4.objs.size, og) (List.mem_append_right _ (List.mem_singleton.mpr rfl))).1
   exact ⟨og, _, _, this, by rw [← hog], by rw [← hog], by rw [← hog]⟩
 · have st'' : tn 0 s''.heap := by rw [e'']; exact T.keep _ _ _ st3 fun b hb o e => old5 b o e
   rw [← xE]
   exact gen_start T st'' (seg s'' s'' w0 I'' st'' fun b hb => (f2 b hb).1)
 · refine ⟨.bl b, H', ?_, rfl, q⟩
   have u := K.base
   rw [xs, xH, xf, xx] at u
   have ko := K.hok
   rw [xP, xw] at ko
   exact I3.call' (s' := s') (ch := fp) ⟨by rw [K.os.1, xso], by have := K.os.2; rw [xsg] at this; exact Nat.le_trans (Nat.le_succ _) this⟩ u ko K.bare (fun b hb => by
    have f := f2 b hb
    exact ⟨f.2.2.2.1, f.2.1, f.2.2.2.2.1, f.2.2.2.2.2⟩)
end
section
variable {X : Cx} {elt target iter : Expr} {ifs : List Expr} {scope : Scope} {pos cpos p : Pos} {N' : List Str} {ix : List (Option Nat)} {wi : TI} {g : TG} {tt : TT} {te : TE} {c P : Addr} {k : Nat}
theorem pe_all (hcalm : X.calm = true) (hr : Room k X.A) (hgl : Gl X "all") (hm : X.mg "all" = none) (B : Bm X.mg X.base) (hd : PySem.W.CodeHd X.base c P) (hc : X.env.code = .ref c) (hi : PI X target iter wi)
 (hg : ∀ cl C code it ex s H, PG (cxGen X N' elt [⟨target, iter, ifs, 0⟩] scope pos cl C code it ex s H) target g) (hf : ∀ cl C code it ex s H, PF (cxGen X N' elt [⟨target, iter, ifs, 0⟩] scope pos cl C code it ex s H) ifs tt)
 (he : ∀ cl C code it ex s H, PE (cxGen X N' elt [⟨target, iter, ifs, 0⟩] scope pos cl C code it ex s H) elt te)
 (hok : compOk X.env.scope X.N scope N' ix = true) (hco : scope.isCoroutine = false := by rfl) (h0 : scope.names.lookup (".0" : Str) = some NameKind.local := by rfl)
 (hs : ∀ x, genFold iter X.env x = pure x := by intro _; rfl) :
 PE X (.Call (.Name "all" p) [.GeneratorExp elt [⟨target, iter, ifs, 0⟩] scope pos] [] cpos) (tGen true P ix wi g tt te) := by
 intro pins s σ H Q I h
 refine wpAny_Call_Name_kw (ld_blt I hgl hm boot_all ?_)
 refine PyProof.Rows.callWith_builtin1 ?_ rfl rfl
 refine Calls.spliced_cons (gen_make hcalm hr.depth hi hg hf he hok hco h0 B hc hd hs I h fun Xc pg σc a gn n s' xP xw hgn hpin R hfin => Calls.spliced_nil ?_)
 refine call_function_tree F.kind_all F.plain_all F.entry_all (F.args_all1 _) ?_
 unfold Builtin.«all»
 refine wpAny_bind (m := oneArg "all" _) (wpAny_pure ?_)
 have hgen : s'.heap.IsGen a gn := let ⟨_, _, I', _⟩ := R; hpin I'
 refine wpAny_bind (wpAny_pyIter_gen hgen ?_)
 have L := fun RR hR => all_loop (Xc := Xc) (A := X.A) (RR := RR) (Q := Q) hr.hd hr.depth hgn hpin hR n s' R
 rw [xP, xw] at L
 exact wpAny_pure ⟨plainId_quiet F.plain_all_loop _, L _ fun b H s'' K q => hfin b H s'' K q⟩
theorem pe_any (hcalm : X.calm = true) (hr : Room k X.A) (hgl : Gl X "any") (hm : X.mg "any" = none) (B : Bm X.mg X.base) (hd : PySem.W.CodeHd X.base c P) (hc : X.env.code = .ref c) (hi : PI X target iter wi)
 (hg : ∀ cl C code it ex s H, PG (cxGen X N' elt [⟨target, iter, ifs, 0⟩] scope pos cl C code it ex s H) target g) (hf : ∀ cl C code it ex s H, PF (cxGen X N' elt [⟨target, iter, ifs, 0⟩] scope pos cl C code it ex s H) ifs tt)
 (he : ∀ cl C code it ex s H, PE (cxGen X N' elt [⟨target, iter, ifs, 0⟩] scope pos cl C code it ex s H) elt te)
 (hok : compOk X.env.scope X.N scope N' ix = true) (hco : scope.isCoroutine = false := by rfl) (h0 : scope.names.lookup (".0" : Str) = some NameKind.local := by rfl)
 (hs : ∀ x, genFold iter X.env x = pure x := by intro _; rfl) :
 PE X (.Call (.Name "any" p) [.GeneratorExp elt [⟨target, iter, ifs, 0⟩] scope pos] [] cpos) (tGen false P ix wi g tt te) := by
 intro pins s σ H Q I h
 refine wpAny_Call_Name_kw (ld_blt I hgl hm boot_any ?_)
 refine PyProof.Rows.callWith_builtin1 ?_ rfl rfl
 refine Calls.spliced_cons (gen_make hcalm hr.depth hi hg hf he hok hco h0 B hc hd hs I h fun Xc pg σc a gn n s' xP xw hgn hpin R hfin => Calls.spliced_nil ?_)
 refine call_function_tree F.kind_any F.plain_any F.entry_any (F.args_any1 _) ?_
 unfold Builtin.«any»
 refine wpAny_bind (m := oneArg "any" _) (wpAny_pure ?_)
 have hgen : s'.heap.IsGen a gn := let ⟨_, _, I', _⟩ := R; hpin I'
 refine wpAny_bind (wpAny_pyIter_gen hgen ?_)
 have L := fun RR hR => any_loop (Xc := Xc) (A := X.A) (RR := RR) (Q := Q) hr.hd hr.depth hgn hpin hR n s' R
 rw [xP, xw] at L
 exact wpAny_pure ⟨plainId_quiet F.plain_any_loop _, L _ fun b H s'' K q => hfin b H s'' K q⟩
end
structure Tb (K : PySem.W.Frag) (mg : Str → Option Value) (base : Heap) (x : Str) (P : Addr) : Prop where
 ex : ∃ c, PySem.W.tabIn K x = some (c, P) ∧ PySem.W.CodeHd base c P
 kb : K.In base
 nb : base.Ns mainGlobals mg
 bm : Bm mg base
section
variable {Pg : Program} {w : World} {K : PySem.W.Frag} {mg : Str → Option Value} {base : Heap}
theorem Df.hasT {st} {N ps} {k} {sp} {P} (F : Df K mg x st) (T : Tb K mg base x P) (S : FnScope N ps (defScope st))
 (hb : ∀ (kV doc pm : Value) (an : Option _) (cdv ct : Value) (us : List _), us.length = ps.length → bindArgs (PySem.W.fnOf x x (defArgs st) (defBody st) (defScope st) .none kV doc pm an cdv ct) ⟨us, []⟩ = pure (ps.zip us))
 (len : ∀ vs H Q E, sp vs H Q E → vs.length = ps.length)
 (hbody : ∀ (f c : Addr) (A : Around) (outer : List _) (s : Shared) (H : Hp) (vs : List V) (Q : VK) (E : XK), PySem.W.CodeHd base c P → Bm mg base → Room k (A.deeper (envOfC x (defScope st) s.heap.objs.size f (.ref c))) → sp vs H Q E →
  ∃ t, PSs (cxOf CX0 Pg w K mg base N x (defScope st) f (.ref c) A outer s H E).nox (defBody st) t ∧ t { nx := fun _ H' => Q .non H', rt := Q } (start N vs) H) : Has Pg w K mg base (k + 1) x ps sp := by
 obtain ⟨f, fd, F, m⟩ := F.ex
 obtain ⟨c, ht, hcd⟩ := T.ex
 obtain ⟨oc, od, kV, doc, pm, an, cdv, ct, osl, e, lk, hcd'⟩ := id F.ex
 have hcode := PySem.W.law_code T.kb T.nb ht m (T.kb _ _ lk) rfl
 have hcv : cdv = .ref c := by simp_all
 subst hcv
 refine ⟨f, fd, ?_, m, F.kp, F.binds hb⟩
 rw [e] at lk ⊢
 refine fn_of lk hcd' S len fun A outer s H vs Q E hr hsp => ?_
 obtain ⟨t, h, q⟩ := hbody f c A _ s H vs Q E hcd T.bm hr hsp
 exact ⟨t, h.nox, q⟩
end
theorem law_callT {P : Program} {w : World} {K : PySem.W.Frag} {mg mb : Str → Option Value} {k : Nat} {fa a : Addr} {fd : FuncData} {x : Str} {sp : Sp} {s₁ : Shared} {vs : List Value} {ns : List Int} {tabs : List (Addr × Addr)}
 (KX : K.In s₁.heap) (hns : s₁.heap.Ns mainGlobals mg) (hb : s₁.heap.Ns builtinsNs mb) (hbb : ∀ x : Str, x ≠ "__name__" → mb x = bootBuiltins x) (hlim : s₁.heap.NoLimit) (hbm : Bm mg s₁.heap) (hg : s₁.gens = #[])
 (ha : s₁.heap.get? a = some { cls := .type "list", data := .seq vs.toArray }) (hi : IntsAre vs ns) (hl : ns.length ≤ sizeLine) (hr : Room k callerA) (hT : PySem.W.TabsAt tabs s₁.heap) (hnt : PySem.W.noTabs K = true)
 (F : ∀ base : Heap, K.In base → base.Ns mainGlobals mg → Bm mg base → (∀ q ∈ tabs, PySem.W.CodeHd base q.1 q.2) → FnOk P w K mg base CX0 k fa fd [x] sp) (hbind : ∀ (s : Shared) (u : Value), BindsTo s fd ⟨[u], []⟩ [(x, u)])
 (hsp : ∀ H : Hp, SqL K H a (ns.map V.int) → (∀ q ∈ tabs, H q.2 = some (TabO q.2)) → sp [.ref a] H (fun v H' => v = .bl true ∧ ∀ q ∈ tabs, H' q.2 = some (TabO q.2)) fun _ _ _ => False) :
 codeAny (model P w) callerA (.call (.ref fa) ⟨[.ref a], []⟩) (fun r s' => r = .ok (.ret (.bool true)) ∧ OldK s₁.heap s'.heap ∧ s'.os = s₁.os ∧ AllBare s'.gens) s₁ := by
 have rv := vals_ints hi
 have lenV := hi.length
 have tabObj_at : ∀ b ∈ tabs.map (·.2), s₁.heap.get? b = some (PySem.W.tabObj #[]) := fun b hb => by
  obtain ⟨q, hq, rfl⟩ := List.mem_map.mp hb
  exact (hT q hq).2
 have aNot : a ∉ tabs.map (·.2) := fun hb => by
  have e := tabObj_at a hb
  rw [ha] at e
  cases e
 have kNot : ∀ b o, K.lookup b = some o → b ∉ tabs.map (·.2) := fun b o e hb => by
  have e1 := tabObj_at b hb
  rw [KX b o e] at e1
  cases e1
  have h2 := List.all_eq_true.mp hnt (b, _) (PySem.W.mem_of_lookupK e)
  exact absurd (show false = true from h2) Bool.false_ne_true
 have core : ∀ H : Hp, (∀ b, b ∉ tabs.map (·.2) → H b = none ∨ (b = a ∧ K.lookup a = none ∧ ∃ o xs, H b = some (.frz o (.lst xs)))) → (∀ b ∈ tabs.map (·.2), H b = some (TabO b)) → SqL K H a (ns.map V.int) → HOk P w H s₁.heap →
  codeAny (model P w) callerA (.call (.ref fa) ⟨[.ref a], []⟩) (fun r s' => r = .ok (.ret (.bool true)) ∧ OldK s₁.heap s'.heap ∧ s'.os = s₁.os ∧ AllBare s'.gens) s₁ := by
  intro H hO hB hS hok
  have base_of : ∀ {b : Addr} {o : Obj}, s₁.heap.get? b = some o → H b = none → (hidT s₁.heap H).get? b = some o := fun e n => hidT_get e n
  have free_of : ∀ {b : Addr} {o : Obj}, s₁.heap.get? b = some o → o ≠ PySem.W.tabObj #[] → o ≠ { cls := .type "list", data := .seq vs.toArray } → H b = none := fun {b o} e n1 n2 => by
   by_cases hb : b ∈ tabs.map (·.2)
   · have := tabObj_at b hb
     rw [e] at this
     exact absurd (Option.some.inj this) n1
   · rcases hO b hb with z | ⟨z, _, _⟩
     · exact z
     · rw [z, ha] at e
       exact absurd (Option.some.inj e).symm n2
  have nsK : ∀ {b : Addr} {m : Str → Option Value}, s₁.heap.Ns b m → (hidT s₁.heap H).Ns b m := fun {b m} ⟨o, es, ep, e, d, r⟩ => ⟨o, es, ep, base_of e (free_of e (fun z => by rw [z] at d; cases d) (fun z => by rw [z] at d; cases d)), d, r⟩
  have hKb : K.In (hidT s₁.heap H) := fun b o e => base_of (KX b o e) (by
   rcases hO b (kNot b o e) with z | ⟨z, z2, _⟩
   · exact z
   · rw [z, z2] at e; cases e)
  have hM : Mod K mg (hidT s₁.heap H) := ⟨hKb, nsK hns, ⟨mb, nsK hb, hbb⟩, let ⟨mc, h1, h2⟩ := hlim; ⟨mc, nsK h1, h2⟩⟩
  have hbmB : Bm mg (hidT s₁.heap H) := by
   obtain ⟨bm, ob, e1, e2, e3, e4, e5, e6⟩ := hbm.ex
   exact ⟨bm, ob, e1, e2, base_of e3 (free_of e3 (fun z => by rw [z] at e4; cases e4) (fun z => by rw [z] at e4; injection e4 with e; exact absurd e (by decide))), e4, e5, e6⟩
  have hcdB : ∀ q ∈ tabs, PySem.W.CodeHd (hidT s₁.heap H) q.1 q.2 := fun q hq => by
   obtain ⟨o, vs', file, tf, flags, tg, inF, text, tt, e1, r1, r⟩ := (hT q hq).1
   exact ⟨o, vs', file, tf, flags, tg, inF, text, tt, base_of e1 (free_of e1 (fun z => by rw [z] at r1; cases r1) (fun z => by rw [z] at r1; injection r1 with e; exact absurd e (by decide))), r1, r⟩
  have e0 : Env0 P w K mg (hidT s₁.heap H) callerA [] s₁ H := ⟨rfl, hM, fun b o e => of_hidT e, Nat.le_of_eq (hidT_size _ _), trivial, fun b hb => absurd (show b ∈ ([] : List Addr) from hb) (by simp), hok, .of_eq hg⟩
  refine codeAny_mono ((F _ hKb (nsK hns) hbmB hcdB).run callerA [] s₁ H ⟨[.ref a], []⟩ [.ref a] [.ref a] _ _ hr e0 (hbind s₁ (.ref a)) (.cons rfl .nil) (hsp H hS fun q hq => hB _ (List.mem_map_of_mem hq))) fun r s' h => ?_
  cases r with
  | error e => exact False.elim h
  | ok fl =>
   cases fl with
   | next => exact False.elim h
   | brk => exact False.elim h
   | cont => exact False.elim h
   | ret u =>
    obtain ⟨v, H', os, bare, un, hok', r', q', qt⟩ := h
    subst q'
    obtain rfl : u = Value.bool true := r'
    have kept : ∀ b o, b ∉ tabs.map (·.2) → s₁.heap.get? b = some o → s'.heap.get? b = some o := fun b o hb e => by
     rcases hO b hb with z | ⟨_, _, ob, xs, z⟩
     · exact un.keep b o e z (by intro z; exact absurd (show b ∈ ([] : List Addr) from z) (by simp)) (by simp)
     · have z2 := un.frzs b ob _ z
       obtain ⟨e1, _⟩ := hok b _ z
       obtain ⟨e2, _⟩ := hok' b _ z2
       rw [e] at e1; cases e1
       exact e2
    have grown : ∀ b ∈ tabs.map (·.2), ∃ ps, s'.heap.get? b = some (PySem.W.tabObj ps) := fun b hb => by
     obtain ⟨q, hq, rfl⟩ := List.mem_map.mp hb
     obtain ⟨⟨ps, e, _⟩, _⟩ := hok' _ _ (qt q hq)
     exact ⟨ps, e⟩
    refine ⟨rfl, ⟨fun b o e => ?_, fun b o e => ?_⟩, os.1, bare⟩
    · by_cases hb : b ∈ tabs.map (·.2)
      · have e1 := tabObj_at b hb
        rw [e] at e1
        cases e1
        obtain ⟨ps, e2⟩ := grown b hb
        obtain ⟨q, hq, rfl⟩ := List.mem_map.mp hb
        exact .inr (.inl ⟨((hT q hq).1.tab (hT q hq).2).isCodeTable, rfl, #[], ps, rfl, by rw [Array.empty_append]; exact e2⟩)
      · exact .inl (kept b o hb e)
    · by_cases hb : b ∈ tabs.map (·.2)
      · obtain ⟨ps, e2⟩ := grown b hb
        exact ⟨_, e2⟩
      · exact ⟨o, kept b o hb e⟩
 have tabOk : ∀ {H : Hp} {b : Addr}, b ∈ tabs.map (·.2) → ObjOk P w H s₁.heap b (TabO b) := fun {H b} hb => tabO_ok (tabObj_at b hb) trivial
 cases hk : K.lookup a with
 | some o =>
  have e := KX a o hk
  rw [ha] at e
  cases e
  refine core (fun b => if b ∈ tabs.map (·.2) then some (TabO b) else none) (fun b hb => .inl (if_neg hb)) (fun b hb => if_pos hb) (.inr ⟨_, vs.toArray, _, hk, rfl, rfl, rfl, by rw [List.size_toArray, lenV]; exact hl, by simpa using rv⟩) (fun b u z => ?_)
  by_cases hb : b ∈ tabs.map (·.2)
  · have z' := (if_pos hb).symm.trans z
    cases z'
    exact tabOk hb
  · have z' := (if_neg hb).symm.trans z
    cases z'
 | none =>
  refine core (fun b => if b ∈ tabs.map (·.2) then some (TabO b) else if b = a then some (.frz { cls := .type "list", data := .seq vs.toArray } (.lst (ns.map V.int))) else none) (fun b hb => ?_) (fun b hb => if_pos hb) (.inl (.inr ⟨{ cls := .type "list", data := .seq vs.toArray }, (if_neg aNot).trans (if_pos rfl)⟩)) (fun b u z => ?_)
  · by_cases e : b = a
    · exact .inr ⟨e, hk, _, _, (if_neg hb).trans (if_pos e)⟩
    · exact .inl ((if_neg hb).trans (if_neg e))
  · by_cases hb : b ∈ tabs.map (·.2)
    · have z' := (if_pos hb).symm.trans z
      cases z'
      exact tabOk hb
    · have z1 := (if_neg hb).symm.trans z
      by_cases e : b = a
      · have z' := (if_pos e).symm.trans z1
        cases z'
        subst e
        exact ⟨ha, by rw [List.length_map]; exact hl, vs, _, rv, ha⟩
      · have z' := (if_neg e).symm.trans z1
        cases z'
theorem walk_ofT {l : PySem.W.OpenLaw} {n k} {q} {loose} {XP} {YP} {d} {K : Params → PySem.W.Frag} {x}
 (hn : l.most = some n) (hn2 : n ≤ sizeLine) (hdf : d.params.defaults = []) (hr : Room k callerA)
 (hY : ∀ (w : World) (h : Heap), YP w h → (K w.params).In h) (hnt : ∀ w : World, PySem.W.noTabs (K w.params) = true)
 (F : ∀ (w : World) (mg mb : Str → Option _) (fa : Addr) (h : Heap) (s₀ : Shared), PySem.W.Ground q loose [] XP w s₀ mg mb h → (K w.params).In h → h.Ns mainGlobals mg → mg d.name = some (.ref fa) →
  ∃ (fd : FuncData) (tabs : List _) (sp : Sp), (∀ (s : Shared) (u : Value), BindsTo s fd ⟨[u], []⟩ [(x, u)]) ∧ PySem.W.TabsAt tabs h ∧
   (∀ base, (K w.params).In base → base.Ns mainGlobals mg → Bm mg base → (∀ q ∈ tabs, PySem.W.CodeHd base q.1 q.2) → FnOk l.prog w (K w.params) mg base CX0 k fa fd [x] sp) ∧
   ∀ (H : Hp) (a : Addr) (ns : List _), ns.length ≤ n → SqL (K w.params) H a (ns.map V.int) → (∀ q ∈ tabs, H q.2 = some (TabO q.2)) → sp [.ref a] H (fun v H' => v = .bl true ∧ ∀ q ∈ tabs, H' q.2 = some (TabO q.2)) fun _ _ _ => False) :
 PySem.W.WalkO q loose XP YP l.row.toRowW d [] fun f vs => PySem.call f vs := by
 refine Att.attach_call hn hdf fun w s₀ s₁ mg mb fa o pm cd doc a vs ns G Y ho hd hcd hmg hobj hints hlen hg => ?_
 have KX := hY w _ Y
 obtain ⟨fd, tabs, sp, hb, hT, hF, hsp⟩ := F w mg mb fa _ _ G KX G.T.g hmg
 have hbm : Bm mg _ := let ⟨bm, ob, e1, e2, e3, e4, e5, e6⟩ := G.T.bmain; ⟨bm, ob, e1, e2, e3, e4, e5, e6⟩
 exact law_callT KX G.T.g G.T.b G.T.builtins G.T.nolimit hbm hg hobj hints (Nat.le_trans hlen hn2) hr hT (hnt w) hF hb fun H hS hTb => hsp H a ns hlen hS hTb
def Trc (h : Heap) (x C : Addr) : Option Addr → Prop
 | none => ∃ oe vs, h.get? x = some oe ∧ oe.cls = .ref C ∧ oe.data = .fields vs ∧ vs[1]? = some .none
 | some T => ∃ oe vs oT ts, h.get? x = some oe ∧ oe.cls = .ref C ∧ oe.data = .fields vs ∧ vs[1]? = some (.ref T) ∧ T ≠ x ∧ h.get? T = some oT ∧ oT.data = .fields ts ∧ ts[3]? = some .none
structure Fl (h0 : Heap) (H : Hp) (h : Heap) (x C : Addr) : Prop where
 ex : ∃ T, Trc h x C T ∧ H x = none ∧ h0.get? x = none ∧ ∀ t, T = some t → H t = none ∧ h0.get? t = none
def FmtV : V → Str → Prop
 | .str z, y => y = z ∧ z.length ≤ sizeLine
 | .int i, y => y = (toString i : String) ∧ i.natAbs.log2 < 1920
 | _, _ => False
abbrev TJ := Str → TE
def PJ (X : Cx) (parts : List Expr) (t : TJ) : Prop :=
 ∀ (pins : List (Addr × Obj)) (s : Shared) (σ : St) (H : Hp) (acc : Str) (Q : VK), Inv X pins σ H s → t acc σ H Q → wpAny (model X.prog X.w) X.A (joinParts acc (evalEach parts X.env)) (EP X pins σ Q) X.xe s
section
variable {X : Cx}
def tjNil : TJ := fun acc _ H Q => acc.length ≤ sizeLine ∧ Q (.str acc) H
theorem pj_nil : PJ X [] tjNil := by
 intro pins s σ H acc Q I h
 exact joinParts_nil (ep_str (I.tok _) h.2) h.1
def tjTxt (y : Str) (t : TJ) : TJ := fun acc σ H Q => (acc ++ y).length ≤ sizeLine ∧ t (acc ++ y) σ H Q
theorem pj_txt {r} {t} (h1 : PE X (.Constant (.str y) k pos) (tC (.str y))) (hr : PJ X r t) : PJ X (.Constant (.str y) k pos :: r) (tjTxt y t) := by
 intro pins s σ H acc Q I h
 refine joinParts_cons (thn (h1 _ s σ H (fun v H' => v = .str y ∧ H' = H) I ⟨rfl, rfl⟩) fun v s1 ⟨x, H1, I1, r1, e1, e2⟩ => ?_)
 subst e1 e2
 obtain ⟨t', rfl⟩ := r1
 exact ⟨h.1, hr _ s1 σ _ _ Q I1 h.2⟩
theorem fmt_ok {σ : St} {H} {s} {v} {u} {y} {Q} {E} (I : Inv X pins σ H s) (rv : RelV v u) (f : FmtV v y) (q : Q (.str y) H) : wpAny (model X.prog X.w) X.A (formatField u Str.empty) (EP X pins σ Q) E s := by
 cases v with
 | str z =>
  obtain ⟨t, rfl⟩ := rv
  obtain ⟨rfl, hz⟩ := f
  exact formatField_str (fun t' tk => ep_str (I.tok tk) q) hz
 | int i =>
  obtain ⟨t, rfl⟩ := rv
  obtain ⟨rfl, hz⟩ := f
  exact wpAny_formatField_int hz (ep_str (I.tok _) q)
 | _ => exact f.elim
def tjFmt (te : TE) (t : TJ) : TJ := fun acc σ H Q => te σ H fun v H1 => ∃ y, FmtV v y ∧ (acc ++ y).length ≤ sizeLine ∧ t (acc ++ y) σ H1 Q
theorem pj_fmt {r} {te} {t} (he : PE X e te) (hr : PJ X r t) : PJ X (.FormattedValue e (-1) none pos :: r) (tjFmt te t) := by
 intro pins s σ H acc Q I h
 refine joinParts_cons (FormattedValue_plain (thn (he _ s σ H _ I h) fun u s1 ⟨v, H1, I1, r1, y, f, hz, q⟩ => ?_))
 refine thn (fmt_ok (Q := fun v H' => v = .str y ∧ H' = H1) I1 r1 f ⟨rfl, rfl⟩) fun u2 s2 ⟨x, H2, I2, r2, e1, e2⟩ => ?_
 subst e1 e2
 obtain ⟨t', rfl⟩ := r2
 exact ⟨hz, hr _ s2 σ _ _ Q I2 q⟩
theorem pe_join {t} (h : PJ X (a :: b :: r) t) : PE X (.JoinedStr (a :: b :: r) pos) (t Str.empty) := fun pins s σ H Q I hq => JoinedStr_many (h _ s σ H _ Q I hq)
end
end L2
end
section
namespace L2
open PySem PySem.Spec PyProof.Rows SeqAt
section
variable {X : Cx} {K : PySem.W.Frag}
def rAllL (K : PySem.W.Frag) : List V → Hp → VK → Prop := fun xs H Q => ∃ (p : Addr) (bs : List Bool), xs = [.ref p] ∧ SqL K H p (bs.map V.bl) ∧ Q (.bl (bs.all id)) H
theorem vals_bls {bs : List _} {us} (h : Vals (bs.map V.bl) us) : us = bs.map Value.bool := by
 induction bs generalizing us with
 | nil => cases h; rfl
 | cons b bs ih =>
  cases h with
  | cons a r => rw [ih r]; cases a; rfl
theorem all_range_id (bs : List _) : (List.range bs.length).all (fun i => bs.getD i false) = bs.all id := by
 induction bs with
 | nil => rfl
 | cons b bs ih =>
  rw [List.length_cons, List.range_succ_eq_map, List.all_cons, List.all_map, List.all_cons, ← ih]
  rfl
theorem call_all_list (hc : X.calm = true) : CallR X (.builtin "all") (rAllL X.K) := by
 intro pins s σ H xs us Q I r h
 obtain ⟨p, bs, rfl, hq, q⟩ := h
 obtain ⟨u, rfl, rx⟩ := vals1 r
 cases rx
 obtain ⟨its, r', pl, hz⟩ := I.list hq
 obtain rfl := vals_bls r'
 have hl := pl.isList
 refine call_all_walk (wpAny_pyIter_list hl ?_)
 have ho : p < s.heap.objs.size := by obtain ⟨o, e, _⟩ := hl; exact Heap.lt_size e
 have hh : X.A.in1.handled = none := I.ok.hd hc
 refine ⟨_, _, _, _, _, _, fun i => bs.getD i false, rfl, Walks.list hh _ p (Nat.ne_of_lt ho) _, ⟨⟨_, Heap.get?_push_size _ rfl, rfl, rfl⟩, hl.push _⟩, ?_, ?_⟩
 · intro i v s' Q' E hP hQ
   have e : v = Value.bool (bs.getD i false) := by
    cases hb : bs[i]? with
    | none => simp_all
    | some b =>
     simp_all
   subst e
   exact wpAny_of_eq rfl hQ
 · intro h' tk hk
   have e : (List.range (bs.map Value.bool).toArray.size).all (fun i => bs.getD i false) = bs.all id := by
    rw [List.size_toArray, List.length_map]
    exact all_range_id bs
   rw [e]
   refine ⟨.bl _, H, ?_, rfl, q⟩
   exact I.kept fun b u e => hk b u (fun z => absurd (Heap.lt_size e) (by simp_all)) (Heap.get?_push_of_some _ e)
theorem allK (h : X.K = K) (hc : X.calm = true) : CallR X (.builtin "all") (rAllL K) := by subst h; exact call_all_list hc
theorem noFill_tuple_mul : fillsNumberSlot (.type "tuple") "mul" = pure false := rfl
theorem repeat_tuple : seqRepeat? (.type "tuple") = pure (some (.builtin "tuple.__mul__")) := rfl
theorem int_rmul_tuple (a : Int) (t : Tok) (l : Addr) (items : Array _) (n : Nat) (dd : Option _) (sl : Array _) :
 Meets (Builtin.«int.__rmul__» ⟨[.int a t, .ref l], []⟩) fun _ R s => s.heap.get? l = some { cls := .type "tuple", dict := dd, data := .seq items n, slots := sl } ∧ R (.ok (.ret Value.notImplemented)) s :=
 .of_wp fun prog w A R s h => by obtain ⟨hl, h⟩ := h; wp_walk; exact ⟨_, rfl, h⟩
theorem tuple_mul1 (l : Addr) (items : Array _) (n : Nat) (dd : Option _) (sl : Array _) (u : Tok) :
 Meets (Builtin.«tuple.__mul__» ⟨[.ref l, .int 1 u], []⟩) fun _ R s => s.heap.get? l = some { cls := .type "tuple", dict := dd, data := .seq items n, slots := sl } ∧ R (.ok (.ret (.ref l))) s :=
 .of_wp fun prog w A R s h => by
  obtain ⟨hl, h⟩ := h; wp_walk using AutoSeq1.wpAny_loadPart' hl; exact ⟨_, rfl, h⟩
theorem tuple_mul0 (l : Addr) (v : Value) (n : Nat) (dd : Option _) (sl : Array _) (u : Tok) :
 Meets (Builtin.«tuple.__mul__» ⟨[.ref l, .int 0 u], []⟩) fun _ R s => s.heap.get? l = some { cls := .type "tuple", dict := dd, data := .seq #[v] n, slots := sl } ∧ R (.ok (.ret (.ref s.heap.objs.size))) { s with heap := s.heap.push { cls := .type "tuple", data := .seq #[] } } :=
 .of_wp fun prog w A R s h => by
  obtain ⟨hl, h⟩ := h; wp_walk using AutoSeq1.wpAny_loadPart' hl; exact ⟨_, rfl, h⟩
theorem tuple_mulN (l : Addr) (items : Array _) (n : Nat) (dd : Option _) (sl : Array _) (x : Int) (u : Tok) (c0 : ¬(decide (x < -2 ^ 63) || decide (x ≥ 2 ^ 63)) = true) (c1 : ¬(items.isEmpty || x == 1) = true) (c2 : ¬(decide (x ≤ 0) || items.isEmpty) = true)
 (c3 : ¬items.size * x > (2 ^ 63 - 1) / 8) (c4 : ¬Builtin.Tuple.tupleTooMany (items.size * x) = true) (hsz : ¬ ((List.replicate x.toNat items).foldl (· ++ ·) #[]).size > sizeLine) :
 Meets (Builtin.«tuple.__mul__» ⟨[.ref l, .int x u], []⟩) fun _ R s => s.heap.get? l = some { cls := .type "tuple", dict := dd, data := .seq items n, slots := sl } ∧ R (.ok (.ret (.ref s.heap.objs.size))) { s with heap := s.heap.push { cls := .type "tuple", data := .seq ((List.replicate x.toNat items).foldl (· ++ ·) #[]) } } :=
 .of_wp fun prog w A R s h => by
  obtain ⟨hl, h⟩ := h; refine wpAny_ite_false (decide_eq_false c0) ?_; wp_walk using AutoSeq1.wpAny_loadPart' hl; refine wpAny_ite_false (decide_eq_false c3) ?_; wp_walk; exact ⟨_, rfl, h⟩
end
end L2
end
section
namespace L2
structure Ap (z TI TO i1 i2 : Addr) : Prop where
 TIz : TI ≠ z
 TOz : TO ≠ z
 i1z : i1 ≠ z
 i2z : i2 ≠ z
 TITO : TI ≠ TO
 TIi1 : TI ≠ i1
 TIi2 : TI ≠ i2
 TOi1 : TO ≠ i1
 TOi2 : TO ≠ i2
 i12 : i1 ≠ i2
section
variable {prog : Program} {w : World} {A : Around} {E : Value → Shared → Prop} {s : Shared}
def Agr (z TO i1 i2 : Addr) (h h' : Heap) : Prop := ∀ c o, c ≠ z → c ≠ TO → c ≠ i1 → c ≠ i2 → h.get? c = some o → h'.get? c = some o
theorem zip_next {z TI TO i1 i2 : Addr} {a b : Value} {T1 T2 : Heap → Prop} {P1 P2 : Value → Heap → Prop} {EN : Prop} {Q : Fin → Shared → Prop} (D : Ap z TI TO i1 i2)
 (hz : IsZip s.heap z TI TO .none) (hTI : IsPair s.heap TI (.ref i1) (.ref i2)) (hTO : IsPair s.heap TO a b) (t1 : T1 s.heap) (t2 : T2 s.heap) (f1 : Own1 i1 T1) (f1' : ∀ x, Own1 i1 (P1 x)) (f2 : Own1 i2 T2) (f2' : ∀ y, Own1 i2 (P2 y))
 (n1 : ∀ h, Agr z TO i1 i2 s.heap h → T1 h → ∀ (E' Q' : Value → Shared → Prop), (EN → ∀ h' e, Heap.ExtBut i1 h h' → (∃ o, h'.get? e = some o ∧ o.cls = .type "StopIteration") → E' (.ref e) { s with heap := h' }) → (∀ x h', P1 x h' → Heap.SameBut i1 h h' → Q' x { s with heap := h' }) → wpAny (model prog w) A (Builtin.SmallTypes.nextOf (.ref i1)) Q' E' { s with heap := h })
 (n2 : ∀ x h1, P1 x h1 → ∀ h, Agr z TO i1 i2 s.heap h → T2 h → ∀ (E' Q' : Value → Shared → Prop), (EN → ∀ h' e, Heap.ExtBut i2 h h' → (∃ o, h'.get? e = some o ∧ o.cls = .type "StopIteration") → E' (.ref e) { s with heap := h' }) → (∀ y h', P2 y h' → Heap.SameBut i2 h h' → Q' y { s with heap := h' }) → wpAny (model prog w) A (Builtin.SmallTypes.nextOf (.ref i2)) Q' E' { s with heap := h })
 (hQ : ∀ x y h', IsZip h' z TI TO (rawInt s.heap.objs.size) → IsPair h' TI (.ref i1) (.ref i2) → IsPair h' TO x y → P1 x h' → P2 y h' → IsPair h' s.heap.objs.size x y → h'.objs.size = s.heap.objs.size + 1 → Agr z TO i1 i2 s.heap h' → Q (.done (.ret (.ref s.heap.objs.size))) { s with heap := h' })
 (hE : EN → ∀ h' e, Agr z TO i1 i2 s.heap h' → (∃ o, h'.get? e = some o ∧ o.cls = .type "StopIteration") → E (.ref e) { s with heap := h' }) :
 wpAny (model prog w) A (Builtin.«zip.__next__» ⟨[.ref z], []⟩) Q E s := by
 show wpAny _ _ (field (.ref z) 2 >>= _) _ _ _
 refine wpAny_bind (wpAny_field hz rfl (x := .bool false) rfl ?_)
 show wpAny _ _ (field (.ref z) 3 >>= _) _ _ _
 refine wpAny_bind (wpAny_field hz rfl (x := .ref TI) rfl ?_)
 refine wpAny_bind (wpAny_seqItems hTI rfl ?_)
 show wpAny _ _ (Builtin.SmallTypes.ownedTupleIsFree (.ref z) >>= _) _ _ _
 refine wpAny_bind ?_
 unfold Builtin.SmallTypes.ownedTupleIsFree
 refine wpAny_bind (wpAny_field hz rfl (x := .none) rfl (wpAny_pure ?_))
 simp only [if_true]
 refine wpAny_bind (wpAny_rule ?_)
 refine wpAny_bind (wpAny_field hz rfl (x := .ref TO) rfl ?_)
 refine wpAny_bind (wpAny_setField_rec hz (by simp) fun h₁ hz₁ hs₁ => ?_)
 replace hz₁ : IsZip h₁ z TI TO .ellipsis := hz₁
 refine wpAny_bind ?_
 simp only [List.zipIdx_cons, List.zipIdx_nil, List.forIn_cons, List.forIn_nil]
 have g1 : Agr z TO i1 i2 s.heap h₁ := fun c o c1 _ _ _ e => hs₁.extBut _ _ c1 e
 refine wpAny_bind (wpAny_bind (wpAny_onRaise ?_))
 show wpAny _ _ (Builtin.SmallTypes.nextOf (.ref i1) >>= _) _ _ _
 refine wpAny_bind (n1 h₁ g1 (f1 _ _ t1 fun o e => hs₁.extBut _ _ D.i1z e) _ _ (fun en h₂ e hs₂ he => ?_) fun x h₂ h1₂ hs₂ => wpAny_pure ?_)
 · obtain ⟨oe, hoe, hce⟩ := he
   have hz₂ : IsZip h₂ z TI TO .ellipsis := hs₂ _ _ D.i1z.symm hz₁
   have hez : e ≠ z := fun x => by subst x; rw [hz₂] at hoe; cases hoe; simp at hce
   exact wpAny_setField_rec hz₂ (by simp) fun h₃ _ hs₃ => hE en h₃ e (fun c o c1 c2 c3 c4 x => hs₃.extBut _ _ c1 (hs₂ _ _ c3 (g1 c o c1 c2 c3 c4 x))) ⟨oe, hs₃.extBut _ _ hez hoe, hce⟩
 have hTO₂ : IsPair h₂ TO a b := hs₂.extBut _ _ D.TOi1 (hs₁.extBut _ _ D.TOz hTO)
 refine wpAny_bind (wpAny_seqItems hTO₂ rfl ?_)
 refine wpAny_bind (wpAny_updateSeq_pair hTO₂ fun h₃ hTO₃ hs₃ => ?_)
 replace hTO₃ : IsPair h₃ TO x b := hTO₃
 refine wpAny_bind (wpAny_letGo (wpAny_pure ?_))
 have g3 : Agr z TO i1 i2 s.heap h₃ := fun c o c1 c2 c3 c4 e => hs₃.extBut _ _ c2 (hs₂.extBut _ _ c3 (g1 c o c1 c2 c3 c4 e))
 refine wpAny_bind (wpAny_bind (wpAny_onRaise ?_))
 show wpAny _ _ (Builtin.SmallTypes.nextOf (.ref i2) >>= _) _ _ _
 refine wpAny_bind (n2 _ _ h1₂ h₃ g3 (f2 _ _ t2 fun o e => hs₃.extBut _ _ D.TOi2.symm (hs₂.extBut _ _ D.i12.symm (hs₁.extBut _ _ D.i2z e))) _ _ (fun en h₄ e hs₄ he => ?_) fun y h₄ h2₄ hs₄ => wpAny_pure ?_)
 · obtain ⟨oe, hoe, hce⟩ := he
   have hz₄ : IsZip h₄ z TI TO .ellipsis := hs₄ _ _ D.i2z.symm (hs₃.extBut _ _ D.TOz.symm (hs₂.extBut _ _ D.i1z.symm hz₁))
   have hez : e ≠ z := fun x => by subst x; rw [hz₄] at hoe; cases hoe; simp at hce
   exact wpAny_setField_rec hz₄ (by simp) fun h₅ _ hs₅ => hE en h₅ e (fun c o c1 c2 c3 c4 x => hs₅.extBut _ _ c1 (hs₄ _ _ c4 (g3 c o c1 c2 c3 c4 x))) ⟨oe, hs₅.extBut _ _ hez hoe, hce⟩
 have hTO₄ : IsPair h₄ TO x b := hs₄.extBut _ _ D.TOi2 hTO₃
 refine wpAny_bind (wpAny_seqItems hTO₄ rfl ?_)
 refine wpAny_bind (wpAny_updateSeq_pair hTO₄ fun h₅ hTO₅ hs₅ => ?_)
 replace hTO₅ : IsPair h₅ TO x y := hTO₅
 refine wpAny_bind (wpAny_letGo (wpAny_pure (wpAny_pure ?_)))
 refine wpAny_bind (wpAny_seqItems hTO₅ rfl ?_)
 refine wpAny_bind (wpAny_newTuple ?_)
 have hsz : h₅.objs.size = s.heap.objs.size := by rw [hs₅.1, hs₄.1, hs₃.1, hs₂.1, hs₁.1]
 have hz₅ : IsZip h₅ z TI TO .ellipsis := hs₅.extBut _ _ D.TOz.symm (hs₄.extBut _ _ D.i2z.symm (hs₃.extBut _ _ D.TOz.symm (hs₂.extBut _ _ D.i1z.symm hz₁)))
 have g5 : Agr z TO i1 i2 s.heap h₅ := fun c o c1 c2 c3 c4 e => hs₅.extBut _ _ c2 (hs₄.extBut _ _ c4 (g3 c o c1 c2 c3 c4 e))
 have h1₅ : P1 x h₅ := f1' _ _ _ h1₂ fun o e => hs₅.extBut _ _ D.TOi1.symm (hs₄.extBut _ _ D.i12 (hs₃.extBut _ _ D.TOi1.symm e))
 have h2₅ : P2 y h₅ := f2' _ _ _ h2₄ fun o e => hs₅.extBut _ _ D.TOi2.symm e
 have hzlt : z < h₅.objs.size := Heap.lt_size hz₅
 show wpAny _ _ (Builtin.SmallTypes.ownedTupleHandOut (.ref z) (.ref h₅.objs.size) >>= _) _ _ _
 refine wpAny_bind ?_
 unfold Builtin.SmallTypes.ownedTupleHandOut
 have hz₆ : IsZip (h₅.push { cls := .type "tuple", data := .seq #[x, y] }) z TI TO .ellipsis := Heap.get?_push_of_some _ hz₅
 refine wpAny_bind (wpAny_setField_rec hz₆ (by simp) fun h₇ hz₇ hs₇ => ?_)
 replace hz₇ : IsZip h₇ z TI TO (rawInt h₅.objs.size) := hz₇
 refine wpAny_setField_rec hz₇ (by simp) fun h₈ hz₈ hs₈ => ?_
 replace hz₈ : IsZip h₈ z TI TO (rawInt h₅.objs.size) := hz₈
 have up : ∀ c o, c ≠ z → h₅.get? c = some o → h₈.get? c = some o := fun c o c1 e => hs₈.extBut _ _ c1 (hs₇.extBut _ _ c1 (Heap.get?_push_of_some _ e))
 have hT₈ : IsPair h₈ h₅.objs.size x y := hs₈.extBut _ _ (Nat.ne_of_gt hzlt) (hs₇.extBut _ _ (Nat.ne_of_gt hzlt) (Heap.get?_push_size _ rfl))
 have hz8 : h₈.objs.size = h₅.objs.size + 1 := by rw [hs₈.1, hs₇.1, Heap.size_push]
 rw [hsz] at hz₈ hT₈ hz8
 refine wpAny_pure ?_
 show Q (.done (.ret (.ref h₅.objs.size))) _
 rw [hsz]
 exact hQ _ _ h₈ hz₈ (up _ _ D.TIz (g5 _ _ D.TIz D.TITO D.TIi1 D.TIi2 hTI)) (up _ _ D.TOz hTO₅) (f1' _ _ _ h1₅ fun o e => up _ o D.i1z e) (f2' _ _ _ h2₅ fun o e => up _ o D.i2z e) hT₈ hz8 fun c o c1 c2 c3 c4 e => up c o c1 (g5 c o c1 c2 c3 c4 e)
end
def Itz (S1 S2 : Hp → List V → Prop) : It := ⟨fun i H => ∃ xs x ys y, S1 H xs ∧ xs[i]? = some x ∧ S2 H ys ∧ ys[i]? = some y,
 fun i H v H' => ∃ p x y, H p = none ∧ v = .ref p ∧ (∀ xs, S1 H xs → xs[i]? = some x) ∧ (∀ ys, S2 H ys → ys[i]? = some y) ∧ H' = upd H p (.tup [x, y]),
 fun i H => ∃ xs ys, S1 H xs ∧ S2 H ys ∧ (xs.length ≤ i ∨ ys.length ≤ i)⟩
theorem turn_zip {P : Program} {w : World} {K : PySem.W.Frag} {elts : List Expr} {x1} {pt : Pos} {z TI TO i1 i2 l1 l2 : Addr} {S1 S2 : Hp → List V → Prop} {T1 T2 : Nat → Heap → Prop} (D : Ap z TI TO i1 i2)
 (k1 : ItK P w K S1 l1 i1 T1) (k2 : ItK P w K S2 l2 i2 T2) (a1 : l1 ≠ z ∧ l1 ≠ TO ∧ l1 ≠ i1 ∧ l1 ≠ i2) (a2 : l2 ≠ z ∧ l2 ≠ TO ∧ l2 ≠ i1 ∧ l2 ≠ i2) :
 Turn P w K (.Tuple elts x1 pt) (Itz S1 S2) [z, TI, TO, i1, i2] z (fun i h => T1 i h ∧ T2 i h ∧ IsZip h z TI TO .none ∧ IsPair h TI (.ref i1) (.ref i2) ∧ ∃ a b, IsPair h TO a b) where
 mem := by simp
 obj := fun i h st b hb => by
  obtain ⟨t1, t2, hz, hTI, u, v, hTO⟩ := st
  simp only [List.mem_cons, List.not_mem_nil, or_false] at hb
  rcases hb with e | e | e | e | e
  · simp_all
  · simp_all
  · simp_all
  · rw [e]; exact k1.obj _ _ t1
  · rw [e]; exact k2.obj _ _ t2
 keep := fun i h h' st k => by
  obtain ⟨t1, t2, hz, hTI, u, v, hTO⟩ := st
  exact ⟨k1.own i _ _ t1 fun o q => k i1 (by simp) o q, k2.own i _ _ t2 fun o q => k i2 (by simp) o q, k z (by simp) _ hz, k TI (by simp) _ hTI, u, v, k TO (by simp) _ hTO⟩
 item := by
  intro X hP hw hK hc i pins s σ H E I hf st hg
  obtain ⟨xs, x, ys, y, q1, hx, q2, hy⟩ := hg
  obtain ⟨t1, t2, hz, hTI, u, v, hTO⟩ := st
  obtain ⟨u1, r1, n1⟩ := k1.nx X hK pins σ H s xs x i I q1 hx
  obtain ⟨u2, r2, n2⟩ := k2.nx X hK pins σ H s ys y i I q2 hy
  have hT : s.TypeIs (.ref z) "zip" := ⟨_, hz, rfl⟩
  unfold pyNext
  refine wpAny_bind (wpAny_attempt (wpAny_callSpecial?_slot (name := Str.ofString "__next__") hT F.slot_zip_next
   (wpAny_call_entry F.slot_zip_next hT F.entry_zip_next
    (zip_next (T1 := T1 i) (T2 := T2 i) (P1 := fun x h => u1 = x ∧ T1 (i + 1) h) (P2 := fun x h => u2 = x ∧ T2 (i + 1) h) (EN := False) D hz hTI hTO t1 t2 (k1.own i) (fun x h h' t q => ⟨t.1, k1.own _ _ _ t.2 q⟩) (k2.own i) (fun x h h' t q => ⟨t.1, k2.own _ _ _ t.2 q⟩)
     (fun h g t E' Q' _ hQ => n1 h (fun o e => g _ o a1.1 a1.2.1 a1.2.2.1 a1.2.2.2 e) t _ _ _ fun h' t => hQ _ h' ⟨rfl, t⟩) (fun _ _ _ h g t E' Q' _ hQ => n2 h (fun o e => g _ o a2.1 a2.2.1 a2.2.2.1 a2.2.2.2 e) t _ _ _ fun h' t => hQ _ h' ⟨rfl, t⟩)
     (fun w1 w2 h' b1 b2 b3 ⟨e4, b4⟩ ⟨e5, b5⟩ b6 b7 b8 => ⟨_, rfl, wpAny_pure ?_⟩) nofun) (F.args_zip_next_1 _))))
  subst e4 e5
  refine ⟨_, rfl, wpAny_letOwnedTupleGo_zip b1 fun h2 c2 hs2 => ?_⟩
  have pz : s.heap.objs.size ≠ z := Nat.ne_of_gt (Heap.lt_size hz)
  have k2' : ∀ b o, b ∉ [z, TI, TO, i1, i2] → s.heap.get? b = some o → h2.get? b = some o := fun b o hb q => by
   simp only [List.mem_cons, List.not_mem_nil, or_false, not_or] at hb
   exact (hs2.2 b hb.1).trans (b8 b o hb.1 hb.2.2.1 hb.2.2.2.1 hb.2.2.2.2 q)
  have I2 : Inv X pins σ H { s with heap := h2, toks := s.toks } := I.turnedL k2' hf
  have f := I.fpOk (Nat.le_refl _) (I.hok.fresh (Nat.le_refl _))
  have hpt : h2.get? s.heap.objs.size = some { cls := .type "tuple", data := .seq #[u1, u2] } := (hs2.2 _ pz).trans b6
  have I3 := I2.track (o := .tup [x, y]) f ⟨(by show 2 ≤ sizeLine; decide), [u1, u2], .cons r1 (.cons r2 .nil), ⟨_, hpt, rfl, 0, rfl⟩⟩
  have up : ∀ c, c ≠ z → ∀ o, h'.get? c = some o → h2.get? c = some o := fun c hc o e => (hs2.2 c hc).trans e
  refine ⟨.ref s.heap.objs.size, _, I3, rfl, ⟨s.heap.objs.size, x, y, f.1, rfl, fun zs hy' => by rw [k1.inj X pins σ H s zs xs hK I hy' q1]; exact hx, fun zs hy' => by rw [k2.inj X pins σ H s zs ys hK I hy' q2]; exact hy, rfl⟩,
   ⟨k1.own _ _ _ b4 (up _ D.i1z), k2.own _ _ _ b5 (up _ D.i2z), c2, up _ D.TIz _ b2, _, _, up _ D.TOz _ b3⟩, fun b hb => ?_⟩
  have hlt : b < s.heap.objs.size := by
   simp only [List.mem_cons, List.not_mem_nil, or_false] at hb
   rcases hb with e | e | e | e | e
   · rw [e]; exact Heap.lt_size hz
   · rw [e]; exact Heap.lt_size hTI
   · rw [e]; exact Heap.lt_size hTO
   · rw [e]; obtain ⟨o, q, _⟩ := k1.obj _ _ t1; exact Heap.lt_size q
   · rw [e]; obtain ⟨o, q, _⟩ := k2.obj _ _ t2; exact Heap.lt_size q
  rw [upd_ne (Nat.ne_of_lt hlt)]
  exact (hf b hb).1
 done := by
  intro X hP hw hK hc i pins s σ H E I hf st hg
  obtain ⟨xs, ys, q1, q2, hend⟩ := hg
  obtain ⟨t1, t2, hz, hTI, u, v, hTO⟩ := st
  have hT : s.TypeIs (.ref z) "zip" := ⟨_, hz, rfl⟩
  unfold pyNext
  refine wpAny_bind (wpAny_attempt (wpAny_callSpecial?_slot (name := Str.ofString "__next__") hT F.slot_zip_next
   (wpAny_call_entry F.slot_zip_next hT F.entry_zip_next (zip_next (T1 := T1 i) (T2 := T2 i) (P1 := fun _ _ => ys.length ≤ i) (P2 := fun _ _ => False) (EN := True) D hz hTI hTO t1 t2 (k1.own i) (fun _ _ _ h _ => h) (k2.own i) (fun _ _ _ h _ => h) (fun h g t E' Q' hE hI => ?_)
    (fun _ _ h2 h3 g3 t3 E' Q' hE3 _ => k2.en X hK pins σ H s ys i I q2 h2 h3 (fun o e => g3 _ o a2.1 a2.2.1 a2.2.2.1 a2.2.2.2 e) t3 _ _ _ (I.ok.hd hc) (hE3 trivial)) (fun _ _ _ _ _ _ _ h => h.elim) fun _ h' e g he => ?_) (F.args_zip_next_1 _))))
  · by_cases h1 : xs.length ≤ i
    · exact k1.en X hK pins σ H s xs i I q1 h1 h (fun o e => g _ o a1.1 a1.2.1 a1.2.2.1 a1.2.2.2 e) t _ _ _ (I.ok.hd hc) (hE trivial)
    · have h2 : ys.length ≤ i := by simp_all
      obtain ⟨u1, r1, n1⟩ := k1.nx X hK pins σ H s xs (xs[i]'(by omega)) i I q1 (List.getElem?_eq_getElem (by omega))
      exact n1 h (fun o e => g _ o a1.1 a1.2.1 a1.2.2.1 a1.2.2.2 e) t _ _ _ fun h' _ sb => hI _ h' h2 sb
  · obtain ⟨o, ho, hc'⟩ := he
    refine wpAny_bind (wpAny_isInstance (T := "StopIteration") (b := true) ⟨o, ho, hc'⟩ isSubtype_stop ?_)
    refine wpAny_pure ⟨rfl, ?_⟩
    exact I.turnedL (t' := s.toks) (ch := [z, TI, TO, i1, i2]) (fun b o hb q => by
     simp only [List.mem_cons, List.not_mem_nil, or_false, not_or] at hb
     exact g b o hb.1 hb.2.2.1 hb.2.2.2.1 hb.2.2.2.2 q) hf
 self := fun A i s Q E st h => by
  obtain ⟨t1, t2, hz, _⟩ := st
  exact wpAny_pyIter_zip hz h
abbrev zT1 (h : Heap) (l1 : Addr) : Heap := h.push { cls := .type "tuple_iterator", data := .fields #[.ref l1, .int 0 0] }
abbrev zT2 (h : Heap) (l1 l2 : Addr) : Heap := (zT1 h l1).push { cls := .type "tuple_iterator", data := .fields #[.ref l2, .int 0 0] }
abbrev zT3 (h : Heap) (l1 l2 : Addr) : Heap := (zT2 h l1 l2).push { cls := .type "tuple", data := .seq #[.ref h.objs.size, .ref (zT1 h l1).objs.size] }
abbrev zT4 (h : Heap) (l1 l2 : Addr) : Heap := (zT3 h l1 l2).push { cls := .type "tuple", data := .seq #[.none, .none] }
abbrev zT5 (h : Heap) (l1 l2 : Addr) : Heap := (zT4 h l1 l2).push { cls := .type "zip", data := .fields #[.none, .bool false, .bool false, .ref (zT2 h l1 l2).objs.size, .ref (zT3 h l1 l2).objs.size] }
theorem isTuple_push {h : Heap} {a} {items} (x : h.IsTuple a items) (o : Obj) : (h.push o).IsTuple a items := by
 obtain ⟨o', e, r⟩ := x
 exact ⟨o', Heap.get?_push_of_some _ e, r⟩
theorem meets_zip_newT (l1 l2 : Addr) (xs ys : Array Value) :
 Meets (Builtin.«zip.__new__» ⟨[.type "zip", .ref l1, .ref l2], []⟩) (fun _ R s => s.heap.IsTuple l1 xs ∧ s.heap.IsTuple l2 ys ∧
  R (.ok (.ret (.ref (zT4 s.heap l1 l2).objs.size))) { s with heap := zT5 s.heap l1 l2 }) :=
 .of_wp fun prog w A R s h => by
  obtain ⟨hp, g, d, tk, os⟩ := s; obtain ⟨hl1, hl2, h⟩ := h
  have hsub := sub_zip
  have hL1 := hl1
  have hL2 : Heap.IsTuple (Shared.heap ⟨hp.push { cls := .type "tuple_iterator", data := .fields #[.ref l1, .int 0 0] }, g, d, tk, os⟩) l2 ys := isTuple_push hl2 _
  wp_walk using wpAny_pyIter_tuple hL1, wpAny_pyIter_tuple hL2
  exact ⟨_, rfl, h⟩
section
variable {prog : Program} {w : World} {A : Around} {E : Value → Shared → Prop} {s : Shared}
theorem call_zipT {l1 l2 : Addr} {xs ys : Array Value} {Q : Value → Shared → Prop} (hl1 : s.heap.IsTuple l1 xs) (hl2 : s.heap.IsTuple l2 ys)
 (h : ∀ h', IsZip h' (s.heap.objs.size + 4) (s.heap.objs.size + 2) (s.heap.objs.size + 3) .none → IsPair h' (s.heap.objs.size + 2) (.ref s.heap.objs.size) (.ref (s.heap.objs.size + 1)) →
  IsPair h' (s.heap.objs.size + 3) .none .none → h'.IsTupleIter s.heap.objs.size l1 0 → h'.IsTupleIter (s.heap.objs.size + 1) l2 0 → h'.objs.size = s.heap.objs.size + 5 →
  (∀ c o, s.heap.get? c = some o → h'.get? c = some o) → Q (.ref (s.heap.objs.size + 4)) { s with heap := h' }) :
 wpAny (model prog w) A (call (.type "zip") [.ref l1, .ref l2]) Q E s := by
 refine callType_new F.called_zip (by decide) (F.typeCall_zip_2 _ _) (F.newCall_zip_2 _ _) (fun obj => F.args_object_init_3 obj _ _) F.entry_zip_new
  (meets_zip_newT l1 l2 xs ys) ⟨hl1, hl2, ?_⟩
 have z1 : (zT1 s.heap l1).objs.size = s.heap.objs.size + 1 := Heap.size_push ..
 have z2 : (zT2 s.heap l1 l2).objs.size = s.heap.objs.size + 2 := by rw [Heap.size_push, z1]
 have z3 : (zT3 s.heap l1 l2).objs.size = s.heap.objs.size + 3 := by rw [Heap.size_push, z2]
 have z4 : (zT4 s.heap l1 l2).objs.size = s.heap.objs.size + 4 := by rw [Heap.size_push, z3]
 have z5 : (zT5 s.heap l1 l2).objs.size = s.heap.objs.size + 5 := by rw [Heap.size_push, z4]
 have g5 : (zT5 s.heap l1 l2).get? _ = some _ := Heap.get?_push_size _ rfl
 have g4 : (zT5 s.heap l1 l2).get? _ = some _ := Heap.get?_push_of_some _ (Heap.get?_push_size _ rfl)
 have g3 : (zT5 s.heap l1 l2).get? _ = some _ := Heap.get?_push_of_some _ (Heap.get?_push_of_some _ (Heap.get?_push_size _ rfl))
 have g2 : (zT5 s.heap l1 l2).get? _ = some _ := Heap.get?_push_of_some _ (Heap.get?_push_of_some _ (Heap.get?_push_of_some _ (Heap.get?_push_size _ rfl)))
 have g1 : (zT5 s.heap l1 l2).get? _ = some _ := Heap.get?_push_of_some _ (Heap.get?_push_of_some _ (Heap.get?_push_of_some _ (Heap.get?_push_of_some _ (Heap.get?_push_size _ rfl))))
 rw [z2, z3, z4] at g5
 rw [z1, z2] at g3
 rw [z3] at g4
 rw [z1] at g2
 rw [z4]
 exact ⟨⟨_, g5, rfl⟩, h _ g5 g3 g4 ⟨_, g1, rfl, rfl⟩ ⟨_, g2, rfl, rfl⟩ z5 fun c o x =>
  Heap.get?_push_of_some _ (Heap.get?_push_of_some _ (Heap.get?_push_of_some _ (Heap.get?_push_of_some _ (Heap.get?_push_of_some _ x))))⟩
end
theorem ap_new (n : Addr) : Ap (n + 4) (n + 2) (n + 3) n (n + 1) where
 TIz := Nat.ne_of_lt (Nat.add_lt_add_left (by decide) n)
 TOz := Nat.ne_of_lt (Nat.add_lt_add_left (by decide) n)
 i1z := Nat.ne_of_lt (Nat.lt_add_of_pos_right (by decide))
 i2z := Nat.ne_of_lt (Nat.add_lt_add_left (by decide) n)
 TITO := Nat.ne_of_lt (Nat.add_lt_add_left (by decide) n)
 TIi1 := Nat.ne_of_gt (Nat.lt_add_of_pos_right (by decide))
 TIi2 := Nat.ne_of_gt (Nat.add_lt_add_left (by decide) n)
 TOi1 := Nat.ne_of_gt (Nat.lt_add_of_pos_right (by decide))
 TOi2 := Nat.ne_of_gt (Nat.add_lt_add_left (by decide) n)
 i12 := Nat.ne_of_lt (Nat.lt_add_of_pos_right (by decide))
theorem below_new {n l : Addr} (h : l < n) : l ≠ n + 4 ∧ l ≠ n + 3 ∧ l ≠ n ∧ l ≠ n + 1 :=
 ⟨Nat.ne_of_lt (Nat.lt_of_lt_of_le h (Nat.le_add_right n 4)), Nat.ne_of_lt (Nat.lt_of_lt_of_le h (Nat.le_add_right n 3)), Nat.ne_of_lt h, Nat.ne_of_lt (Nat.lt_of_lt_of_le h (Nat.le_add_right n 1))⟩
def iZip (b : Bool) (K : PySem.W.Frag) (ta : TA) : TI := fun σ H R => ta σ H fun vs H1 => ∃ a c, vs = [.ref a, .ref c] ∧ (∃ xs, SqB K b H1 a xs) ∧ (∃ ys, SqB K b H1 c ys) ∧ R (Itz (fun H xs => SqB K b H a xs) (fun H ys => SqB K b H c ys)) H1
section
variable {X : Cx}
theorem boot_zip : bootBuiltins "zip" = some (.type "zip") := rfl
theorem zip_fp {σ : St} {H} {s} (I : Inv X pins σ H s) : ∀ b ∈ [s.heap.objs.size + 4, s.heap.objs.size + 2, s.heap.objs.size + 3, s.heap.objs.size, s.heap.objs.size + 1], FpOk X pins H b := fun b hb => by
 have hle : s.heap.objs.size ≤ b := by
  simp only [List.mem_cons] at hb
  rcases hb with e | e | e | e | e
  · simp_all
  · simp_all
  · simp_all
  · simp_all
  simp_all
 exact I.fpOk hle (I.hok.fresh hle)
theorem pi_zip (k : Bool) {elts : List Expr} {x1} {pt : Pos} {a b : Expr} {ta : TA} {p pos : Pos} (hg : Gl X "zip") (hm : X.mg "zip" = none) (ha : PA X [a, b] ta) (hs : starEach [a, b] X.env = (false, eval a X.env) :: starEach [b] X.env) (hpl : (backTo pos (starEach [b] X.env)).any (·.1) = false) :
 PI X (.Tuple elts x1 pt) (.Call (.Name "zip" p) [a, b] [] pos) (iZip k X.K ta) := by
 intro pins s σ H R I h
 refine Call_ (ld_blt I hg hm boot_zip (PyProof.Rows.callWith_type1 (thn (ha pos pins s σ H _ I h) fun us s1 ⟨vs, H1, I1, r1, q1⟩ => ?_) hs hpl))
 obtain ⟨t1, t2, e, ⟨xs, hq1⟩, ⟨ys, hq2⟩, q⟩ := q1
 subst e
 obtain ⟨u1, u2, rfl, ru1, ru2⟩ := vals2 r1
 cases ru1
 cases ru2
 have go : t1 < s1.heap.objs.size → t2 < s1.heap.objs.size → ∀ h', IsZip h' (s1.heap.objs.size + 4) (s1.heap.objs.size + 2) (s1.heap.objs.size + 3) .none → IsPair h' (s1.heap.objs.size + 2) (.ref s1.heap.objs.size) (.ref (s1.heap.objs.size + 1)) → IsPair h' (s1.heap.objs.size + 3) .none .none →
  itB k t1 s1.heap.objs.size 0 h' → itB k t2 (s1.heap.objs.size + 1) 0 h' → (∀ c o, s1.heap.get? c = some o → h'.get? c = some o) → wpAny (model X.prog X.w) X.A (pyIter (.ref (s1.heap.objs.size + 4))) (PIE X pins σ (.Tuple elts x1 pt) R) X.xe { s1 with heap := h' } := fun lt1 lt2 h' hz hTI hTO hi1 hi2 hk =>
  wpAny_pyIter_zip hz ⟨_, _, _, _, H1, rfl, I1.kept (t' := s1.toks) hk, turn_zip (ap_new _) (itk_b k t1 _) (itk_b k t2 _) (below_new lt1) (below_new lt2), ⟨hi1, hi2, hz, hTI, _, _, hTO⟩, zip_fp I1, q⟩
 cases k
 · obtain ⟨its1, rv1, ht1, hz1⟩ := I1.list hq1
   obtain ⟨its2, rv2, ht2, hz2⟩ := I1.list hq2
   exact call_zip_2 ht1.isList ht2.isList fun h' a b c d e _ g => go (by obtain ⟨o, e, _⟩ := ht1.isList; exact Heap.lt_size e) (by obtain ⟨o, e, _⟩ := ht2.isList; exact Heap.lt_size e) h' a b c d e g
 · obtain ⟨its1, rv1, ht1, hz1⟩ := I1.tuple hq1
   obtain ⟨its2, rv2, ht2, hz2⟩ := I1.tuple hq2
   exact call_zipT ht1 ht2 fun h' a b c d e _ g => go ht1.lt ht2.lt h' a b c d e g
end
theorem pgK_tup {K} {pos} {es} {k} {t} {n} (hK : X.K = K) (hc : X.calm = true) (h : PGs X es t)
 (hn : (assignEach es X.env).length = n := by rfl) (hst : (assignEach es X.env).findIdx? (·.1) = none := by rfl) : PG X (.Tuple es k pos) (gTup K n t) := by
 subst hK
 exact pg_tup hc h hn hst
structure Mk0 (K : PySem.W.Frag) (C : Addr) : Prop where
 makes : PySem.W.makesIn K C = true
 init : PySem.W.findIn K (.ref C) "__init__" = some (some (.builtin "object.__init__"))
 kp : PySem.W.keepIn K (.ref C) = true
section
variable {X : Cx} {C : Addr} {pins : List (Addr × Obj)} {σ : St} {H : Hp} {s : Shared} {Q : VK} {x m : Str} {p pos apos : Pos} {e o : Expr} {es : List Expr} {ta : TE} {t : TA}
structure HasM (P : Program) (w : World) (K : PySem.W.Frag) (mg : Str → Option Value) (base : Heap) (k : Nat) (C : Addr) (m : Str) (ps : List Str) (sp : Sp) : Prop where
 ex : ∃ f fd, FnOk P w K mg base CX0 k f fd ps sp ∧ Meth K C m f ∧ Binds K fd ps []
structure IsO (K : PySem.W.Frag) (D C : Addr) (b : Bool) : Prop where
 ha : PySem.W.findIn K (.ref D) "__class__" = some (some (.builtin "object.__class__"))
 hn : PySem.W.specialIn K (.builtin "object.__class__") "__get__" = some (some (.builtin "getset_descriptor.__get__"))
 ht : PySem.W.takesIn K (.builtin "object.__class__") = some true
 hm : PySem.W.mroIn K D (.type "object") = some true
 e : PySem.W.kitOne K (.ref D) (.ref C) = some b
end
structure DfM (K : PySem.W.Frag) (C : Addr) (m qual : Str) (st : Stmt) : Prop where
 ex : ∃ f fd, Fun K m qual st f fd ∧ Meth K C m f
section
variable {P : Program} {w : World} {K : PySem.W.Frag} {mg : Str → Option Value} {base : Heap}
theorem DfM.has {st} {N ps} {k} {sp} (F : DfM K C m qual st) (S : FnScope N ps (defScope st))
 (hb : ∀ (kV doc pm : Value) (an : Option _) (cdv ct : Value) (us : List _), us.length = ps.length → bindArgs (PySem.W.fnOf m qual (defArgs st) (defBody st) (defScope st) .none kV doc pm an cdv ct) ⟨us, []⟩ = pure (ps.zip us))
 (len : ∀ vs H Q E, sp vs H Q E → vs.length = ps.length)
 (hbody : ∀ (f : Addr) (cdv : Value) (A : Around) (outer : List _) (s : Shared) (H : Hp) (vs : List V) (Q : VK) (E : XK), Room k (A.deeper (envOfC qual (defScope st) s.heap.objs.size f cdv)) → sp vs H Q E →
  ∃ t, PSs (cxOf CX0 P w K mg base N qual (defScope st) f cdv A outer s H E).nox (defBody st) t ∧ t { nx := fun _ H' => Q .non H', rt := Q } (start N vs) H) : HasM P w K mg base (k + 1) C m ps sp := by
 obtain ⟨f, fd, F, m⟩ := F.ex
 exact ⟨f, fd, F.ok S len (hbody f), m, F.binds hb⟩
end
def rCatS (K : PySem.W.Frag) : R2 := fun x y H Q => ∃ l b xs zs, x = .ref l ∧ y = .ref b ∧ SqL K H l xs ∧ SqL K H b zs ∧ xs.length + zs.length ≤ sizeLine ∧ ∀ p, H p = none → Q (.ref p) (upd H p (.lst (xs ++ zs)))
section
variable {X : Cx}
theorem op_catS : OpR X (binaryOp .Add) (rCatS X.K) := by
 intro pins s σ H x y v u Q I rx ry h
 obtain ⟨l, b, xs, zs, rfl, rfl, hH, hB, hz, q⟩ := h
 cases rx
 cases ry
 obtain ⟨its, r, ⟨⟨c1, d1, t1, s1⟩, n1, e1, k1, k2, k3⟩, _⟩ := I.list hH
 obtain ⟨its2, r2, ⟨⟨c2, d2, t2, s2⟩, n2, e2, j1, j2, j3⟩, _⟩ := I.list hB
 subst k1 k2 k3 j1 j2 j3
 have l1 := r.length
 have l2 := r2.length
 have e : its.toArray ++ its2.toArray = (its ++ its2).toArray := by simp
 refine concat_meets ⟨_, e1, rfl⟩ ⟨_, e2, rfl⟩ noFill_list_add seq_list_add PySem.F.slot_list_add PySem.F.entry_list_add (PySem.F.args_list_add_2 _ _) (list_addW l b _ _ n1 n2 _ _ s1 s2 (by simp; omega)) ⟨e1, e2, ?_⟩
 rw [e]
 exact ⟨.ref _, _, I.lnew (r.append r2) (by simp_all), rfl, q _ I.fresh⟩
theorem catKS {K} (h : X.K = K) : OpR X (binaryOp .Add) (rCatS K) := by subst h; exact op_catS
end
end L2
end
section
namespace L2
open PySem PySem.Spec PyProof.Rows SeqAt
def TupAt (K : PySem.W.Frag) (L : Addr → Prop) (H : Hp) (a : Addr) (xs : List V) : Prop :=
 (Rd H a (.tup xs) ∧ ¬ L a) ∨
  ∃ (o : Obj) (its : Array Value) (n : Nat), K.lookup a = some o ∧ o.cls = .type "tuple" ∧ o.data = .seq its n ∧ its.size ≤ sizeLine ∧ Vals xs its.toList
def LstAt (K : PySem.W.Frag) (L : Addr → Prop) (H : Hp) (a : Addr) (xs : List V) : Prop :=
 (Rd H a (.lst xs) ∧ ¬ L a) ∨
  ∃ (o : Obj) (its : Array Value) (n : Nat), K.lookup a = some o ∧ o.cls = .type "list" ∧ o.dict = none ∧ o.data = .seq its n ∧ its.size ≤ sizeLine ∧ Vals xs its.toList
theorem TupAt.sq {K} {L} {H} {a} {xs} (h : TupAt K L H a xs) : SqT K H a xs := h.elim (fun x => .inl x.1) .inr
theorem LstAt.sq {K} {L} {H} {a} {xs} (h : LstAt K L H a xs) : SqL K H a xs := h.elim (fun x => .inl x.1) .inr
structure Stp (L : Addr → Prop) (H : Hp) (L' : Addr → Prop) (H' : Hp) : Prop where
 keep : ∀ a o, ¬ L a → H a = some o → H' a = some o
 new : ∀ a, L' a → L a ∨ H a = none
theorem Stp.refl (L : Addr → Prop) (H : Hp) : Stp L H L H := ⟨fun _ _ _ h => h, fun _ h => .inl h⟩
theorem Stp.trans {H H1 H2} (a : Stp L H L1 H1) (b : Stp L1 H1 L2 H2) : Stp L H L2 H2 :=
 ⟨fun x o n h => b.keep x o (fun z => (a.new x z).elim n fun q => by rw [h] at q; cases q) (a.keep x o n h), fun x z => (b.new x z).elim (a.new x) fun q => by
  by_cases hx : L x
  · exact .inl hx
  · right
    cases e : H x with
    | none => rfl
    | some o => rw [a.keep x o hx e] at q; cases q⟩
theorem Stp.fresh {H} {p} {o} (h : H p = none) : Stp L H L (upd H p o) :=
 ⟨fun a u _ e => by rw [upd_ne (ne_of_none e h)]; exact e, fun _ z => .inl z⟩
theorem Rd.step {H H'} {a} {u} (s : Stp L H L' H') (r : Rd H a u) (n : ¬ L a) : Rd H' a u ∧ ¬ L' a := by
 rcases r with r | ⟨o, r⟩
 · exact ⟨.inl (s.keep a _ n r), fun z => (s.new a z).elim n fun q => by rw [r] at q; cases q⟩
 · exact ⟨.inr ⟨o, s.keep a _ n r⟩, fun z => (s.new a z).elim n fun q => by rw [r] at q; cases q⟩
def ClsNm (K : PySem.W.Frag) (C : Addr) (q : Str) : Prop := (∃ (o : Obj) (c : ClassData), K.lookup C = some o ∧ o.data = .cls c ∧ c.name = q) ∧ PySem.W.nsIn K mainGlobals q = some (some (.ref C))
def InsAt (K : PySem.W.Frag) (L : Addr → Prop) (H : Hp) (a : Addr) (q : Str) : Prop := ∃ C dx, H a = some (.ins C dx []) ∧ ¬ L a ∧ ClsNm K C q
mutual
def Rp (K : PySem.W.Frag) (L : Addr → Prop) (H : Hp) : T → V → Prop
 | .non, v => v = .non
 | .bl b, v => v = .bl b
 | .int i, v => v = .int i
 | .str x, v => v = .str x
 | .tup xs, v => ∃ a vs, v = .ref a ∧ TupAt K L H a vs ∧ Rps K L H xs vs
 | .lst xs, v => ∃ a vs, v = .ref a ∧ LstAt K L H a vs ∧ Rps K L H xs vs
 | .ins q, v => ∃ a, v = .ref a ∧ InsAt K L H a q
def Rps (K : PySem.W.Frag) (L : Addr → Prop) (H : Hp) : List T → List V → Prop
 | [], vs => vs = []
 | x :: xs, vs => ∃ v r, vs = v :: r ∧ Rp K L H x v ∧ Rps K L H xs r
end
section
variable {K : PySem.W.Frag} {L L' : Addr → Prop} {H H' : Hp}
theorem TupAt.step (s : Stp L H L' H') {a} {xs} (h : TupAt K L H a xs) : TupAt K L' H' a xs := h.elim (fun x => .inl (x.1.step s x.2)) .inr
theorem LstAt.step (s : Stp L H L' H') {a} {xs} (h : LstAt K L H a xs) : LstAt K L' H' a xs := h.elim (fun x => .inl (x.1.step s x.2)) .inr
theorem InsAt.step (s : Stp L H L' H') {a} {q} (h : InsAt K L H a q) : InsAt K L' H' a q := by
 obtain ⟨C, dx, e, n, c⟩ := h
 exact ⟨C, dx, s.keep a _ n e, fun z => (s.new a z).elim n (fun y => by rw [e] at y; cases y), c⟩
mutual
theorem Rp.step (s : Stp L H L' H') : ∀ {t} {v}, Rp K L H t v → Rp K L' H' t v
 | .non, _, r => r
 | .bl _, _, r => r
 | .int _, _, r => r
 | .str _, _, r => r
 | .tup xs, _, r => by
  obtain ⟨a, vs, e, q, rs⟩ := r
  exact ⟨a, vs, e, q.step s, Rps.step s rs⟩
 | .lst xs, _, r => by
  obtain ⟨a, vs, e, q, rs⟩ := r
  exact ⟨a, vs, e, q.step s, Rps.step s rs⟩
 | .ins _, _, r => by
  obtain ⟨a, e, q⟩ := r
  exact ⟨a, e, q.step s⟩
theorem Rps.step (s : Stp L H L' H') : ∀ {ts} {vs}, Rps K L H ts vs → Rps K L' H' ts vs
 | [], _, r => r
 | t :: ts, _, r => by
  obtain ⟨v, rs, e, r1, r2⟩ := r
  exact ⟨v, rs, e, Rp.step s r1, Rps.step s r2⟩
end
theorem Rps.length : ∀ {ts} {vs}, Rps K L H ts vs → vs.length = ts.length
 | [], _, r => by rw [r]; rfl
 | t :: ts, _, r => by obtain ⟨v, rs, rfl, r1, r2⟩ := r; rw [List.length_cons, List.length_cons, Rps.length r2]
theorem Rps.get : ∀ {ts} {vs} {i : Nat} {t}, Rps K L H ts vs → ts[i]? = some t → ∃ v, vs[i]? = some v ∧ Rp K L H t v
 | [], _, _, _, r, e => by simp at e
 | x :: xs, _, 0, t, r, e => by
  obtain ⟨v, rs, rfl, r1, r2⟩ := r
  grind
 | x :: xs, _, i + 1, t, r, e => by
  obtain ⟨v, rs, rfl, r1, r2⟩ := r
  obtain ⟨u, h1, h2⟩ := Rps.get r2 (by simpa using e)
  grind
theorem Rps.append : ∀ {ts us} {vs ws}, Rps K L H ts vs → Rps K L H us ws → Rps K L H (ts ++ us) (vs ++ ws)
 | [], _, _, _, r, q => by rw [r]; exact q
 | t :: ts, us, _, ws, r, q => by obtain ⟨v, rs, rfl, r1, r2⟩ := r; exact ⟨v, _, rfl, r1, Rps.append r2 q⟩
theorem Rps.one (r : Rp K L H t v) : Rps K L H [t] [v] := ⟨v, [], rfl, r, rfl⟩
theorem Rps.nil : Rps K L H [] [] := rfl
theorem Rps.cons {vs} (r : Rp K L H t v) (q : Rps K L H ts vs) : Rps K L H (t :: ts) (v :: vs) := ⟨v, vs, rfl, r, q⟩
theorem Rps.take : ∀ (n : Nat) {ts} {vs}, Rps K L H ts vs → Rps K L H (ts.take n) (vs.take n)
 | 0, _, _, _ => rfl
 | n + 1, [], _, r => by rw [r]; exact rfl
 | n + 1, t :: ts, _, r => by obtain ⟨v, rs, rfl, r1, r2⟩ := r; exact ⟨v, _, rfl, r1, Rps.take n r2⟩
theorem Rps.drop : ∀ (n : Nat) {ts} {vs}, Rps K L H ts vs → Rps K L H (ts.drop n) (vs.drop n)
 | 0, _, _, r => by simpa using r
 | n + 1, [], _, r => by rw [r]; exact rfl
 | n + 1, t :: ts, _, r => by obtain ⟨v, rs, rfl, r1, r2⟩ := r; simpa using Rps.drop n r2
theorem Rps.set (q : Rp K L H t v) : ∀ {ts} {vs} (i : Nat), Rps K L H ts vs → Rps K L H (ts.set i t) (vs.set i v)
 | [], _, _, r => by rw [r]; exact rfl
 | x :: xs, _, 0, r => by obtain ⟨u, rs, rfl, r1, r2⟩ := r; exact ⟨v, rs, rfl, q, r2⟩
 | x :: xs, _, i + 1, r => by obtain ⟨u, rs, rfl, r1, r2⟩ := r; exact ⟨u, _, rfl, r1, Rps.set q i r2⟩
theorem Rps.reverse (r : Rps K L H ts vs) : Rps K L H ts.reverse vs.reverse := by
 induction ts generalizing vs with
 | nil => rw [r]; exact rfl
 | cons t ts ih => obtain ⟨v, rs, rfl, r1, r2⟩ := r; rw [List.reverse_cons, List.reverse_cons]; exact (ih r2).append (.one r1)
theorem Rps.strs : ∀ {ys : List _} {vs}, Rps K L H (ys.map T.str) vs → vs = ys.map V.str
 | [], _, r => r
 | y :: ys, _, r => by obtain ⟨v, rs, rfl, r1, r2⟩ := r; rw [r1, Rps.strs r2]; rfl
theorem Rps.bls : ∀ {ys : List _} {vs}, Rps K L H (ys.map T.bl) vs → vs = ys.map V.bl
 | [], _, r => r
 | y :: ys, _, r => by obtain ⟨v, rs, rfl, r1, r2⟩ := r; rw [r1, Rps.bls r2]; rfl
theorem Rps.ofStrs : ∀ (ys : List Str), Rps K L H (ys.map T.str) (ys.map V.str)
 | [] => rfl
 | y :: ys => ⟨_, _, rfl, rfl, Rps.ofStrs ys⟩
theorem Rps.ofInts : ∀ (ys : List _), Rps K L H (ys.map T.int) (ys.map V.int)
 | [] => rfl
 | y :: ys => ⟨_, _, rfl, rfl, Rps.ofInts ys⟩
end
theorem Inv.notTL {σ : St} {H} {s} {a} {xs ys} (I : Inv X pins σ H s) (h : SqT X.K H a xs) (h' : SqL X.K H a ys) : False := by
 obtain ⟨its, _, ⟨o, e, c, _⟩, _⟩ := I.tuple h
 obtain ⟨jts, _, p, _⟩ := I.list h'
 obtain ⟨o', e', c', _⟩ := p.isList
 grind
theorem Inv.insAt {σ : St} {L} {H} {s} {a} {q} (I : Inv X pins σ H s) (h : InsAt X.K L H a q) : ∃ C dx, s.heap.get? a = some (PySem.W.instObj C dx) := by
 obtain ⟨C, dx, e, _⟩ := h
 obtain ⟨_, _, _, oe, _⟩ := I.hok a _ e
 exact ⟨C, dx, oe⟩
theorem Inv.notIT {σ : St} {L} {H} {s} {a} {q} {xs} (I : Inv X pins σ H s) (h : InsAt X.K L H a q) (h' : SqT X.K H a xs) : False := by
 obtain ⟨C, dx, e⟩ := I.insAt h
 obtain ⟨its, _, ⟨o, e', c, _⟩, _⟩ := I.tuple h'
 grind
theorem Inv.notIL {σ : St} {L} {H} {s} {a} {q} {xs} (I : Inv X pins σ H s) (h : InsAt X.K L H a q) (h' : SqL X.K H a xs) : False := by
 obtain ⟨C, dx, e⟩ := I.insAt h
 obtain ⟨its, _, p, _⟩ := I.list h'
 obtain ⟨o, e', c, _⟩ := p.isList
 grind
mutual
theorem Rp.inj {X : Cx} {pins : List (Addr × Obj)} {σ : St} {K : PySem.W.Frag} {L : Addr → Prop} {H : Hp} {s : Shared} (hK : X.K = K) (I : Inv X pins σ H s) : ∀ {t u : T} {v : V}, Rp K L H t v → Rp K L H u v → t = u
 | .non, u, v, r, q => by subst r; cases u <;> first | rfl | (exfalso; revert q; simp [Rp])
 | .bl _, u, v, r, q => by subst r; cases u <;> first | (cases q; rfl) | (exfalso; revert q; simp [Rp])
 | .int _, u, v, r, q => by subst r; cases u <;> first | (cases q; rfl) | (exfalso; revert q; simp [Rp])
 | .str _, u, v, r, q => by subst r; cases u <;> first | (cases q; rfl) | (exfalso; revert q; simp [Rp])
 | .tup xs, u, v, r, q => by
  obtain ⟨a, vs, rfl, e, rs⟩ := r
  cases u with
  | tup ys =>
   obtain ⟨b, ws, e1, e2, qs⟩ := q
   cases e1
   have := I.tuple_inj (hK ▸ e.sq) (hK ▸ e2.sq)
   subst this
   rw [Rps.inj hK I rs qs]
  | lst ys =>
   obtain ⟨b, ws, e1, e2, qs⟩ := q
   cases e1
   exact (I.notTL (hK ▸ e.sq) (hK ▸ e2.sq)).elim
  | ins y =>
   obtain ⟨b, e1, e2⟩ := q
   cases e1
   exact (I.notIT (hK ▸ e2) (hK ▸ e.sq)).elim
  | _ => cases q
 | .lst xs, u, v, r, q => by
  obtain ⟨a, vs, rfl, e, rs⟩ := r
  cases u with
  | tup ys =>
   obtain ⟨b, ws, e1, e2, qs⟩ := q
   cases e1
   exact (I.notTL (hK ▸ e2.sq) (hK ▸ e.sq)).elim
  | lst ys =>
   obtain ⟨b, ws, e1, e2, qs⟩ := q
   cases e1
   have := I.list_inj (hK ▸ e.sq) (hK ▸ e2.sq)
   subst this
   rw [Rps.inj hK I rs qs]
  | ins y =>
   obtain ⟨b, e1, e2⟩ := q
   cases e1
   exact (I.notIL (hK ▸ e2) (hK ▸ e.sq)).elim
  | _ => cases q
 | .ins z, u, v, r, q => by
  obtain ⟨a, rfl, e⟩ := r
  cases u with
  | tup ys =>
   obtain ⟨b, ws, e1, e2, qs⟩ := q
   cases e1
   exact (I.notIT (hK ▸ e) (hK ▸ e2.sq)).elim
  | lst ys =>
   obtain ⟨b, ws, e1, e2, qs⟩ := q
   cases e1
   exact (I.notIL (hK ▸ e) (hK ▸ e2.sq)).elim
  | ins y =>
   obtain ⟨b, e1, C, dx, e2, _, ⟨o, c, h1, h2, rfl⟩, _⟩ := q
   obtain ⟨C', dx', e3, _, ⟨o', c', k1, k2, rfl⟩, _⟩ := e
   grind
  | _ => cases q
theorem Rps.inj {X : Cx} {pins} {σ : St} {K} {L} {H} {s} (hK : X.K = K) (I : Inv X pins σ H s) : ∀ {ts us} {vs}, Rps K L H ts vs → Rps K L H us vs → ts = us
 | [], [], _, _, _ => rfl
 | [], u :: us, _, r, q => by
  obtain ⟨v, rs, e, _⟩ := q
  have r' : _ = [] := r
  grind
 | t :: ts, [], _, r, q => by
  obtain ⟨v, rs, e, _⟩ := r
  have q' : _ = [] := q
  grind
 | t :: ts, u :: us, _, r, q => by
  obtain ⟨v, rs, e, r1, r2⟩ := r
  obtain ⟨v', rs', e', q1, q2⟩ := q
  rw [e] at e'; cases e'
  rw [Rp.inj hK I r1 q1, Rps.inj hK I r2 q2]
end
theorem eqk_of_rc {σ : St} {K} {L} {H} {s} (hK : X.K = K) (I : Inv X pins σ H s) {t u} {A} {v w} {a b} (rt : Rp K L H t v) (ru : Rp K L H u w) (ra : RelV v a) (rb : RelV w b) (key : RcAt A s a b (eqT t u)) : EqAt A s a b (eqT t u) := by
 by_cases hab : a = b
 · subst hab
   have := RelV.inj ra rb
   subst this
   rw [Rp.inj hK I rt ru, eqT_refl]
   exact EqAt.same _
 · intro prog w' E Q hq
   refine wpAny_holding ?_
   refine wpAny_ite_split (fun hx => absurd (eq_of_beq hx) hab) fun _ => ?_
   have hk := wpAny_bind (f := fun x => truthOfDropped x) (key prog w' E _ (wpAny_truthy_bool hq))
   cases t with
   | non => cases rt; cases ra; exact hk
   | bl x => cases rt; cases ra; exact hk
   | int x => cases rt; obtain ⟨t1, rfl⟩ := ra; exact hk
   | str x => cases rt; obtain ⟨t1, rfl⟩ := ra; exact hk
   | tup xs => obtain ⟨l, vs, rfl, e, rs⟩ := rt; cases ra; exact hk
   | lst xs => obtain ⟨l, vs, rfl, e, rs⟩ := rt; cases ra; exact hk
   | ins q => obtain ⟨l, rfl, e⟩ := rt; cases ra; exact hk
inductive Sh (s : Shared) (K : PySem.W.Frag) (L : Addr → Prop) (H : Hp) : T → Value → Prop
 | non : Sh s K L H .non .none
 | bl (x : Bool) : Sh s K L H (.bl x) (.bool x)
 | int (x : Int) (t : Tok) : Sh s K L H (.int x) (.int x t)
 | str (x : Str) (t : Tok) : Sh s K L H (.str x) (.str x t)
 | tup {xs : List T} {vs : List V} {its : List Value} {l : Addr} (hd : deps xs ≤ 59) (rs : Rps K L H xs vs) (rv : Vals vs its) (p : s.heap.IsTuple l its.toArray) : Sh s K L H (.tup xs) (.ref l)
 | lst {xs : List T} {vs : List V} {its : List Value} {l : Addr} (hd : deps xs ≤ 59) (rs : Rps K L H xs vs) (rv : Vals vs its) (p : s.heap.IsList l its.toArray) : Sh s K L H (.lst xs) (.ref l)
theorem sh_of {σ : St} {K} {L} {H} {s} (hK : X.K = K) (I : Inv X pins σ H s) {t} {v} {a} (hd : dep t ≤ 60) (rt : Rp K L H t v) (ra : RelV v a) : Sh s K L H t a := by
 cases t with
 | non => cases rt; cases ra; exact .non
 | bl x => cases rt; cases ra; exact .bl x
 | int x => cases rt; obtain ⟨t, rfl⟩ := ra; exact .int x t
 | str x => cases rt; obtain ⟨t, rfl⟩ := ra; exact .str x t
 | tup xs =>
  obtain ⟨l, vs, rfl, e, rs⟩ := rt
  cases ra
  obtain ⟨its, r, p, _⟩ := I.tuple (hK ▸ e.sq)
  exact .tup (Nat.le_of_succ_le_succ hd) rs r p
 | lst xs =>
  obtain ⟨l, vs, rfl, e, rs⟩ := rt
  cases ra
  obtain ⟨its, r, p, _⟩ := I.list (hK ▸ e.sq)
  exact .lst (Nat.le_of_succ_le_succ hd) rs r p.isList
 | ins _ => exact absurd hd (by simp [dep])
theorem dep_mem (h : t ∈ xs) : dep t ≤ deps xs := by
 obtain ⟨j, hj, rfl⟩ := List.mem_iff_getElem.mp h
 exact dep_get hj
theorem itm {σ : St} {K} {L} {H} {s} (hK : X.K = K) (I : Inv X pins σ H s) {A : Around} {xs ys} {vs ws} {its its2} (d1 : deps xs ≤ 59) (d2 : deps ys ≤ 59) (rs : Rps K L H xs vs) (rv : Vals vs its) (rs2 : Rps K L H ys ws) (rv2 : Vals ws its2) {j} (h1 : j < its.toArray.size) (h2 : j < its2.toArray.size)
 (ih : ∀ (t u : T) (a b : Value), t ∈ xs → Sh s K L H t a → Sh s K L H u b → RcAt A.in1 s a b (eqT t u)) : EqAt A.in1 s its.toArray[j] its2.toArray[j] (match xs[j]?, ys[j]? with | some x, some y => eqT x y | _, _ => true) := by
 have z1 := by rw [List.size_toArray, ← rv.length, rs.length] at h1; exact h1
 have z2 := by rw [List.size_toArray, ← rv2.length, rs2.length] at h2; exact h2
 obtain ⟨v1, q1, r1⟩ := rs.get (List.getElem?_eq_getElem z1)
 obtain ⟨v2, q2, r2⟩ := rs2.get (List.getElem?_eq_getElem z2)
 obtain ⟨u1, g1, k1⟩ := rv.get q1
 obtain ⟨u2, g2, k2⟩ := rv2.get q2
 have g1' : its.toArray[j] = u1 := by
  have := (List.getElem?_eq_some_iff.mp g1).2
  simpa using this
 have g2' : its2.toArray[j] = u2 := by
  have := (List.getElem?_eq_some_iff.mp g2).2
  simpa using this
 rw [g1', g2', List.getElem?_eq_getElem z1, List.getElem?_eq_getElem z2]
 exact eqk_of_rc hK I r1 r2 k1 k2 (ih _ _ _ _ (List.getElem_mem z1) (sh_of hK I (Nat.le_trans (dep_mem (List.getElem_mem z1)) (Nat.le_succ_of_le d1)) r1 k1) (sh_of hK I (Nat.le_trans (dep_mem (List.getElem_mem z2)) (Nat.le_succ_of_le d2)) r2 k2))
theorem rckAt {X : Cx} {pins : List (Addr × Obj)} {σ : St} {K : PySem.W.Frag} {L : Addr → Prop} {H : Hp} {s : Shared} (hK : X.K = K) (I : Inv X pins σ H s) : ∀ (n : Nat) (t u : T) (A : Around) (a b : Value), dep t ≤ n → A.units + n < cLine → Sh s K L H t a → Sh s K L H u b → RcAt A s a b (eqT t u) := by
 intro n
 induction n using Nat.strongRecOn with
 | ind n ih =>
 intro t u A a b hn hu h1 h2
 have hu' : A.units < cLine := by omega
 have sub : ∀ {xs : List T}, 1 + deps xs ≤ n → ∀ (t u : T) (a b : Value), t ∈ xs → Sh s K L H t a → Sh s K L H u b → RcAt A.in1 s a b (eqT t u) := fun {xs} h t u a b ht s1 s2 => by
  have := dep_mem ht
  exact ih (n - 1) (by omega) t u A.in1 a b (by omega) (by show A.units + 1 + (n - 1) < cLine; omega) s1 s2
 cases h1 with
 | non => cases h2 with
  | non => exact RcAt.none_none
  | bl y => exact RcAt.none_bool _
  | int y z => exact RcAt.none_int _ _
  | str y z => exact RcAt.none_str _ _
  | tup _ _ _ p => exact RcAt.none_tuple p hu'
  | lst _ _ _ p => exact RcAt.none_list p hu'
 | bl x => cases h2 with
  | non => exact RcAt.bool_none _
  | bl y => exact RcAt.bool_bool _ _
  | int y z => exact RcAt.bool_int _ _ _
  | str y z => exact RcAt.bool_str _ _ _
  | tup _ _ _ p => exact RcAt.bool_tuple _ p hu'
  | lst _ _ _ p => exact RcAt.bool_list _ p hu'
 | int x t => cases h2 with
  | non => exact RcAt.int_none _ _
  | bl y => exact RcAt.int_bool _ _ _
  | int y z => exact RcAt.int_int _ _ _ _
  | str y z => exact RcAt.int_str _ _ _ _
  | tup _ _ _ p => exact RcAt.int_tuple _ _ p hu'
  | lst _ _ _ p => exact RcAt.int_list _ _ p hu'
 | str x t => cases h2 with
  | non => exact RcAt.str_none _ _
  | bl y => exact RcAt.str_bool _ _ _
  | int y z => exact RcAt.str_int _ _ _ _
  | str y z => exact RcAt.str_str _ _ _ _
  | tup _ _ _ p => exact RcAt.str_tuple _ _ p hu'
  | lst _ _ _ p => exact RcAt.str_list _ _ p hu'
 | @tup xs vs its l d1 rs rv p => cases h2 with
  | non => exact RcAt.tuple_none p hu'
  | bl y => exact RcAt.tuple_bool _ p hu'
  | int y z => exact RcAt.tuple_int _ _ p hu'
  | str y z => exact RcAt.tuple_str _ _ p hu'
  | @tup ys ws its2 l2 d2 rs2 rv2 p2 =>
   have z1 : its.toArray.size = xs.length := by rw [List.size_toArray, ← rv.length, rs.length]
   have z2 : its2.toArray.size = ys.length := by rw [List.size_toArray, ← rv2.length, rs2.length]
   show RcAt A s _ _ (eqTs xs ys)
   rw [eqTs_all]
   have h := RcAt.tuples (e := fun j => match xs[j]?, ys[j]? with | some x, some y => eqT x y | _, _ => true) p p2 hu' (fun j h1 h2 => itm hK I d1 d2 rs rv rs2 rv2 h1 h2 (sub (xs := xs) (by simp only [dep] at hn; omega)))
   rw [z1, z2] at h
   exact h
  | lst _ _ _ p2 => exact RcAt.tuple_list p p2 hu'
 | @lst xs vs its l d1 rs rv p => cases h2 with
  | non => exact RcAt.list_none p hu'
  | bl y => exact RcAt.list_bool _ p hu'
  | int y z => exact RcAt.list_int _ _ p hu'
  | str y z => exact RcAt.list_str _ _ p hu'
  | tup _ _ _ p2 => exact RcAt.list_tuple p p2 hu'
  | @lst ys ws its2 l2 d2 rs2 rv2 p2 =>
   have z1 : its.toArray.size = xs.length := by rw [List.size_toArray, ← rv.length, rs.length]
   have z2 : its2.toArray.size = ys.length := by rw [List.size_toArray, ← rv2.length, rs2.length]
   show RcAt A s _ _ (eqTs xs ys)
   rw [eqTs_all]
   by_cases hz : xs.length = ys.length
   · have h := RcAt.lists (e := fun j => match xs[j]?, ys[j]? with | some x, some y => eqT x y | _, _ => true) p p2 (by rw [z1, z2]; exact hz) hu' (fun j h1 h2 => itm hK I d1 d2 rs rv rs2 rv2 h1 h2 (sub (xs := xs) (by simp only [dep] at hn; omega)))
     rw [z1] at h
     rw [hz, Nat.min_self, beq_self_eq_true, Bool.and_true, ← hz]
     exact h
   · have h := RcAt.lists_lengths p p2 (by rw [z1, z2]; simpa using hz) hu'
     have e0 : (xs.length == ys.length) = false := by simpa using hz
     rw [e0, Bool.and_false]
     exact h
theorem rckNe {X : Cx} {pins : List (Addr × Obj)} {σ : St} {K : PySem.W.Frag} {L : Addr → Prop} {H : Hp} {s : Shared} (hK : X.K = K) (I : Inv X pins σ H s) (n : Nat) (t u : T) (A : Around) (a b : Value) (hn : dep t ≤ n) (hu : A.units + n < cLine) (h1 : Sh s K L H t a) (h2 : Sh s K L H u b) : RcNeAt A s a b (!eqT t u) := by
 have hu' : A.units < cLine := by omega
 have sub : ∀ {xs : List T}, 1 + deps xs ≤ n → ∀ (t u : T) (a b : Value), t ∈ xs → Sh s K L H t a → Sh s K L H u b → RcAt A.in1 s a b (eqT t u) := fun {xs} h t u a b ht s1 s2 => by
  have := dep_mem ht
  exact rckAt hK I (n - 1) t u A.in1 a b (by omega) (by show A.units + 1 + (n - 1) < cLine; omega) s1 s2
 cases h1 with
 | non => cases h2 with
  | non => exact RcNeAt.none_none
  | bl y => exact RcNeAt.none_bool _
  | int y z => exact RcNeAt.none_int _ _
  | str y z => exact RcNeAt.none_str _ _
  | tup _ _ _ p => exact RcNeAt.none_tuple p hu'
  | lst _ _ _ p => exact RcNeAt.none_list p hu'
 | bl x => cases h2 with
  | non => exact RcNeAt.bool_none _
  | bl y => exact RcNeAt.bool_bool _ _
  | int y z => exact RcNeAt.bool_int _ _ _
  | str y z => exact RcNeAt.bool_str _ _ _
  | tup _ _ _ p => exact RcNeAt.bool_tuple _ p hu'
  | lst _ _ _ p => exact RcNeAt.bool_list _ p hu'
 | int x t => cases h2 with
  | non => exact RcNeAt.int_none _ _
  | bl y => exact RcNeAt.int_bool _ _ _
  | int y z => exact RcNeAt.int_int _ _ _ _
  | str y z => exact RcNeAt.int_str _ _ _ _
  | tup _ _ _ p => exact RcNeAt.int_tuple _ _ p hu'
  | lst _ _ _ p => exact RcNeAt.int_list _ _ p hu'
 | str x t => cases h2 with
  | non => exact RcNeAt.str_none _ _
  | bl y => exact RcNeAt.str_bool _ _ _
  | int y z => exact RcNeAt.str_int _ _ _ _
  | str y z => exact RcNeAt.str_str _ _ _ _
  | tup _ _ _ p => exact RcNeAt.str_tuple _ _ p hu'
  | lst _ _ _ p => exact RcNeAt.str_list _ _ p hu'
 | @tup xs vs its l d1 rs rv p => cases h2 with
  | non => exact RcNeAt.tuple_none p hu'
  | bl y => exact RcNeAt.tuple_bool _ p hu'
  | int y z => exact RcNeAt.tuple_int _ _ p hu'
  | str y z => exact RcNeAt.tuple_str _ _ p hu'
  | @tup ys ws its2 l2 d2 rs2 rv2 p2 =>
   have z1 : its.toArray.size = xs.length := by rw [List.size_toArray, ← rv.length, rs.length]
   have z2 : its2.toArray.size = ys.length := by rw [List.size_toArray, ← rv2.length, rs2.length]
   show RcNeAt A s _ _ (!eqTs xs ys)
   rw [eqTs_all]
   have h := RcNeAt.tuples (e := fun j => match xs[j]?, ys[j]? with | some x, some y => eqT x y | _, _ => true) p p2 hu' (fun j h1 h2 => itm hK I d1 d2 rs rv rs2 rv2 h1 h2 (sub (xs := xs) (by simp only [dep] at hn; omega)))
   rw [z1, z2] at h
   exact h
  | lst _ _ _ p2 => exact RcNeAt.tuple_list p p2 hu'
 | @lst xs vs its l d1 rs rv p => cases h2 with
  | non => exact RcNeAt.list_none p hu'
  | bl y => exact RcNeAt.list_bool _ p hu'
  | int y z => exact RcNeAt.list_int _ _ p hu'
  | str y z => exact RcNeAt.list_str _ _ p hu'
  | tup _ _ _ p2 => exact RcNeAt.list_tuple p p2 hu'
  | @lst ys ws its2 l2 d2 rs2 rv2 p2 =>
   have z1 : its.toArray.size = xs.length := by rw [List.size_toArray, ← rv.length, rs.length]
   have z2 : its2.toArray.size = ys.length := by rw [List.size_toArray, ← rv2.length, rs2.length]
   show RcNeAt A s _ _ (!eqTs xs ys)
   rw [eqTs_all]
   by_cases hz : xs.length = ys.length
   · have h := RcNeAt.lists (e := fun j => match xs[j]?, ys[j]? with | some x, some y => eqT x y | _, _ => true) p p2 (by rw [z1, z2]; exact hz) hu' (fun j h1 h2 => itm hK I d1 d2 rs rv rs2 rv2 h1 h2 (sub (xs := xs) (by simp only [dep] at hn; omega)))
     rw [z1] at h
     rw [hz, Nat.min_self, beq_self_eq_true, Bool.and_true, ← hz]
     exact h
   · have h := RcNeAt.lists_lengths p p2 (by rw [z1, z2]; simpa using hz) hu'
     have e0 : (xs.length == ys.length) = false := by simpa using hz
     rw [e0, Bool.and_false]
     exact h
theorem op_eqK {K} (L : Addr → Prop) (hK : X.K = K) (hu : X.A.units + 64 < cLine) : OpR X (compareOp .Eq) fun x y H Q => ∃ t u, Rp K L H t x ∧ Rp K L H u y ∧ dep t ≤ 60 ∧ dep u ≤ 60 ∧ Q (.bl (eqT t u)) H := by
 intro pins s σ H x y v u Q I rx ry h
 obtain ⟨t, t', r1, r2, hd, hd2, q⟩ := h
 exact rckAt hK I 60 t t' _ v u hd (by omega) (sh_of hK I hd r1 rx) (sh_of hK I hd2 r2 ry) _ _ _ _ ⟨.bl _, H, I, rfl, q⟩
theorem op_neK {K} (L : Addr → Prop) (hK : X.K = K) (hu : X.A.units + 64 < cLine) : OpR X (compareOp .NotEq) fun x y H Q => ∃ t u, Rp K L H t x ∧ Rp K L H u y ∧ dep t ≤ 60 ∧ dep u ≤ 60 ∧ Q (.bl !eqT t u) H := by
 intro pins s σ H x y v u Q I rx ry h
 obtain ⟨t, t', r1, r2, hd, hd2, q⟩ := h
 exact rckNe hK I 60 t t' _ v u hd (by omega) (sh_of hK I hd r1 rx) (sh_of hK I hd2 r2 ry) _ _ _ _ ⟨.bl _, H, I, rfl, q⟩
end L2
end
section
namespace L2
def AccAt (RA : List V → Obj → Prop) (S : Addr) (ys : List V) (h : Heap) : Prop := ∃ o, h.get? S = some o ∧ RA ys o
def RT (ys : List V) (o : Obj) : Prop := ∃ (its : List Value) (k : Nat), o = { cls := .type "list", data := .seq its.toArray k } ∧ Vals ys its
def TPq (RA : List V → Obj → Prop) (Xc : Cx) (pg : List (Addr × Obj)) (σc : St) (S : Addr) (Q : List V → Hp → Prop) : Nat → Shared → Shared → Prop := fun _ s₀ s₁ => s₁.heap.get? S = s₀.heap.get? S ∧ ∃ ys H, Inv Xc pg σc H s₁ ∧ H S = none ∧ AccAt RA S ys s₁.heap ∧ ys.length ≤ sizeLine ∧ Q ys H
def TRq (RA : List V → Obj → Prop) (Xc : Cx) (pg : List (Addr × Obj)) (σc : St) (S : Addr) (Q : List V → Hp → Prop) : GenEnd := fun n s₀ r s₁ => r = .ok .next ∧ TPq RA Xc pg σc S Q n s₀ s₁
def TYq (RA : List V → Obj → Prop) (OkL : List V → Prop) (Xc : Cx) (pg : List (Addr × Obj)) (σc : St) (S : Addr) : Protocol := fun n s₀ v s kap => s.heap.get? S = s₀.heap.get? S ∧ ∃ ys y H, OkL (ys ++ [y]) ∧ RelV y v ∧ Inv Xc pg σc H s ∧ H S = none ∧ AccAt RA S ys s.heap ∧ ys.length < sizeLine ∧
 ∀ s'', Inv Xc pg σc H s'' → AccAt RA S (ys ++ [y]) s''.heap → (∀ b o, b ≠ S → s.heap.get? b = some o → s''.heap.get? b = some o) → kap (.send .none) s''
section
variable {RA : List V → Obj → Prop} {OkL : List V → Prop} {Xc : Cx} {pg : List (Addr × Obj)} {σc : St} {S : Addr} {Q : List V → Hp → Prop} {J : It} {fp : List Addr} {it : Addr} {tn : Nat → Heap → Prop} {elt target iter : Expr} {ifs : List Expr} {scope : Scope} {pos : Pos} {g : TG} {tt : TT} {te : TE} {A1 : Around}
 {W : Nat → Nat → List V → Hp → Prop}
theorem tup_seg (hRA : ∀ ys o v, RA ys o → o.data ≠ .cell v) (T : Turn Xc.prog Xc.w Xc.K target J fp it tn) (xA : Xc.A = A1.over (.compLoop (.GeneratorExp elt [⟨target, iter, ifs, 0⟩] scope pos) 0 (.ref it) .none Xc.env) []) (xc : Xc.calm = true) (xx : Xc.xe = fun _ _ => False) (hco : Xc.env.scope.isCoroutine = false)
 (hg : PG Xc target g) (hf : PF Xc ifs tt) (he : PE Xc elt te) (hSf : S ∉ fp) (sL : S ≠ Xc.env.locals) (sF : S ∉ Xc.fs) (stat : ∀ {H' : Hp} {o : Obj}, (∀ b ∈ fp, H' b = none) → ∀ b ∈ fp, FpOk Xc ((S, o) :: pg) H' b)
 (turn : ∀ i m ys H, W i m ys H → (J.stop i H ∧ ys.length ≤ sizeLine ∧ Q ys H) ∨
  (J.go i H ∧ ys.length < sizeLine ∧ ∃ N : List V → Hp → Prop, (∀ ys' H', N ys' H' → ∃ m', m' < m ∧ W (i + 1) m' ys' H') ∧ ∀ x H2, J.yld i H x H2 → g x σc H2 fun σ2 H3 => Sub σc σ2 ∧ tt σ2 H3 fun ok H4 =>
   if ok = true then te σ2 H4 fun y H5 => N (ys ++ [y]) H5 else N ys H4))
 (hW : ∀ i m ys H, W i m ys H → OkL ys) :
 ∀ (m n : Nat), m < n → ∀ (i : Nat) (ys : List V) (H : Hp) (s s₀ : Shared), W i m ys H → Inv Xc pg σc H s → H S = none → AccAt RA S ys s.heap → tn i s.heap → (∀ b ∈ fp, H b = none) → s.heap.get? S = s₀.heap.get? S →
  Seg (model Xc.prog Xc.w) A1 (TRq RA Xc pg σc S Q) (TYq RA OkL Xc pg σc S) n s₀ (.compLoop (.GeneratorExp elt [⟨target, iter, ifs, 0⟩] scope pos) 0 (.ref it) .none Xc.env)
   ((model Xc.prog Xc.w).den (.compLoop (.GeneratorExp elt [⟨target, iter, ifs, 0⟩] scope pos) 0 (.ref it) .none Xc.env)) [] s := by
 intro m
 induction m using Nat.strongRecOn with
 | ind m ih =>
  intro n hmn i ys H s s₀ w I hS acc st fr hq
  show Seg _ A1 _ _ _ s₀ _ ((compTurn (.GeneratorExp elt [⟨target, iter, ifs, 0⟩] scope pos) 0 (.ref it) .none Xc.env).onRaise (leaving Xc.env)) [] s
  rw [compTurn_gen, Sem.onRaise_eq_wrap]
  refine seg_bind_wrap (wpAny_standAt ?_)
  obtain ⟨o, oS, vS⟩ := acc
  have oc : ∀ v, o.data ≠ .cell v := fun v => hRA _ _ v vS
  have Ip : Inv Xc ((S, o) :: pg) σc H s := I.pins_of fun p hp => by
   rcases List.mem_cons.mp hp with z | z
   · rw [z]; exact ⟨oS, hS, sL, sF, oc⟩
   · exact I.pin p (List.mem_append_right _ z)
  have unS : ∀ {H' : Hp} {s' : Shared} {σ' : St}, Inv Xc ((S, o) :: pg) σ' H' s' → Inv Xc pg σ' H' s' ∧ H' S = none ∧ s'.heap.get? S = some o := fun {H' s' σ'} K =>
   have p := K.pin (S, o) (List.mem_append_right _ List.mem_cons_self)
   ⟨K.pins_of fun p hp => K.pin p (List.mem_append_right _ (List.mem_cons_of_mem _ hp)), p.2.1, p.1⟩
  rcases turn i m ys H w with ⟨stop, hz, q⟩ | ⟨go, hz, N, hN, step⟩
  · have td := fun E => T.done Xc rfl rfl rfl xc i _ s σc H E Ip (stat fr) st stop
    rw [xA] at td
    refine seg_bind_wrap (thn (td _) fun r s6 h6 => ?_)
    obtain ⟨hr, I6⟩ := h6
    subst hr
    obtain ⟨j1, j2, j3⟩ := unS I6
    exact seg_end (.ok .next) ⟨rfl, j3.trans (oS.symm.trans hq), ys, H, j1, j2, ⟨o, j3, vS⟩, hz, q⟩
  · have ti := fun E => T.item Xc rfl rfl rfl xc i _ s σc H E Ip (stat fr) st go
    rw [xA] at ti
    refine seg_bind_wrap (thn (ti _) fun r s6 h6 => ?_)
    obtain ⟨u, hr, h6⟩ := h6
    subst hr
    refine seg_bind_wrap (thn h6 fun _ s7 h7 => ?_)
    obtain ⟨x, H7, I7, r7, y7, st7, fr7⟩ := h7
    have I7' := I7.pinned (stat fr7) (T.obj _ _ st7)
    have g7 := hg _ s7 σc H7 x u _ I7' r7 (step x H7 y7)
    rw [xA, xx] at g7
    refine seg_bind_wrap (wpAny_mono g7 (fun _ s8 h8 => ?_) fun _ _ h => h.elim)
    obtain ⟨σ8, H8, I8, sub8, q8⟩ := h8
    have t8 := hf _ s8 σ8 H8 _ I8 q8
    rw [xA, xx] at t8
    refine seg_bind_wrap (wpAny_mono t8 (fun ok s9 h9 => ?_) fun _ _ h => h.elim)
    obtain ⟨H9, I9, q9⟩ := h9
    have back : ∀ {H' : Hp} {s' : Shared}, Inv Xc (((S, o) :: pg) ++ pinsAt fp s7.heap) σ8 H' s' → (Inv Xc pg σc H' s' ∧ H' S = none ∧ s'.heap.get? S = some o) ∧ tn (i + 1) s'.heap ∧ (∀ b ∈ fp, H' b = none) := fun {H' s'} K => by
     refine ⟨unS (K.weak sub8.1.symm sub8.2).unpinned, T.keep _ _ _ st7 fun b hb o e => (K.pin (b, o) (List.mem_append_right _ (List.mem_append_right _ (mem_pinsAt hb e)))).1, fun b hb => ?_⟩
     obtain ⟨o, e, d⟩ := T.obj _ _ st7 b hb
     exact (K.pin (b, o) (List.mem_append_right _ (List.mem_append_right _ (mem_pinsAt hb e)))).2.1
    cases ok with
    | false =>
     obtain ⟨m', hm, w9⟩ := hN _ _ q9
     obtain ⟨⟨b1, bS, bO⟩, b2, b3⟩ := back I9
     exact seg_again rfl (ih m' hm n (by omega) _ ys H9 s9 _ w9 b1 bS ⟨o, bO, vS⟩ b2 b3 (bO.trans (oS.symm.trans hq)))
    | true =>
     have e9 := he _ s9 _ H9 _ I9 q9
     rw [xA, xx] at e9
     simp only [if_true]
     have hy : ∀ v, yieldOut Xc.env v = yieldValue v := fun v => by simp only [yieldOut, hco, Bool.false_eq_true, if_false]
     simp only [hy]
     rw [Sem.bind_eq_wrap', Sem.bind_eq_wrap', Sem.wrap_wrap, Sem.wrap_wrap]
     refine seg_wrap (wpAny_mono e9 (fun y s10 h10 => ?_) fun _ _ h => h.elim)
     obtain ⟨z, H10, I10, r10, q10⟩ := h10
     obtain ⟨m', hm, w10⟩ := hN _ _ q10
     obtain ⟨⟨b1, bS, bO⟩, b2, b3⟩ := back I10
     obtain ⟨n', rfl⟩ : ∃ n', n = n' + 1 := ⟨n - 1, by omega⟩
     refine seg_at (seg_yield rfl rfl rfl ⟨bO.trans (oS.symm.trans hq), ys, z, H10, hW _ _ _ _ w10, r10, b1, bS, ⟨o, bO, vS⟩, hz, fun s'' I'' acc'' kp'' => ?_⟩)
     exact seg_again rfl (ih m' hm n' (by omega) _ _ _ _ _ w10 I'' bS acc'' (T.keep _ _ _ b2 fun b hb o e => kp'' b o (fun z => hSf (z ▸ hb)) e) b3 rfl)
def RdyT (RA : List V → Obj → Prop) (OkL : List V → Prop) (Xc : Cx) (pg : List (Addr × Obj)) (σc : St) (S : Addr) (Q : List V → Hp → Prop) (A1 : Around) (gn n : Nat) (s : Shared) : Prop :=
 ∃ ys H gs, Inv Xc pg σc H s ∧ H S = none ∧ AccAt RA S ys s.heap ∧ s.gens[gn]? = some gs ∧ ∀ s'', Inv Xc pg σc H s'' → s''.heap = s.heap → gs.Goes (model Xc.prog Xc.w) A1 (TRq RA Xc pg σc S Q) (TYq RA OkL Xc pg σc S) n (.send .none) s''
theorem tup_loop {A : Around} {a : Addr} {gn : Nat} {RR : Result → Shared → Prop} {res : Value} (hh : A.handled = none) (hroom : A.depth < recursionLimit) (hgn : gn < Xc.s₀.gens.size) (hpin : ∀ {H s}, Inv Xc pg σc H s → s.heap.IsGen a gn)
 (sS : ∀ {H : Hp}, H S = none → FpOk Xc pg H S)
 (hR : ∀ ys H s', Inv Xc pg σc H s' → H S = none → AccAt RT S ys s'.heap → ys.length ≤ sizeLine → Q ys H → RR (.ok (.ret res)) s') :
 ∀ (n : Nat) (s : Shared), RdyT RT (fun _ => True) Xc pg σc S Q A.in1.in1 gn n s → codeAny (model Xc.prog Xc.w) A (.builtin "list.extend.loop" ⟨[.ref S, .ref a, res], []⟩) RR s := by
 have turn : ∀ (n : Nat), (∀ n' s, n = n' + 1 → RdyT RT (fun _ => True) Xc pg σc S Q A.in1.in1 gn n' s → codeAny (model Xc.prog Xc.w) A (.builtin "list.extend.loop" ⟨[.ref S, .ref a, res], []⟩) RR s) → ∀ s, RdyT RT (fun _ => True) Xc pg σc S Q A.in1.in1 gn n s → codeAny (model Xc.prog Xc.w) A (.builtin "list.extend.loop" ⟨[.ref S, .ref a, res], []⟩) RR s := by
  intro n ih s R
  obtain ⟨ys, H, gs, I, hS, acc, hgs, go⟩ := R
  have I1 : Inv Xc pg σc H (s.setGen gn .running) := I.gens rfl rfl (bare_set I.bare rfl) (Nat.le_of_eq size_set.symm)
  refine codeAny_builtin F.entry_extend_loop ?_
  refine wpAny_bind (wpAny_pyNext_genexpQ (A := A.in1) (P := TPq RT Xc pg σc S Q) (Y := TYq RT (fun _ => True) Xc pg σc S) hh I.nolimit hroom (hpin I) hgs (go _ I1 rfl) (fun v s1 gs' hb hv => ?_) (fun s1 hp h' hk => ?_))
  · obtain ⟨_, ys1, y, H1, _, r1, J1, hS1, ⟨_, oS, its, k, rfl, vS⟩, hz1, k1⟩ := hv
    have J2 : Inv Xc pg σc H1 (s1.setGen gn gs') := J1.gens rfl rfl (bare_set J1.bare hb) (Nat.le_of_eq size_set.symm)
    have vl := vS.length
    obtain ⟨f0, f1, f2, f3, f4, f5⟩ := sS hS1
    refine wpAny_bind (wpAny_updateSeq (s := s1.setGen gn gs') oS rfl (wpAny_pure ⟨plainId_quiet F.plain_extend_loop _, ?_⟩) (by rw [List.size_toArray]; omega) (by rw [Array.size_push, List.size_toArray]; omega))
    have kp : ∀ b o, b ≠ S → s1.heap.get? b = some o → (s1.heap.update S (Obj.mapSeq (·.push v))).get? b = some o := fun b o hb e => (Heap.get?_update_other _ _ (Ne.symm hb)).trans e
    have J3 : Inv Xc pg σc H1 { s1.setGen gn gs' with heap := s1.heap.update S (Obj.mapSeq (·.push v)) } := J2.turned (t' := (s1.setGen gn _).toks) kp hS1 f1 f3 f4 f5
    have acc3 : AccAt RT S _ (s1.heap.update S (Obj.mapSeq (·.push v))) := ⟨_, Heap.get?_update_self _ oS rfl, _, _, by rw [← List.push_toArray]; rfl, vS.append (.cons r1 .nil)⟩
    cases n with
    | zero => exact (k1 _ J3 acc3 kp).elim
    | succ n' =>
     refine ih n' _ rfl ⟨_, H1, gs', J3, hS1, acc3, ?_, fun s'' I'' e'' => k1 _ I'' (by rw [e'']; exact acc3) fun b o hb e => by rw [e'']; exact kp b o hb e⟩
     have hlt := Nat.lt_of_lt_of_le hgn J1.os.2
     simp [Shared.setGen, hlt]
  · obtain ⟨_, ys1, H1, J1, hS1, ⟨_, oS, its, k, rfl, vS⟩, hz1, q1⟩ := hp
    have J2 : Inv Xc pg _ H1 (s1.setGen gn .finished) := J1.gens rfl rfl (bare_set J1.bare rfl) (Nat.le_of_eq size_set.symm)
    exact wpAny_pure (hR _ H1 _ (J2.kept hk) hS1 ⟨_, hk _ _ oS, its, k, rfl, vS⟩ hz1 q1)
 intro n
 induction n with
 | zero => exact turn 0 fun n' s e => by omega
 | succ n ih => exact turn _ fun n' s e => by cases e; exact ih s
end
section
variable {prog : Program} {w : World} {A : Around} {E : Value → Shared → Prop} {s : Shared} {a : Addr} {gn : Nat}
theorem isGen_kept {h h' : Heap} (g : h.IsGen a gn) (k : ∀ b o, h.get? b = some o → h'.get? b = some o) : h'.IsGen a gn := by
 obtain ⟨o, x, y, e, r⟩ := g
 exact ⟨o, x, y, k _ _ e, r⟩
theorem collect_gen {Q : List Value → Shared → Prop} (hg : s.heap.IsGen a gn)
 (h : ∀ h3 k, h3.get? s.heap.objs.size = some { cls := .type "list", data := .seq ([] : List Value).toArray k } → (∀ b o, s.heap.get? b = some o → h3.get? b = some o) →
  codeAny (model prog w) A (.builtin "list.extend.loop" ⟨[.ref s.heap.objs.size, .ref a, .ref s.heap.objs.size], []⟩) (fun r s' => r = .ok (.ret (.ref s.heap.objs.size)) ∧ ∃ (its : List Value) (k : Nat), s'.heap.get? s.heap.objs.size = some { cls := .type "list", data := .seq its.toArray k } ∧ Q its s') { s with heap := h3 }) :
 wpAny (model prog w) A (collect (.ref a)) Q E s := by
 have hlt : a < s.heap.objs.size := by obtain ⟨o, x, y, e, r⟩ := hg; exact Heap.lt_size e
 have hSI : s.heap.objs.size ≠ a := Nat.ne_of_gt hlt
 have old1 : ∀ b o, s.heap.get? b = some o → (s.heap.push { cls := .type "list", data := .seq ([] : List Value).toArray }).get? b = some o := fun b o e => Heap.get?_push_of_some _ e
 have g1 : (s.heap.push { cls := .type "list", data := .seq ([] : List Value).toArray }).IsGen a gn := isGen_kept hg old1
 refine wpAny_bind (wpAny_runValue (codeAny_builtin F.entry_proto_collect ?_))
 refine wpAny_bind (wpAny_newObj_type ?_)
 refine wpAny_pure ⟨plainId_quiet F.plain_list_iadd _, codeAny_builtin F.entry_list_iadd ?_⟩
 show wpAny _ A.in1 (Builtin.List.listExtendWith (.ref s.heap.objs.size) (.ref a) (.ref s.heap.objs.size)) _ _ _
 have hT : Shared.TypeIs { s with heap := s.heap.push { cls := .type "list", data := .seq ([] : List Value).toArray } } (.ref a) "generator" := g1.typeIs
 refine wpAny_bind (wpAny_typeOf hT ?_)
 have h1 : Builtin.List.listSameRef (.ref s.heap.objs.size) (.ref a) = false := by simp [Builtin.List.listSameRef, hSI]
 have h2 : (Value.type "generator" == Value.type "list") = false := by decide
 have h3 : (Value.type "generator" == Value.type "tuple") = false := by decide
 simp only [h1, h2, h3, Bool.or_false, Bool.false_eq_true, if_false]
 refine wpAny_bind (wpAny_pyIter_gen g1 ?_)
 refine wpAny_bind (wpAny_holding ?_)
 refine wpAny_bind (wpAny_specialOf hT F.gen_no_len ?_)
 refine wpAny_bind (wpAny_specialOf hT F.gen_no_hint ?_)
 refine wpAny_pure ?_
 refine wpAny_bind (wpAny_rule ?_)
 have hS₁ : (s.heap.push { cls := .type "list", data := .seq ([] : List Value).toArray }).get? s.heap.objs.size = some { cls := .type "list", data := .seq ([] : List Value).toArray } := Heap.get?_push_size _ rfl
 refine wpAny_bind ?_
 refine wpAny_bind (wpAny_updateSeq hS₁ rfl ?_)
 have hS₂ := Heap.get?_update_self (Obj.mapSeq (·.push Value.none)) hS₁ rfl
 refine wpAny_updateSeq hS₂ rfl ?_
 have hS₃ := Heap.get?_update_self (Obj.mapSeq (·.pop)) hS₂ rfl
 have oth : ∀ b o, b ≠ s.heap.objs.size → (s.heap.push { cls := .type "list", data := .seq ([] : List Value).toArray }).get? b = some o →
  (((s.heap.push { cls := .type "list", data := .seq ([] : List Value).toArray }).update s.heap.objs.size (Obj.mapSeq (·.push Value.none))).update _ (Obj.mapSeq (·.pop))).get? b = some o :=
  fun b o hb e => (Heap.get?_update_other _ _ (Ne.symm hb)).trans ((Heap.get?_update_other _ _ (Ne.symm hb)).trans e)
 refine wpAny_pure ⟨plainId_quiet F.plain_extend_loop _, codeAny_mono (h _ _ hS₃ fun b o e => oth b o (Nat.ne_of_lt (Heap.lt_size e)) (old1 b o e)) fun r s' hr => ?_⟩
 obtain ⟨rfl, its, k, oS, q⟩ := hr
 refine wpAny_bind (wpAny_load oS ?_)
 exact wpAny_pure q
theorem code_tuple_g {Q₁ : Value → Shared → Prop} (hg : s.heap.IsGen a gn)
 (h : ∀ h3 k, h3.get? s.heap.objs.size = some { cls := .type "list", data := .seq ([] : List Value).toArray k } → (∀ b o, s.heap.get? b = some o → h3.get? b = some o) →
  codeAny (model prog w) A.in1 (.builtin "list.extend.loop" ⟨[.ref s.heap.objs.size, .ref a, .ref s.heap.objs.size], []⟩) (fun r s' => r = .ok (.ret (.ref s.heap.objs.size)) ∧ ∃ (its : List Value) (k : Nat), s'.heap.get? s.heap.objs.size = some { cls := .type "list", data := .seq its.toArray k } ∧ its.length ≤ sizeLine ∧ Q₁ (.ref s'.heap.objs.size) { s' with heap := s'.heap.push { cls := .type "tuple", data := .seq its.toArray } }) { s with heap := h3 }) :
 codeAny (model prog w) A (.call (.builtin "tuple.__new__") ⟨[.type "tuple", .ref a], []⟩) (wants Q₁ E) s := by
 refine codeAny_of_tree ?_
 show wpAny _ A.in1 (do checkBuiltinCall "tuple.__new__" ⟨[.type "tuple", .ref a], []⟩; again (.builtin "tuple.__new__" ⟨[.type "tuple", .ref a], []⟩)) _ _ s
 refine wpAny_bind (wpAny_of_eq (F.newCall_tuple_1 _) (wpAny_pure ⟨plainId_quiet F.plain_tuple_new _, codeAny_builtin F.entry_tuple_new ?_⟩))
 rw [Around.under_plainId F.plain_tuple_new _]
 have hsub := sub_tuple_self
 have hinit := init_tuple_lookup
 have hmh := madeHere_tuple
 have hTI : s.TypeIs (.ref a) "generator" := hg.typeIs
 have hcl := fun (Q : List Value → Shared → Prop) (E' : Value → Shared → Prop) => collect_gen (A := A.in1) (prog := prog) (w := w) (Q := Q) (E := E') hg
 wp_walk using wpAny_typeOf hTI, hcl
 intro h3 k e3 k3
 refine codeAny_mono (h h3 k e3 k3) fun r s' hr => ?_
 obtain ⟨rfl, its, k', oS, hz, q⟩ := hr
 refine ⟨rfl, its, k', oS, ?_⟩
 show wpAny _ _ (Builtin.Tuple.tupleExact its.toArray >>= fun v => ret v) _ _ _
 refine wpAny_bind (wpAny_newObj_type ?_ (by exact hz))
 exact wpAny_pure q
theorem call_tuple_g (hg : s.heap.IsGen a gn)
 (h : ∀ h3 k, h3.get? s.heap.objs.size = some { cls := .type "list", data := .seq [].toArray k } → (∀ b o, s.heap.get? b = some o → h3.get? b = some o) →
  codeAny (model prog w) A.in1.in1 (.builtin "list.extend.loop" ⟨[.ref s.heap.objs.size, .ref a, .ref s.heap.objs.size], []⟩) (fun r s' => r = .ok (.ret (.ref s.heap.objs.size)) ∧ ∃ (its : List _) (k : Nat), s'.heap.get? s.heap.objs.size = some { cls := .type "list", data := .seq its.toArray k } ∧ its.length ≤ sizeLine ∧ Q (.ref s'.heap.objs.size) { s' with heap := s'.heap.push { cls := .type "tuple", data := .seq its.toArray } }) { s with heap := h3 }) :
 wpAny (model prog w) A (call (.type "tuple") [.ref a]) Q E s := by
 refine callType_codes (Q₁ := fun obj s₁ => s₁.TypeIs obj "tuple" ∧ Q obj s₁) F.called_tuple (F.typeCall_tuple_1 _) F.entry_object_init
  (code_tuple_g hg fun h3 k e3 k3 => codeAny_mono (h h3 k e3 k3) fun r s' hr => ?_) fun obj s₁ h₁ => ?_
 · obtain ⟨e, its, k', oS, hz, q⟩ := hr
   exact ⟨e, its, k', oS, hz, ⟨_, Heap.get?_push_size _ rfl, rfl⟩, q⟩
 · exact ⟨h₁.1, F.args_object_init_2 _ _, object_init_meets F.called_tuple.init.lookup F.called_tuple.made rfl _ w _ _ _ ⟨h₁.1, rfl, h₁.2⟩⟩
end
def RS (ys : List V) (o : Obj) : Prop := ∃ (ns : List Int) (t : Tok) (c : Nat), ys = ns.map V.int ∧ o = { cls := .type "list", dict := none, data := .seq #[.int ns.sum t] c, slots := #[] }
def AllI (ys : List V) : Prop := ∃ ns : List Int, ys = ns.map V.int
theorem rs_sum {t t1} {c c1} (h : ({ cls := .type "list", dict := none, data := .seq #[.int n t] c, slots := #[] } : Obj) = { cls := .type "list", dict := none, data := .seq #[.int m t1] c1, slots := #[] }) : n = m := by grind
theorem AllI.last {ns : List _} {y} (h : AllI (ns.map V.int ++ [y])) : ∃ z, y = V.int z := by
 obtain ⟨ms, e⟩ := h
 have := congrArg List.getLast? e
 rw [List.getLast?_concat] at this
 cases q : ms.getLast? with
 | none => grind
 | some z => simp_all
section
variable {Xc : Cx} {pg : List (Addr × Obj)} {σc : St} {S : Addr} {Q : List V → Hp → Prop}
theorem sum_loop {A : Around} {a : Addr} {gn : Nat} {RR : Result → Shared → Prop} (hh : A.handled = none) (hroom : A.depth < recursionLimit) (hgn : gn < Xc.s₀.gens.size) (hpin : ∀ {H s}, Inv Xc pg σc H s → s.heap.IsGen a gn)
 (sS : ∀ {H : Hp}, H S = none → FpOk Xc pg H S)
 (hR : ∀ (ns : List Int) H s' t, Inv Xc pg σc H s' → Q (ns.map V.int) H → RR (.ok (.ret (.int ns.sum t))) s') :
 ∀ (n : Nat) (stage : Int) (s : Shared), stage = 0 ∨ stage = 2 → RdyT RS AllI Xc pg σc S Q A.in1.in1 gn n s → codeAny (model Xc.prog Xc.w) A (.builtin "sum.loop" ⟨[.ref a, .ref S, rawInt stage, rawInt 0], []⟩) RR s := by
 have turn : ∀ (n : Nat), (∀ n' stage s, n = n' + 1 → stage = 0 ∨ stage = 2 → RdyT RS AllI Xc pg σc S Q A.in1.in1 gn n' s → codeAny (model Xc.prog Xc.w) A (.builtin "sum.loop" ⟨[.ref a, .ref S, rawInt stage, rawInt 0], []⟩) RR s) → ∀ stage s, stage = 0 ∨ stage = 2 → RdyT RS AllI Xc pg σc S Q A.in1.in1 gn n s → codeAny (model Xc.prog Xc.w) A (.builtin "sum.loop" ⟨[.ref a, .ref S, rawInt stage, rawInt 0], []⟩) RR s := by
  intro n ih stage s hst R
  obtain ⟨ys, H, gs, I, hS, ⟨_, oS, ns, t0, c0, rfl, rfl⟩, hgs, go⟩ := R
  have I1 : Inv Xc pg σc H (s.setGen gn .running) := I.gens rfl rfl (bare_set I.bare rfl) (Nat.le_of_eq size_set.symm)
  refine codeAny_builtin F.entry_sum_loop ?_
  rw [Around.under_plainId F.plain_sum_loop _]
  show wpAny _ A.in1 (seqItems? (.ref S) >>= _) _ _ s
  refine wpAny_bind (wpAny_seqItems oS rfl ?_)
  show wpAny _ A.in1 (tryCatch (pyNext (.ref a)) _ >>= _) _ _ s
  refine wpAny_bind (wpAny_tryCatch (wpAny_pyNext_genexpQ (A := A.in1) (P := TPq RS Xc pg σc S Q) (Y := TYq RS AllI Xc pg σc S) hh I.nolimit hroom (hpin I) hgs (go _ I1 rfl) (fun v s1 gs' hb hv => ?_) (fun s1 hp h' hk => ?_)))
  · obtain ⟨eS, ys1, y, H1, al, r1, J1, hS1, ⟨o1, oS1, ns1, t1, c1, rfl, e1⟩, hz1, k1⟩ := hv
    have e2 : ns.sum = ns1.sum := rs_sum (Option.some.inj ((eS.trans oS).symm.trans oS1) |>.trans e1)
    obtain ⟨z, rfl⟩ := al.last
    obtain ⟨t, rfl⟩ := r1
    have oS2 : (s1.setGen gn gs').heap.get? S = _ := eS.trans oS
    have J2 : Inv Xc pg σc H1 (s1.setGen gn gs') := J1.gens rfl rfl (bare_set J1.bare hb) (Nat.le_of_eq size_set.symm)
    obtain ⟨f0, f1, f2, f3, f4, f5⟩ := sS hS1
    have nxt : ∀ (stage : Int) (h2 : Heap) (tk : Nat) (t2 : Tok) (c2 : Nat), stage = 0 ∨ stage = 2 → (∀ b o, b ≠ S → s1.heap.get? b = some o → h2.get? b = some o) → h2.get? S = some { cls := .type "list", dict := none, data := .seq #[.int (ns.sum + z) t2] c2, slots := #[] } → codeAny (model Xc.prog Xc.w) A (.builtin "sum.loop" ⟨[.ref a, .ref S, rawInt stage, rawInt 0], []⟩) RR { s1.setGen gn gs' with heap := h2, toks := tk } := fun stage h2 tk t2 c2 hst kp o2 => by
     have J3 : Inv Xc pg σc H1 { s1.setGen gn gs' with heap := h2, toks := tk } := J2.turned kp hS1 f1 f3 f4 f5
     have acc3 : AccAt RS S (ns1.map V.int ++ [V.int z]) h2 := ⟨_, o2, ns1 ++ [z], t2, c2, by simp, by rw [List.sum_append, List.sum_cons, List.sum_nil, Int.add_zero, e2]⟩
     cases n with
     | zero => exact (k1 _ J3 acc3 kp).elim
     | succ n' =>
      refine ih n' stage _ rfl hst ⟨_, H1, gs', J3, hS1, acc3, ?_, fun s'' I'' e'' => k1 s'' I'' (by rw [e'']; exact acc3) fun b o hb e => by rw [e'']; exact kp b o hb e⟩
      have hlt : gn < s1.gens.size := Nat.lt_of_lt_of_le hgn J1.os.2
      simp [Shared.setGen, hlt]
    rcases hst with rfl | rfl
    · show wpAny _ A.in1 (if (_ : Bool) = true then (mkInt (ns.sum + z) >>= _) else _) _ _ _
      split
      · refine wpAny_bind (wpAny_mkInt ?_)
        show wpAny _ A.in1 (updateSeq S (fun _ => #[.int (ns.sum + z) _]) >>= _) _ _ _
        refine wpAny_bind (wpAny_updateSeq oS2 rfl (wpAny_pure ⟨plainId_quiet F.plain_sum_loop _, nxt 0 _ _ _ _ (.inl rfl) (fun b o hb e => (Heap.get?_update_other _ _ (Ne.symm hb)).trans e) (Heap.get?_update_self _ oS2 rfl)⟩))
      · refine wpAny_bind (wpAny_rule (wpAny_bind (wpAny_attempt (wpAny_holding (PySem.P.add_int ?_)))))
        show wpAny _ A.in1 (updateSeq S (fun _ => #[.int (ns.sum + z) _]) >>= _) _ _ _
        refine wpAny_bind (wpAny_updateSeq oS2 rfl ?_)
        have oS3 := Heap.get?_update_self (Obj.mapSeq fun _ => #[Value.int (ns.sum + z) (s1.setGen gn gs').toks]) oS2 rfl
        refine wpAny_bind (wpAny_letGo (wpAny_bind (wpAny_updateSeq oS3 rfl (wpAny_pure ⟨plainId_quiet F.plain_sum_loop _, nxt 2 _ _ _ _ (.inr rfl) (fun b o hb e => (Heap.get?_update_other _ _ (Ne.symm hb)).trans ((Heap.get?_update_other _ _ (Ne.symm hb)).trans e)) (Heap.get?_update_self _ oS3 rfl)⟩))))
    · show wpAny _ A.in1 ((holding [Value.int z t] (binaryOp .Add (.int ns.sum t0) (.int z t))).attempt >>= _) _ _ _
      refine wpAny_bind (wpAny_attempt (wpAny_holding (PySem.P.add_int ?_)))
      show wpAny _ A.in1 (updateSeq S (fun _ => #[.int (ns.sum + z) _]) >>= _) _ _ _
      refine wpAny_bind (wpAny_updateSeq oS2 rfl ?_)
      have oS3 := Heap.get?_update_self (Obj.mapSeq fun _ => #[Value.int (ns.sum + z) (s1.setGen gn gs').toks]) oS2 rfl
      refine wpAny_bind (wpAny_letGo (wpAny_bind (wpAny_updateSeq oS3 rfl (wpAny_pure ⟨plainId_quiet F.plain_sum_loop _, nxt 2 _ _ _ _ (.inr rfl) (fun b o hb e => (Heap.get?_update_other _ _ (Ne.symm hb)).trans ((Heap.get?_update_other _ _ (Ne.symm hb)).trans e)) (Heap.get?_update_self _ oS3 rfl)⟩))))
  · obtain ⟨eS, ys1, H1, J1, hS1, ⟨o1, oS1, ns1, t1, c1, rfl, e1⟩, hz1, q1⟩ := hp
    have e2 : ns.sum = ns1.sum := rs_sum (Option.some.inj ((eS.trans oS).symm.trans oS1) |>.trans e1)
    have J2 : Inv Xc pg σc H1 (s1.setGen gn .finished) := J1.gens rfl rfl (bare_set J1.bare rfl) (Nat.le_of_eq size_set.symm)
    have := hR ns1 H1 _ t0 (J2.kept (t' := (s1.setGen gn .finished).toks) hk) q1
    rw [← e2] at this
    exact wpAny_pure this
 intro n
 induction n with
 | zero => exact fun st s => turn 0 (fun n' st s e => by omega) st s
 | succ n ih => exact fun st s => turn (n + 1) (fun n' st s e => by cases e; exact ih st s) st s
end
section
variable {prog : Program} {w : World} {A : Around} {E : Value → Shared → Prop} {s : Shared} {a : Addr} {gn : Nat}
theorem call_sum_g (hg : s.heap.IsGen a gn)
 (h : ∀ (tk : Nat) (t0 : Tok) (h3 : Heap), h3.get? s.heap.objs.size = some { cls := .type "list", dict := none, data := .seq #[.int 0 t0] 0, slots := #[] } → (∀ b o, s.heap.get? b = some o → h3.get? b = some o) →
  codeAny (model prog w) A (.builtin "sum.loop" ⟨[.ref a, .ref s.heap.objs.size, rawInt 0, rawInt 0], []⟩) (wants Q E) { s with heap := h3, toks := tk }) :
 wpAny (model prog w) A (call (.builtin "sum") [.ref a]) Q E s := by
 refine call_function_tree F.kind_sum F.plain_sum F.entry_sum (F.args_sum1 _) ?_
 refine wpAny_bind (wpAny_of_eq (rfl) (wpAny_bind (wpAny_pyIter_gen hg (wpAny_bind (wpAny_mkInt (wpAny_bind (wpAny_pure ?_)))))))
 refine wpAny_bind (wpAny_bind (wpAny_bind (wpAny_isInstance (typeIs_int _ _ _) PySem.sub_int_str ?_)))
 refine wpAny_pure (wpAny_pure (wpAny_bind (wpAny_newObj_type (wpAny_pure ⟨plainId_quiet F.plain_sum_loop _, ?_⟩))))
 exact h _ _ _ (Heap.get?_push_size _ rfl) fun b o e => Heap.get?_push_of_some _ e
end
def inN : Nat → Around → Around
 | 0, A => A
 | d + 1, A => (inN d A).in1
theorem inN_hd (A : Around) : ∀ d, (inN d A).handled = A.handled
 | 0 => rfl
 | d + 1 => inN_hd A d
theorem inN_dp (A : Around) : ∀ d, (inN d A).depth = A.depth
 | 0 => rfl
 | d + 1 => inN_dp A d
theorem inN_un (A : Around) : ∀ d, (inN d A).units = A.units + d
 | 0 => rfl
 | d + 1 => by show (inN d A).units + 1 = _; rw [inN_un A d]; rfl
def cxGen4 (d : Nat) (X : Cx) (N' : List Str) (elt : Expr) (gs : List Comprehension) (scope : Scope) (pos : Pos) (cl : List (Str × Addr)) (C : Addr) (code : Value) (it : Addr) (ex : List Addr) (s : Shared) (H : Hp) : Cx :=
 { cxGen X N' elt gs scope pos cl C code it ex s H with A := (inN d X.A).over (.compLoop (.GeneratorExp elt gs scope pos) 0 (.ref it) .none (genEnv scope cl C code builtinsNs X.env)) [] }
theorem Room.gen4 {k d} (hd : d ≤ 4) {A} (r : Room (k + 1) A) {elt} {gs} {scope} {pos} {it acc} {env} : Room k ((inN d A).over (.compLoop (.GeneratorExp elt gs scope pos) 0 it acc env) []) := by
 have h1 := r.dp
 have h2 := r.un
 refine ⟨(inN_hd A d).trans r.hd, ?_, ?_⟩
 · show (inN d A).depth + 0 + 1 + 3 * k + 5 < _
   rw [inN_dp]
   omega
 · show (inN d A).units + 0 + 3 + 16 * k + 200 < _
   rw [inN_un]
   omega
theorem inv4 {d : Nat} (hd : d = 2 ∨ d = 4) {X : Cx} {pins : List (Addr × Obj)} {σ : St} {H : Hp} {s : Shared} {N' : List Str} {elt : Expr} {gs : List Comprehension} {scope : Scope} {pos : Pos} {cl : List (Str × Addr)} {C : Addr} {code : Value} {it : Addr} {ex : List Addr} {s0 : Shared} {H0 : Hp} (I : Inv (cxGen X N' elt gs scope pos cl C code it ex s0 H0) pins σ H s) : Inv (cxGen4 d X N' elt gs scope pos cl C code it ex s0 H0) pins σ H s := by
 rcases hd with rfl | rfl <;> exact ⟨{ I.ok with hd := I.ok.hd, frames := I.ok.frames }, I.os, I.bare, I.base, I.loc, I.cell, I.free, I.freeC, I.pin, I.hok, I.len⟩
def tGenT (P : Addr) (ix : List (Option Nat)) (wi : TI) (g : TG) (tt : TT) (te : TE) : TE := fun σ H Q => wi σ H fun J H1 => H1 P = some (TabO P) ∧ CompW J (pick ix σ) g tt te (fun ys H' => ∀ p, H' p = none → Q (.ref p) (upd H' p (.tup ys))) H1
def CompWL (OkL : List V → Prop) (J : It) (σc : St) (g : TG) (tt : TT) (te : TE) (Q : List V → Hp → Prop) (H1 : Hp) : Prop :=
 CompG OkL (fun ys => ys.length ≤ sizeLine) (fun ys => ys.length < sizeLine) (emL te) [] J σc g tt Q H1
def tGenS (P : Addr) (ix : List (Option Nat)) (wi : TI) (g : TG) (tt : TT) (te : TE) : TE := fun σ H Q => wi σ H fun J H1 => H1 P = some (TabO P) ∧ CompWL AllI J (pick ix σ) g tt te (fun ys H' => ∀ ns : List Int, ys = ns.map V.int → Q (.int ns.sum) H') H1
section
variable {X : Cx}
theorem gq_make {d : Nat} (hd4 : d = 2 ∨ d = 4) {RA : List V → Obj → Prop} {OkL : List V → Prop} (hRA : ∀ ys o v, RA ys o → o.data ≠ .cell v) {QF : List V → Hp → Prop} {KK : It → Hp → Prop} {pins : List (Addr × Obj)} {s : Shared} {σ : St} {H : Hp} {elt target iter : Expr} {ifs : List Expr} {scope : Scope} {pos : Pos} {N' : List Str} {ix : List (Option Nat)} {wi : TI} {g : TG} {tt : TT} {te : TE} {c P : Addr} {QQ : Value → Shared → Prop}
 (hcalm : X.calm = true) (hroom : X.A.depth < recursionLimit) (hi : PI X target iter wi)
 (hg : ∀ cl C code it ex s H, PG (cxGen4 d X N' elt [⟨target, iter, ifs, 0⟩] scope pos cl C code it ex s H) target g) (hf : ∀ cl C code it ex s H, PF (cxGen4 d X N' elt [⟨target, iter, ifs, 0⟩] scope pos cl C code it ex s H) ifs tt)
 (he : ∀ cl C code it ex s H, PE (cxGen4 d X N' elt [⟨target, iter, ifs, 0⟩] scope pos cl C code it ex s H) elt te)
 (hok : compOk X.env.scope X.N scope N' ix = true) (hco : scope.isCoroutine = false) (h0 : scope.names.lookup (".0" : Str) = some NameKind.local) (B : Bm X.mg X.base) (hc : X.env.code = .ref c) (hd : PySem.W.CodeHd X.base c P)
 (hs : ∀ x, genFold iter X.env x = pure x) (I : Inv X pins σ H s) (h : wi σ H KK) (hKK : ∀ J H1, KK J H1 → H1 P = some (TabO P) ∧ CompWL OkL J (pick ix σ) g tt te QF H1)
 (hQQ : ∀ (Xc : Cx) (pg : List (Addr × Obj)) (σc : St) (a : Addr) (gn n : Nat) (s' : Shared), Xc.prog = X.prog → Xc.w = X.w → gn < Xc.s₀.gens.size → (∀ {H s}, Inv Xc pg σc H s → s.heap.IsGen a gn) → s'.heap.IsGen a gn →
  (∀ h3 tk o, h3.get? s'.heap.objs.size = some o → RA [] o → (∀ b o, s'.heap.get? b = some o → h3.get? b = some o) → RdyT RA OkL Xc pg σc s'.heap.objs.size QF (inN d X.A) gn n { s' with heap := h3, toks := tk }) →
  (∀ {H : Hp}, H s'.heap.objs.size = none → FpOk Xc pg H s'.heap.objs.size) →
  (∀ (H : Hp) (s'' : Shared), Inv Xc pg σc H s'' → Inv X pins σ H s'') → QQ (.ref a) s') :
 wpAny (model X.prog X.w) X.A (eval (.GeneratorExp elt [⟨target, iter, ifs, 0⟩] scope pos) X.env) QQ X.xe s := by
 obtain ⟨hk, _, hcell⟩ := compOk_is hok
 obtain ⟨_, _, cl, hcl, hc1, hc2⟩ := comp_clo I hok
 refine wpAny_GeneratorExp_make hco hcl hcell h0 hk hroom (thn (hi pins s σ H _ I h) fun v s1 h1 => thn h1 fun itv s2 h2 => ?_) hs
 obtain ⟨it, fp, tn, J, H2, e, I2, T, st2, f2, kk⟩ := h2
 obtain ⟨ht, W, ⟨m0, w0⟩, hWL, turn⟩ := hKK _ _ kk
 subst e
 refine ⟨I2.nolimit, gen_code I2 hc hd ht fun code h3 tk3 I3 k3 => gen_blt I3 B ?_⟩
 intro h4 hns4 hsb4
 dsimp only at hns4 hsb4 ⊢
 have fpP : ∀ b ∈ fp, b ≠ P := fun b hb z => by
  have := (f2 b hb).1
  rw [z, ht] at this
  cases this
 have st3 : tn 0 h3 := T.keep _ _ _ st2 fun b hb o e => k3 b o (fpP b hb) e
 have fpLt : ∀ b ∈ fp, b < h3.objs.size := fun b hb => by
  obtain ⟨o, e, _⟩ := T.obj _ _ st3 b hb
  exact Heap.lt_size e
 have hz4 : h4.objs.size = h3.objs.size + 1 := by rw [hsb4.1, Heap.size_push]
 have old4 : ∀ b o, h3.get? b = some o → h4.get? b = some o := fun b o e => hsb4.extBut b o (Nat.ne_of_lt (Heap.lt_size e)) (Heap.get?_push_of_some _ e)
 generalize hog : ({ cls := .type "generator", data := .fields #[.int s2.gens.size 0, .str "<genexpr>" (tk3 + 1), .str (X.env.qual ++ "<genexpr>") (tk3 + 1 + 1)] } : Obj) = og
 have old5 : ∀ b o, h3.get? b = some o → (h4.push og).get? b = some o := fun b o e => Heap.get?_push_of_some _ (old4 b o e)
 have hex : ∀ b ∈ fp, FpOk X pins H2 b ∧ b < ({ s2 with heap := h3, toks := tk3 } : Shared).heap.objs.size := fun b hb => ⟨f2 b hb, fpLt b hb⟩
 have I5 := inv4 hd4 (gen_inv I3 (elt := elt) (gs := [⟨target, iter, ifs, 0⟩]) (pos := pos) (code := code) (it := it) (tk := tk3 + 1 + 1 + 1) (g' := s2.gens.push (.fresh (.compStart (.GeneratorExp elt [⟨target, iter, ifs, 0⟩] scope pos) 0 (.ref it) .none (genEnv scope cl h3.objs.size code builtinsNs X.env)))) hok hc1 hc2 hex (hns4.push og) old5 (I3.bare.push rfl))
 generalize hXc : cxGen4 d X N' elt [⟨target, iter, ifs, 0⟩] scope pos cl ({ s2 with heap := h3, toks := tk3 } : Shared).heap.objs.size code it fp _ H2 = Xc at I5
 have hg' : PG Xc target g := by rw [← hXc]; exact hg _ _ _ _ _ _ _
 have hf' : PF Xc ifs tt := by rw [← hXc]; exact hf _ _ _ _ _ _ _
 have he' : PE Xc elt te := by rw [← hXc]; exact he _ _ _ _ _ _ _
 have xP : Xc.prog = X.prog := by rw [← hXc]; rfl
 have xw : Xc.w = X.w := by rw [← hXc]; rfl
 have xK : Xc.K = X.K := by rw [← hXc]; rfl
 have xE : Xc.env = genEnv scope cl h3.objs.size code builtinsNs X.env := by rw [← hXc]; rfl
 have xA : Xc.A = (inN d X.A).over (.compLoop (.GeneratorExp elt [⟨target, iter, ifs, 0⟩] scope pos) 0 (.ref it) .none Xc.env) [] := by rw [xE, ← hXc]; rfl
 have xc : Xc.calm = true := by rw [← hXc]; exact hcalm
 have xL : Xc.env.locals = h3.objs.size := by rw [xE]; rfl
 have xx : Xc.ex = fp := by rw [← hXc]; rfl
 have xp : Xc.pn = [] := by rw [← hXc]; rfl
 have xs : Xc.s₀.heap = h3 := by rw [← hXc]; rfl
 have xsg : Xc.s₀.gens.size = s2.gens.size + 1 := by rw [← hXc]; exact Array.size_push _
 have xso : Xc.s₀.os = s2.os := by rw [← hXc]; rfl
 have xH : Xc.H₀ = H2 := by rw [← hXc]; rfl
 have xf : Xc.fs = frs X.stack := by rw [← hXc]; rfl
 have xcl : Xc.env.cells = cl := by rw [xE]; rfl
 have xx' : Xc.xe = fun _ _ => False := by rw [← hXc]; rfl
 have xco : Xc.env.scope.isCoroutine = false := by rw [xE]; exact hco
 have aLt : (h3.objs.size : Nat) < h4.objs.size := by omega
 have aFp : h4.objs.size ∉ fp := fun hb => Nat.lt_irrefl _ (Nat.lt_trans aLt (fpLt _ hb))
 have stat : ∀ {S : Addr} {H' : Hp} {o : Obj}, S ∉ fp → (∀ b ∈ fp, H' b = none) → ∀ b ∈ fp, FpOk Xc ((S, o) :: [(h4.objs.size, og)]) H' b := fun {S H' o} hSf hn b hb => by
  refine ⟨hn b hb, by rw [xL]; exact Nat.ne_of_lt (fpLt b hb), by rw [xf]; exact I2.off (f2 b hb), .inl (by rw [xx]; exact hb), fun x c e => (f2 b hb).2.2.2.2.1 x c (hc1 x c (by rw [xcl] at e; exact e)), fun p hp z => ?_⟩
  rw [xp] at hp
  have hp' : p = (S, o) ∨ p = (h4.objs.size, og) := by simpa using hp
  rcases hp' with hp' | hp'
  · rw [hp'] at z
    exact hSf (by have z' : S = b := z; rw [z']; exact hb)
  · rw [hp'] at z
    exact aFp (by have z' : h4.objs.size = b := z; rw [z']; exact hb)
 have aX : h4.objs.size ∉ frs X.stack := fun hb => by
  rcases List.mem_cons.mp (I3.stkSub _ hb) with z | z
  · have h' : X.env.locals < h3.objs.size := I3.lt
    exact Nat.lt_irrefl _ (Nat.lt_trans aLt (by rw [z]; exact h'))
  · exact I3.nofs (a := h4.objs.size) (Nat.le_of_lt aLt) z
 have I6 : Inv Xc [(h4.objs.size, og)] (pick ix σ) H2 { s2 with heap := h4.push og, gens := s2.gens.push (.fresh (.compStart (.GeneratorExp elt [⟨target, iter, ifs, 0⟩] scope pos) 0 (.ref it) .none (genEnv scope cl h3.objs.size code builtinsNs X.env))), toks := tk3 + 1 + 1 + 1 } := I5.pins_of fun p hp => by
  have hp' : p = (h4.objs.size, og) := by simpa using hp
  subst hp'
  refine ⟨Heap.get?_push_size _ (by rw [← hog]; rfl), I3.hok.fresh (Nat.le_of_lt aLt), by rw [xL]; exact Nat.ne_of_gt aLt, by rw [xf]; exact aX, fun v z => ?_⟩
  rw [← hog] at z
  cases z
 rw [← xP, ← xw, ← xK] at T
 have hz5 : (h4.push og).objs.size = h4.objs.size + 1 := Heap.size_push _ _
 have sF : ∀ b ∈ fp, b < (h4.push og).objs.size := fun b hb => by rw [hz5]; exact Nat.lt_succ_of_lt (Nat.lt_trans (fpLt b hb) aLt)
 have hSf : (h4.push og).objs.size ∉ fp := fun hm => Nat.lt_irrefl _ (sF _ hm)
 have fS : ∀ {H : Hp}, H (h4.push og).objs.size = none → FpOk Xc [(h4.objs.size, og)] H (h4.push og).objs.size := fun {H} hn => I6.fpOk (Nat.le_refl _) hn
 have seg := tup_seg (OkL := OkL) (Q := QF) hRA (Xc := Xc) (pg := [(h4.objs.size, og)]) (σc := pick ix σ) (S := (h4.push og).objs.size) (A1 := inN d X.A) (W := W) T xA xc xx' xco hg' hf' he' hSf (fS (H := fun _ => none) rfl).2.1 (fS (H := fun _ => none) rfl).2.2.1 (stat hSf) turn hWL m0 (m0 + 1) (Nat.lt_succ_self _) 0 [] H2
 have genAt : ∀ {H s}, Inv Xc [(h4.objs.size, og)] (pick ix σ) H s → s.heap.IsGen h4.objs.size s2.gens.size := fun {H s} K => by
  have := (K.pin (h4.objs.size, og) (List.mem_append_right _ (List.mem_singleton.mpr rfl))).1
  exact ⟨og, _, _, this, by rw [← hog], by rw [← hog], by rw [← hog]⟩
 refine hQQ Xc [(h4.objs.size, og)] (pick ix σ) h4.objs.size s2.gens.size (m0 + 1) _ xP xw (by rw [xsg]; exact Nat.lt_succ_self _) genAt (genAt I6) (fun h6 tk6 o6 e6 a6 k6 => ?_) fS (fun H' s' K => ?_)
 · refine ⟨[], H2, _, I6.kept (t' := tk6) k6, I6.hok.fresh (Nat.le_refl _), ⟨o6, e6, a6⟩, Array.getElem?_push_size .., fun s'' I'' e'' => ⟨rfl, ?_⟩⟩
   have e'' : s''.heap = h6 := e''
   have st'' : tn 0 s''.heap := by rw [e'']; exact T.keep _ _ _ st3 fun b hb o e => k6 b o (old5 b o e)
   rw [← xE]
   exact gen_start T st'' (seg s'' s'' w0 I'' (I6.hok.fresh (Nat.le_refl _)) (by rw [e'']; exact ⟨o6, e6, a6⟩) st'' (fun b hb => (f2 b hb).1) rfl)
 · have u := K.base
   rw [xs, xH, xf, xx] at u
   have ko := K.hok
   rw [xP, xw] at ko
   exact I3.call' (s' := s') (ch := fp) ⟨by rw [K.os.1, xso], by have := K.os.2; rw [xsg] at this; exact Nat.le_trans (Nat.le_succ _) this⟩ u ko K.bare (fun b hb => by
    have f := f2 b hb
    exact ⟨f.2.2.2.1, f.2.1, f.2.2.2.2.1, f.2.2.2.2.2⟩)
theorem pe_tupG {elt target iter : Expr} {ifs : List Expr} {scope : Scope} {pos cpos p : Pos} {N' : List Str} {ix : List (Option Nat)} {wi : TI} {g : TG} {tt : TT} {te : TE} {c P : Addr} {k : Nat} (hcalm : X.calm = true) (hr : Room k X.A) (hgl : Gl X "tuple") (hm : X.mg "tuple" = none) (B : Bm X.mg X.base) (hd : PySem.W.CodeHd X.base c P) (hc : X.env.code = .ref c) (hi : PI X target iter wi)
 (hg : ∀ cl C code it ex s H, PG (cxGen4 4 X N' elt [⟨target, iter, ifs, 0⟩] scope pos cl C code it ex s H) target g) (hf : ∀ cl C code it ex s H, PF (cxGen4 4 X N' elt [⟨target, iter, ifs, 0⟩] scope pos cl C code it ex s H) ifs tt)
 (he : ∀ cl C code it ex s H, PE (cxGen4 4 X N' elt [⟨target, iter, ifs, 0⟩] scope pos cl C code it ex s H) elt te)
 (hok : compOk X.env.scope X.N scope N' ix = true) (hco : scope.isCoroutine = false) (h0 : scope.names.lookup (".0" : Str) = some NameKind.local)
 (hs : ∀ x, genFold iter X.env x = pure x) :
 PE X (.Call (.Name "tuple" p) [.GeneratorExp elt [⟨target, iter, ifs, 0⟩] scope pos] [] cpos) (tGenT P ix wi g tt te) := by
 intro pins s σ H Q I h
 refine wpAny_Call_Name_kw (ld_blt I hgl hm (show bootBuiltins (Str.ofString "tuple") = some (.type "tuple") by decide +kernel) ?_)
 refine PyProof.Rows.callWith_type1 ?_ rfl rfl
 refine Calls.spliced_cons (gq_make (.inr rfl) (RA := RT) (OkL := fun _ => True) (fun ys o v ho z => by obtain ⟨_, _, rfl, _⟩ := ho; cases z) hcalm hr.depth hi hg hf he hok hco h0 B hc hd hs I h (fun _ _ h => h) fun Xc pg σc a gn n s' xP xw hgn hpin hgen hrdy hS hfin => Calls.spliced_nil ?_)
 refine call_tuple_g hgen fun h3 k e3 k3 => ?_
 have L := fun RR hR => tup_loop (A := X.A.in1.in1) (RR := RR) (res := .ref s'.heap.objs.size) hr.hd hr.depth hgn hpin hS hR n _ (hrdy h3 s'.toks _ e3 ⟨[], k, rfl, .nil⟩ k3)
 rw [xP, xw] at L
 refine L _ fun ys H1 s'' J hS1 acc hz q => ?_
 obtain ⟨_, oS, its, k', rfl, vS⟩ := acc
 have J1 := hfin H1 _ J
 refine ⟨rfl, its, k', oS, by rw [← vS.length]; exact hz, .ref _, _, J1.laid (fun b o e => Heap.get?_push_of_some _ e) (Nat.le_refl _) ?_, rfl, q _ (J1.hok.fresh (Nat.le_refl _))⟩
 exact ⟨hz, its, vS, _, Heap.get?_push_size _ rfl, rfl, _, rfl⟩
theorem pe_sumG {elt target iter : Expr} {ifs : List Expr} {scope : Scope} {pos cpos p : Pos} {N' : List Str} {ix : List (Option _)} {wi} {g} {tt} {te} {c P} {k} (hcalm : X.calm = true) (hr : Room k X.A) (hgl : Gl X "sum") (hm : X.mg "sum" = none) (B : Bm X.mg X.base) (hd : PySem.W.CodeHd X.base c P) (hc : X.env.code = .ref c) (hi : PI X target iter wi)
 (hg : ∀ cl C code it ex s H, PG (cxGen4 2 X N' elt [⟨target, iter, ifs, 0⟩] scope pos cl C code it ex s H) target g) (hf : ∀ cl C code it ex s H, PF (cxGen4 2 X N' elt [⟨target, iter, ifs, 0⟩] scope pos cl C code it ex s H) ifs tt)
 (he : ∀ cl C code it ex s H, PE (cxGen4 2 X N' elt [⟨target, iter, ifs, 0⟩] scope pos cl C code it ex s H) elt te)
 (hok : compOk X.env.scope X.N scope N' ix = true) (hco : scope.isCoroutine = false) (h0 : scope.names.lookup (".0" : Str) = some NameKind.local)
 (hs : ∀ x, genFold iter X.env x = pure x) :
 PE X (.Call (.Name "sum" p) [.GeneratorExp elt [⟨target, iter, ifs, 0⟩] scope pos] [] cpos) (tGenS P ix wi g tt te) := by
 intro pins s σ H Q I h
 refine wpAny_Call_Name_kw (ld_blt I hgl hm (show bootBuiltins _ = some (.builtin "sum") by decide +kernel) ?_)
 refine PyProof.Rows.callWith_builtin1 ?_ rfl rfl
 refine Calls.spliced_cons (gq_make (.inl rfl) (RA := RS) (fun ys o v ho z => by obtain ⟨_, _, _, _, rfl⟩ := ho; cases z) hcalm hr.depth hi hg hf he hok hco h0 B hc hd hs I h (fun J H1 k => k) fun Xc pg σc a gn n s' xP xw hgn hpin hgen hrdy hS hfin => Calls.spliced_nil ?_)
 refine call_sum_g hgen fun tk t0 h3 e3 k3 => ?_
 have L := fun RR hR => sum_loop (RR := RR) hr.hd hr.depth hgn hpin hS hR n 0 _ (.inl rfl) (hrdy h3 tk _ e3 ⟨[], t0, 0, rfl, rfl⟩ k3)
 rw [xP, xw] at L
 exact L _ fun ns H1 s'' t J q => ⟨.int _, H1, hfin H1 _ J, ⟨t, rfl⟩, q ns rfl⟩
end
end L2
end
section
namespace HT
open PySem PyProof.Rows
end HT
namespace L2
def insO (x : Int) : List Int → List Int
 | [] => [x]
 | y :: r => if x ≤ y then x :: y :: r else y :: insO x r
def sortO : List Int → List Int
 | [] => []
 | x :: r => insO x (sortO r)
end L2
end
section
namespace L2
end L2
end
section
namespace L2
open PySem PySem.W PyProof.Rows
section
variable {key : Nat → Int} {N : Nat} {p : Array Nat}
def kk (key : Nat → Int) (p : Array Nat) (i : Nat) : Int := key (p.getD i 0)
end
end L2
end
section
namespace L2
open PySem PySem.W PyProof.Rows
def BIG : Int := 2 ^ 64
end L2
end
section
namespace L2
open PySem PySem.W PyProof.Rows
end L2
end
section
namespace L2
open PySem PySem.W PyProof.Rows
def leS (a b : Str) : Bool := !decide (b.cps.toList < a.cps.toList)
def insS (x : Str) : List Str → List Str
 | [] => [x]
 | y :: r => if leS x y then x :: y :: r else y :: insS x r
def sortS : List Str → List Str
 | [] => []
 | x :: r => insS x (sortS r)
end L2
end
section
namespace L2
section
variable {prog : Program} {w : World} {A : Around} {E : Value → Shared → Prop} {s : Shared} {r : Addr} {hi : Int} {t u v : Tok}
def Upto (n : Nat) (acc : Array Value) : Prop := ItemsOf (fun (i : Nat) v => ∃ t, v = Value.int (0 + (i : Int) * 1) t) acc n
theorem collect_rng {Q : List Value → Shared → Prop} {n : Nat} (hh : A.handled = none) (hr : IsRange s.heap r 0 n 1 t u v) (hn : n ≤ 1000)
 (hQ : ∀ (h' : Heap) (tk : Nat) (acc : Array Value), (∀ b o, s.heap.get? b = some o → h'.get? b = some o) → Upto n acc → Q acc.toList { s with heap := h', toks := tk }) : wpAny (model prog w) A (collect (.ref r)) Q E s := by
 have hsm : Builtin.Range.small 0 (n : Int) 1 = true := small_one (by decide) (by decide) (by omega) (by omega)
 have hsz : Builtin.Range.rangeSize 0 (n : Int) 1 = n := by rw [rangeSize_one]; split <;> omega
 refine wpAny_bind (wpAny_runValue (codeAny_builtin F.entry_proto_collect (by
  refine wpAny_bind (m := newList []) (wpAny_newObj_type (wpAny_pure ⟨plainId_quiet F.plain_list_iadd _, codeAny_builtin F.entry_list_iadd ?_⟩))
  refine wpAny_mono (wpAny_extend_range (a := 0) (c := 1) (R := fun x s' => ∃ h' tk acc k, x = .ok (.ret (.ref s.heap.objs.size)) ∧ s' = { s with heap := h', toks := tk } ∧ (∀ b o, s.heap.get? b = some o → h'.get? b = some o) ∧ h'.get? s.heap.objs.size = some { cls := .type "list", data := .seq acc k } ∧ Upto n acc)
   hh (Heap.get?_push_of_some _ hr) hsm hsz (by omega) _ _ _ (Heap.get?_push_size _ rfl) fun h' tk acc k hk hS ha => ⟨h', tk, acc, k, rfl, rfl, fun b o e => hk b o (Nat.ne_of_lt (Heap.lt_size e)) (Heap.get?_push_of_some _ e), hS, ha⟩) (fun fin s' h => ?_) fun e s' h => ?_
  · have go : ∀ {x : Result} {s'}, (∃ h' tk acc k, x = .ok (.ret (.ref s.heap.objs.size)) ∧ s' = { s with heap := h', toks := tk } ∧ (∀ b o, s.heap.get? b = some o → h'.get? b = some o) ∧ h'.get? s.heap.objs.size = some { cls := .type "list", data := .seq acc k } ∧ Upto n acc) → x = .ok _ ∧ wpAny (model prog w) A (do
     match (← load _).data with
      | Data.seq xs _ => pure xs.toList
      | _ => unsupported "internal:collect") Q E s' := fun ⟨h', tk, acc, k, e, es, hk, hS, ha⟩ => by
     subst e es
     exact ⟨rfl, wpAny_bind (wpAny_load hS (wpAny_pure (hQ h' tk _ hk ha)))⟩
    cases fin with
    | done f =>
     obtain ⟨e, q⟩ := go h
     cases e
     exact q
    | again c => exact ⟨h.1, codeAny_mono h.2 fun x s'' hx => by obtain ⟨rfl, q⟩ := go hx; exact q⟩
  simp_all)))
theorem call_tupR {Q : Value → Shared → Prop} {n : Nat} (hh : A.handled = none) (hr : IsRange s.heap r 0 n 1 t u v) (hn : n ≤ 1000)
 (hQ : ∀ (h' : Heap) (tk : Nat) (acc : Array Value), (∀ b o, s.heap.get? b = some o → h'.get? b = some o) → Upto n acc → Q (.ref h'.objs.size) { s with heap := h'.push { cls := .type "tuple", data := .seq acc }, toks := tk }) : wpAny (model prog w) A (call (.type "tuple") [.ref r]) Q E s := by
 refine callType_codes (Q₁ := fun obj s₁ => s₁.TypeIs obj "tuple" ∧ Q obj s₁) F.called_tuple (F.typeCall_tuple_1 _) F.entry_object_init
  (codeAny_of_tree ?_) fun obj s₁ h₁ => ⟨h₁.1, F.args_object_init_2 obj _, object_init_meets F.called_tuple.init.lookup F.called_tuple.made (by decide) prog w A.in1 _ s₁ ⟨h₁.1, rfl, h₁.2⟩⟩
 refine wpAny_bind (wpAny_of_eq (F.newCall_tuple_1 _) (wpAny_pure ⟨plainId_quiet F.plain_tuple_new _, codeAny_builtin F.entry_tuple_new ?_⟩))
 rw [Around.under_plainId F.plain_tuple_new _]
 have hsub := sub_tuple_self
 have hinit := init_tuple_lookup
 have hmh := madeHere_tuple
 have hTI : s.TypeIs (.ref r) "range" := ⟨_, hr, rfl⟩
 have hcl := fun (Q : List Value → Shared → Prop) (E' : Value → Shared → Prop) => collect_rng (A := A.in1.in1) (prog := prog) (w := w) (Q := Q) (E := E') hh hr hn
 wp_walk using wpAny_typeOf hTI, hcl
 intro h' tk acc hk ha
 refine wpAny_bind (m := Builtin.Tuple.tupleExact _) (wpAny_newObj_type ?_ (by show acc.toList.toArray.size ≤ sizeLine; simp only [Array.toArray_toList]; rw [ha.1, sizeLine_eq]; omega))
 refine wpAny_pure ⟨⟨_, Heap.get?_push_size _ rfl, rfl⟩, ?_⟩
 exact hQ h' tk acc hk ha
end
section
variable {X : Cx} {x : Expr} {te : TE}
def tTupR (te : TE) : TE := fun σ H Q => te σ H fun v H1 => ∃ n : Nat, v = .int n ∧ n ≤ 1000 ∧ ∀ p, H1 p = none → Q (.ref p) (upd H1 p (.tup ((List.range n).map fun (i : Nat) => V.int i)))
theorem upto_l : ∀ n l, l.length = n → (∀ (j : Nat) v, l[j]? = some v → ∃ t, v = Value.int (0 + j * 1) t) → Vals ((List.range n).map fun (i : Nat) => V.int i) l
 | 0, l, h, _ => by rw [List.length_eq_zero_iff.mp h]; exact .nil
 | n + 1, l, h, k => by
  have hne : l ≠ [] := fun e => by rw [e] at h; cases h
  have hl : l.dropLast.length = n := by grind
  rw [← List.dropLast_concat_getLast hne, List.range_succ, List.map_append]
  refine (upto_l n _ hl fun j v e => k j v ?_).append (.cons ?_ .nil)
  · rw [← List.dropLast_concat_getLast hne]
    exact (List.getElem?_append_left (List.getElem?_eq_some_iff.mp e).1).trans e
  · obtain ⟨t, e⟩ := k n (l.getLast _) (by grind)
    exact ⟨t, by rw [e]; congr 1; omega⟩
theorem upto_vals (h : Upto n acc) : Vals ((List.range n).map fun (i : Nat) => V.int i) acc.toList :=
 upto_l n _ h.1 fun j v e => h.2 j v (by simp_all)
theorem pe_tupR {p1 p2 q1 q2} (hr : X.A.handled = none) (hg1 : Gl X "tuple") (hg2 : Gl X "range") (hm1 : X.mg "tuple" = none) (hm2 : X.mg "range" = none) (he : PE X x te) (hx : starEach [x] X.env = [(false, eval x X.env)]) :
 PE X (.Call (.Name "tuple" p1) [.Call (.Name "range" p2) [x] [] q2] [] q1) (tTupR te) := by
 intro pins s σ H Q I h
 refine wpAny_Call_Name_kw (ld_blt I hg1 hm1 boot_tuple ?_)
 refine PyProof.Rows.callWith_type1 ?_ rfl rfl
 refine Calls.spliced_cons ?_
 refine wpAny_Call_Name_kw (ld_blt I hg2 hm2 boot_range ?_)
 refine PyProof.Rows.callWith_type1 ?_ hx rfl
 rw [hx]
 refine Calls.spliced_cons (thn (he _ s σ H _ I h) fun v s1 h1 => Calls.spliced_nil ?_)
 obtain ⟨y, H1, I1, r1, n, rfl, hn, q⟩ := h1
 obtain ⟨tk, rfl⟩ := r1
 refine call_range_1 ?_
 refine Calls.spliced_nil (call_tupR hr (IsRange.new ..) hn fun h' tk acc hk ha => ?_)
 have k1 := fun b o e => hk b o (Heap.get?_push_of_some _ e)
 have vs := upto_vals ha
 have hp := by
  have := hk _ _ (Heap.get?_push_size _ rfl)
  exact Nat.le_of_lt (Heap.lt_size this)
 refine ⟨.ref _, _, I1.laid (o := .tup _) (fun b ob e => Heap.get?_push_of_some _ (k1 b ob e)) hp ⟨?_, _, vs, IsTup.new _ _⟩, rfl, q _ (I1.hok.fresh hp)⟩
 rw [List.length_map, List.length_range, sizeLine_eq]
 omega
end
end L2
end
section
namespace L2
open PySem
section
variable {X : Cx}
def rInsert : V → List V → Hp → VK → Prop := fun x vs H Q => ∃ l xs i y, x = .ref l ∧ vs = [.int i, y] ∧ H l = some (.lst xs) ∧ 0 ≤ i ∧ i ≤ (xs.length : Int) ∧ xs.length < sizeLine ∧ Q .non (upd H l (.lst (xs.take i.toNat ++ y :: xs.drop i.toNat)))
theorem mt_insert : MtM X "list.insert" rInsert := by
 intro pins s σ H x vs v us Q I rx rv h
 obtain ⟨l, xs, i, y, rfl, rfl, hH, h0, h1, hz, q⟩ := h
 cases rx
 obtain ⟨u, w, rfl, ru, rw'⟩ := rv.two
 obtain ⟨t, rfl⟩ := ru
 obtain ⟨z, its, n, r, hl, e⟩ := I.lstM hH
 have hs : (sizeLine : Int) < 2 ^ 63 := by decide
 have hf : Builtin.List.listFitsIndex i = true := fitsIndex_both (by omega) (by omega)
 refine call_meets F.slot_list_insert ⟨_, e, rfl⟩ F.entry_list_insert (F.args_list_insert_3 _ _ _) (AutoSeq1.list_insert_list_int_val_1 l _ n i t w (by rw [hf]; decide) (by grind)) ⟨e, ?_⟩
 refine ⟨.non, _, I.lset hH e ?_ ((r.take _).append (.cons rw' (r.drop _))) ?_, rfl, q⟩
 · rw [if_neg (by omega), List.size_toArray, Nat.min_eq_left (by omega)]
   simp
   rw [List.take_of_length_le (by simp)]
 · rw [List.length_append, List.length_cons, List.length_take, List.length_drop]
   omega
end
end L2
end
section
namespace I
open PySem L2
inductive W where
 | d (t : T)
 | ref (k : Nat)
abbrev Sto := List (Option (List T))
abbrev Rho := List (Option W)
inductive Res (α : Type) where
 | ok (a : α) (st : Sto)
 | exc (c : Nat) (fs : List T) (st : Sto)
 | bad
def Res.bind {α β : Type} (r : Res α) (f : α → Sto → Res β) : Res β :=
 match r with
 | .ok a st => f a st
 | .exc c fs st => .exc c fs st
 | .bad => .bad
abbrev FT : Type := Nat → List W → Sto → Res W
inductive Bop where
 | add | sub | mul | fdiv | mod | pow
 deriving DecidableEq
inductive Cop where
 | eq | ne | lt | le | gt | ge | mem | nmem
 deriving DecidableEq
inductive Bf where
 | len | tuple | list | int | str | min2 | max2 | all | any | sum
inductive Mt where
 | append | extend | reverse | pop | clear | join | insert | remove | split
inductive Tg where
 | nm (i : Nat)
 | tp (is : List Nat)
 | nt (i : Nat) (is : List Nat)
inductive Ik where
 | seq | rng1 | rng2 | enm | zp
inductive Ty where
 | int | bool | str | tuple | list
 deriving DecidableEq
inductive Gq where
 | all | any | tuple | sum | join
set_option genInjectivity false in
inductive E where
 | v (i : Nat)
 | c (t : T)
 | g (j : Nat)
 | bin (o : Bop) (a b : E)
 | cmp (o : Cop) (a b : E)
 | isN (a : E)
 | notN (a : E)
 | and (a b : E)
 | or (a b : E)
 | not (a : E)
 | tup (es : List E)
 | lst (es : List E)
 | ix (a b : E)
 | sl (a : E) (lo hi : Option E)
 | ss (a : E)
 | call (f : Nat) (es : List E)
 | bf (f : Bf) (es : List E)
 | meth (m : Mt) (o : E) (es : List E)
 | isi (n : Ty) (a : E)
 | trg (a : E)
 | frz (e : E)
 | tr (e : E)
 | comp (N : List Str) (ix : List (Option Nat)) (tg : Tg) (k : Ik) (src : List E) (ifs : List E) (el : E)
 | gen (q : Gq) (N : List Str) (ix : List (Option Nat)) (tg : Tg) (k : Ik) (src : List E) (ifs : List E) (el : E)
 | fst (ps : List E)
set_option genInjectivity false in
inductive S where
 | asg (t : Tg) (e : E)
 | setx (o i e : E)
 | aug (i : Nat) (o : Bop) (e : E)
 | ex (e : E)
 | ret (e : E)
 | retN
 | pass
 | brk
 | cnt
 | bad
 | ifs (c : E) (a b : List S)
 | for (t : Tg) (k : Ik) (src : List E) (body : List S)
inductive Fl where
 | nx
 | rt (w : W)
 | bk
 | ct
def LIM : Nat := 1000000
def look (w : W) (st : Sto) : Option T :=
 match w with
 | .d t => some t
 | .ref k => match st[k]? with
  | some (some xs) => some (.lst xs)
  | _ => none
def fresh (t : T) (st : Sto) : Res W :=
 match t with
 | .lst xs => .ok (.ref st.length) (st ++ [some xs])
 | t => .ok (.d t) st
def frzTo (n : Nat) (w : W) (st : Sto) : Res T :=
 match w with
 | .d t => .ok t (st.take n)
 | .ref k => match st[k]? with
  | some (some xs) => .ok (.lst xs) ((st.set k none).take n)
  | _ => .bad
def trTo (n : Nat) (w : W) (st : Sto) : Res W :=
 match w with
 | .d t => .ok (.d t) (st.take n)
 | .ref k => if k < n then .ok (.ref k) (st.take n) else match st[k]? with
  | some (some xs) => .ok (.ref (st.take n).length) (st.take n ++ [some xs])
  | _ => .bad
def tru : T → Option Bool
 | .non => some false
 | .bl b => some b
 | .int i => some (i != 0)
 | .str x => if x.length ≤ LIM then some ((x.length : Int) != 0) else none
 | .tup xs => some (!xs.isEmpty)
 | .lst xs => some (!xs.isEmpty)
 | .ins _ => none
def noIns : T → Bool
 | .ins _ => false
 | _ => true
def isT : Ty → T → Bool
 | .int, .int _ => true
 | .int, .bl _ => true
 | .bool, .bl _ => true
 | .str, .str _ => true
 | .tuple, .tup _ => true
 | .list, .lst _ => true
 | _, _ => false
def truW (w : W) (st : Sto) : Option Bool := (look w st).bind tru
theorem small_ex : ∃ f : Int → Bool, ∀ i, f i = (decide (-2 ^ 64 < i) && decide (i < 2 ^ 64)) := ⟨_, fun _ => rfl⟩
def small : Int → Bool := Classical.choose small_ex
theorem small_d (i : Int) : small i = (decide (-2 ^ 64 < i) && decide (i < 2 ^ 64)) := Classical.choose_spec small_ex i
def binT : Bop → T → T → Option T
 | .add, .int a, .int b => some (.int (a + b))
 | .add, .str a, .str b => if a.length + b.length ≤ LIM then some (.str (a ++ b)) else none
 | .add, .tup a, .tup b => if a.length + b.length ≤ LIM then some (.tup (a ++ b)) else none
 | .add, .lst a, .lst b => if a.length + b.length ≤ LIM then some (.lst (a ++ b)) else none
 | .sub, .int a, .int b => some (.int (a - b))
 | .mul, .int a, .int b => if small a || small b then some (.int (a * b)) else none
 | .mul, .str a, .int b => if a.length ≤ 1000 ∧ 0 ≤ b ∧ b ≤ 1000 then some (.str (repS a b)) else none
 | .mul, .tup [x], .int b => if 0 ≤ b ∧ b ≤ 1000 then some (.tup (List.replicate b.toNat x)) else none
 | .fdiv, .int a, .int b => if 0 < b ∧ b < 2 ^ 1000 then some (.int (a / b)) else none
 | .mod, .int a, .int b => if 0 < b then some (.int (a % b)) else none
 | .pow, .int a, .int b => if 0 ≤ b ∧ b ≤ 1000000 ∧ a.natAbs < 2 ^ 64 then some (.int (a ^ b.toNat)) else none
 | _, _, _ => none
def flatT : T → Bool
 | .tup _ => false
 | .lst _ => false
 | .ins _ => false
 | _ => true
def cmpT : Cop → T → T → Option Bool
 | .eq, a, b => if dep a ≤ 60 ∧ dep b ≤ 60 then some (eqT a b) else none
 | .ne, a, b => if dep a ≤ 60 ∧ dep b ≤ 60 then some (!eqT a b) else none
 | .lt, .int a, .int b => some (decide (a < b))
 | .le, .int a, .int b => some (decide (a ≤ b))
 | .gt, .int a, .int b => some (decide (b < a))
 | .ge, .int a, .int b => some (decide (b ≤ a))
 | .le, .str a, .str b => some (!decide (b.cps.toList < a.cps.toList))
 | .mem, x, .tup ys => if flatT x && ys.all flatT then some (ys.any fun y => eqT y x) else none
 | .mem, x, .lst ys => if flatT x && ys.all flatT then some (ys.any fun y => eqT y x) else none
 | .nmem, x, .tup ys => if flatT x && ys.all flatT then some (!ys.any fun y => eqT y x) else none
 | .nmem, x, .lst ys => if flatT x && ys.all flatT then some (!ys.any fun y => eqT y x) else none
 | _, _, _ => none
def binW (o : Bop) (x y : W) (st : Sto) : Res W :=
 match look x st, look y st with
 | some a, some b => match binT o a b with
  | some t => fresh t st
  | none => .bad
 | _, _ => .bad
def ninW (x y : W) (st : Sto) : Res W :=
 match look x st, look y st with
 | some a, some b => (match b with
  | .lst ys => if dep a ≤ 60 ∧ deps ys ≤ 59 then .ok (.d (.bl (!ys.any fun y => eqT y a))) st else .bad
  | _ => .bad)
 | _, _ => .bad
def repW (x y : W) (st : Sto) : Res W :=
 match x, look y st with
 | .ref k, some (.int n) => (match st[k]? with
  | some (some xs) => if 0 ≤ n ∧ n ≤ 1000 ∧ xs.length * n.toNat ≤ LIM then fresh (.lst (List.replicate n.toNat xs).flatten) st else .bad
  | _ => .bad)
 | _, _ => .bad
def cmpW (o : Cop) (x y : W) (st : Sto) : Res W :=
 match look x st, look y st with
 | some a, some b => match cmpT o a b with
  | some t => .ok (.d (.bl t)) st
  | none => .bad
 | _, _ => .bad
def ixW (x y : W) (st : Sto) : Res W :=
 match look x st, look y st with
 | some (.tup xs), some (.int i) => match atI xs i with
  | some t => .ok (.d t) st
  | none => .bad
 | some (.lst xs), some (.int i) => match atI xs i with
  | some t => .ok (.d t) st
  | none => .bad
 | some (.str z), some (.int i) => if z.length ≤ LIM then match atI z.cps.toList i with
  | some c => .ok (.d (.str ⟨#[c]⟩)) st
  | none => .bad else .bad
 | _, _ => .bad
def cutT (xs : List T) (lo hi : Option Int) : List T := (xs.drop (HT.sIx xs.length 0 lo)).take (HT.sIx xs.length xs.length hi - HT.sIx xs.length 0 lo)
def slW (x : W) (lo hi : Option Int) (st : Sto) : Res W :=
 match look x st with
 | some (.tup xs) => if HT.sIx xs.length 0 lo = 0 ∧ HT.sIx xs.length xs.length hi = xs.length then .bad else .ok (.d (.tup (cutT xs lo hi))) st
 | some (.lst xs) => fresh (.lst (cutT xs lo hi)) st
 | some (.str z) => if z.length ≤ LIM then .ok (.d (.str (Txt.slice z lo hi))) st else .bad
 | _ => .bad
def looks : List W → Sto → Option (List T)
 | [], _ => some []
 | w :: ws, st => match look w st, looks ws st with
  | some t, some ts => some (t :: ts)
  | _, _ => none
def intsT : List T → Option (List Int)
 | [] => some []
 | .int i :: r => (intsT r).map (i :: ·)
 | _ :: _ => none
def strsT : List T → Option (List Str)
 | [] => some []
 | .str i :: r => (strsT r).map (i :: ·)
 | _ :: _ => none
def fmtT : T → Option Str
 | .str z => if z.length ≤ LIM then some z else none
 | .int i => if i.natAbs.log2 < 1920 then some (toString i : String) else none
 | _ => none
def fmtsT : List T → Option (List Str)
 | [] => some []
 | t :: r => match fmtT t, fmtsT r with
  | some y, some ys => some (y :: ys)
  | _, _ => none
def blsT : List T → Option (List Bool)
 | [] => some []
 | .bl i :: r => (blsT r).map (i :: ·)
 | _ :: _ => none
def seqT : T → Option (List T)
 | .tup xs => some xs
 | .lst xs => some xs
 | _ => none
def insI (x : Int) : List Int → List Int
 | [] => [x]
 | y :: r => if x < y then x :: y :: r else if x = y then y :: r else y :: insI x r
def setI : List Int → List Int
 | [] => []
 | x :: r => insI x (setI r)
def rng (lo : Int) (n : Nat) : List T := (List.range n).map fun (k : Nat) => .int (lo + (k : Int))
def minI : List Int → Option Int
 | [] => none
 | x :: r => some (r.foldl (fun a b => if b < a then b else a) x)
def maxI : List Int → Option Int
 | [] => none
 | x :: r => some (r.foldl (fun a b => if a < b then b else a) x)
def srtT (xs : List T) : Option T := match strsT xs with
 | some zs => if zs.length < 64 then some (.lst ((sortS zs).map .str)) else none
 | none => none
def bf1T (f : Bf) (t : T) : Option T := match f with
 | .len => (match t with
  | .tup xs => some (.int xs.length)
  | .lst xs => some (.int xs.length)
  | .str z => if z.length ≤ LIM then some (.int z.length) else none
  | _ => none)
 | .tuple => (match t with
  | .tup xs => some (.tup xs)
  | .lst xs => some (.tup xs)
  | _ => none)
 | .list => (match t with
  | .tup xs => some (.lst xs)
  | .lst xs => some (.lst xs)
  | _ => none)
 | .int => (match t with
  | .int i => some (.int i)
  | .bl k => some (.int (if k then 1 else 0))
  | .str z => if z.length ≤ 640 then (PySem.intText? z).map .int else none
  | _ => none)
 | .str => (match t with
  | .int i => if i.natAbs.log2 < 1920 then some (.str (toString i)) else none
  | .str z => some (.str z)
  | _ => none)
 | .all => (match t with
  | .lst xs => (blsT xs).map fun bs => .bl (bs.all id)
  | _ => none)
 | .sum => (match t with
  | .lst xs => (intsT xs).map fun ns => .int ns.sum
  | _ => none)
 | _ => none
def bf2T (f : Bf) (t u : T) : Option T := match f with
 | .min2 => (match t, u with
  | .int i, .int j => some (.int (if j < i then j else i))
  | _, _ => none)
 | .max2 => (match t, u with
  | .int i, .int j => some (.int (if j > i then j else i))
  | _, _ => none)
 | _ => none
def bfT (f : Bf) (ts : List T) : Option T := match ts with
 | [t] => bf1T f t
 | [t, u] => bf2T f t u
 | _ => none
def bfW (f : Bf) (ws : List W) (st : Sto) : Res W :=
 match looks ws st with
 | some ts => match bfT f ts with
  | some t => fresh t st
  | none => .bad
 | none => .bad
def ssW (x : W) (st : Sto) : Res W :=
 match look x st with
 | some (.lst xs) => match intsT xs with
  | some ns => if ns.length < 63 then fresh (.lst ((setI ns).map .int)) st else .bad
  | none => .bad
 | _ => .bad
def prsT : List T → Option (List Int)
 | [] => some []
 | .tup [.int x, .int y] :: r => if 0 ≤ y ∧ y < BIG then (prsT r).map ((x * BIG + y) :: ·) else none
 | _ :: _ => none
def unP (k : Int) : T := .tup [.int (k / BIG), .int (k % BIG)]
def srvI (o : Option T) (st : Sto) : Res W := match o with
 | some (.lst ys) => (match intsT ys with
  | some ns => if ns.length < 64 then fresh (.lst ((sortO ns).reverse.map .int)) st else .bad
  | none => .bad)
 | _ => .bad
def srvW (x : W) (st : Sto) : Res W :=
 match (look x st).bind seqT with
 | some xs => match prsT xs with
  | some ks => if xs.length < 64 then fresh (.lst ((sortO ks).reverse.map unP)) st else .bad
  | none => srvI (look x st) st
 | none => .bad
def trgW (x : W) (st : Sto) : Res W :=
 match look x st with
 | some (.int n) => if 0 ≤ n ∧ n ≤ 1000 then .ok (.d (.tup (rng 0 n.toNat))) st else .bad
 | _ => .bad
def lscW (ys : List T) (st : Sto) : Res W := match intsT ys with
 | some ns => .ok (.d (.int ((setI ns).length : Nat))) st
 | none => .bad
def extW (x y : W) (st : Sto) : Res W := match x, y with
 | .ref k, .ref j => (match st[k]?, st[j]? with
  | some (some xs), some (some ys) => if xs.length + ys.length ≤ LIM then .ok (.d .non) (st.set k (some (xs ++ ys))) else .bad
  | _, _ => .bad)
 | _, _ => .bad
def mtL : Mt → List T → List T → Option (List T × T)
 | .append, xs, [t] => if xs.length < LIM then some (xs ++ [t], .non) else none
 | .reverse, xs, [] => some (xs.reverse, .non)
 | .clear, _, [] => some ([], .non)
 | .insert, xs, [.int i, t] => if 0 ≤ i ∧ i ≤ (xs.length : Int) ∧ xs.length < LIM then some (xs.take i.toNat ++ t :: xs.drop i.toNat, .non) else none
 | .remove, xs, [.int i] => (match intsT xs with
  | some ns => if i ∈ ns then some ((ns.erase i).map .int, .non) else none
  | none => none)
 | _, _, _ => none
def mtT : Mt → T → List T → Option T
 | .join, .str sep, [.lst xs] => match strsT xs with
  | some ys => if (ys.map (·.length)).sum + ys.length * sep.length ≤ LIM then some (.str (Txt.join sep ys)) else none
  | none => none
 | .join, .str sep, [.tup xs] => match strsT xs with
  | some ys => if (ys.map (·.length)).sum + ys.length * sep.length ≤ LIM then some (.str (Txt.join sep ys)) else none
  | none => none
 | .split, .str z, [.str y] => if z.length ≤ LIM ∧ y.length = 1 then some (.lst ((Txt.split z y).map .str)) else none
 | _, _, _ => none
def seqW (w : W) (st : Sto) : Option (List T × List (Nat × List T)) :=
 match w with
 | .d (.tup xs) => some (xs, [])
 | .d (.lst xs) => some (xs, [])
 | .ref k => match st[k]? with
  | some (some xs) => some (xs, [(k, xs)])
  | _ => none
 | _ => none
def isTupW : W → Bool
 | .d (.tup _) => true
 | _ => false
def chars (z : Str) : List T := z.cps.toList.map fun c => .str ⟨#[c]⟩
def it1 (k : Ik) (w : W) (st : Sto) : Option (List T × List (Nat × List T)) := match k with
 | .seq => (match w with
  | .d (.str z) => if z.length ≤ LIM then some (chars z, []) else none
  | w => seqW w st)
 | .rng1 => (match w with
  | .d (.int n) => if -(LIM : Int) ≤ n ∧ n ≤ (LIM : Int) then some (rng 0 n.toNat, []) else none
  | _ => none)
 | .enm => (seqW w st).map fun p => (p.1.zipIdx.map fun q => .tup [.int q.2, q.1], p.2)
 | _ => none
def it2 (k : Ik) (w u : W) (st : Sto) : Option (List T × List (Nat × List T)) := match k with
 | .rng2 => (match w, u with
  | .d (.int a), .d (.int b) => if -(LIM : Int) ≤ a ∧ a ≤ (LIM : Int) ∧ -(LIM : Int) ≤ b ∧ b ≤ (LIM : Int) then some (rng a (b - a).toNat, []) else none
  | _, _ => none)
 | .zp => (match seqW w st, seqW u st with
  | some p, some q => if isTupW w = isTupW u then some ((p.1.zip q.1).map fun z => .tup [z.1, z.2], p.2 ++ q.2) else none
  | _, _ => none)
 | _ => none
def items (k : Ik) (ws : List W) (st : Sto) : Option (List T × List (Nat × List T)) := match ws with
 | [w] => it1 k w st
 | [w, u] => it2 k w u st
 | _ => none
def augI (o : Bop) (x y : Int) : Option Int := match o with
 | .add => some (x + y)
 | .sub => some (x - y)
 | .mul => if small x || small y then some (x * y) else none
 | _ => none
mutual
def beqT : T → T → Bool
 | .non, .non => true
 | .bl a, .bl b => a == b
 | .int a, .int b => a == b
 | .str a, .str b => decide (a = b)
 | .tup a, .tup b => beqTs a b
 | .lst a, .lst b => beqTs a b
 | .ins a, .ins b => decide (a = b)
 | _, _ => false
def beqTs : List T → List T → Bool
 | [], [] => true
 | x :: xs, y :: ys => beqT x y && beqTs xs ys
 | _, _ => false
end
def stay (gs : List (Nat × List T)) (st : Sto) : Bool := gs.all fun g => match st[g.1]? with
 | some (some xs) => beqTs xs g.2
 | _ => false
def pickW (ix : List (Option Nat)) (ρ : Rho) : Rho := ix.map fun o => match o with | none => none | some j => (ρ[j]?).getD none
def bindW : Tg → W → Rho → Option Rho
 | .nm i, w, ρ => if i < ρ.length then some (ρ.set i (some w)) else none
 | .tp is, .d (.tup xs), ρ => if is.length = xs.length ∧ is.all (· < ρ.length) then some ((is.zip xs).foldl (fun ρ p => ρ.set p.1 (some (.d p.2))) ρ) else none
 | .nt i is, .d (.tup [x, .tup ys]), ρ => if is.length = ys.length ∧ (i :: is).all (· < ρ.length) then some ((is.zip ys).foldl (fun ρ p => ρ.set p.1 (some (.d p.2))) (ρ.set i (some (.d x)))) else none
 | _, _, _ => none
def evComp (gs : List (Nat × List T)) (step : T → Sto → Res (Option T)) : List T → List T → Sto → Res (List T)
 | [], acc, st => if stay gs st then .ok acc st else .bad
 | x :: xs, acc, st => if stay gs st then (step x st).bind fun o st' => evComp gs step xs (match o with | some t => acc ++ [t] | none => acc) st' else .bad
def evAll (b : Bool) (gs : List (Nat × List T)) (step : T → Sto → Res (Option T)) : List T → Sto → Res Bool
 | [], st => if stay gs st then .ok b st else .bad
 | x :: xs, st => if stay gs st then (step x st).bind fun o st' => match o with
  | none => evAll b gs step xs st'
  | some (.bl c) => if c == b then evAll b gs step xs st' else .ok (!b) st'
  | some _ => .bad else .bad
def gqT : Gq → List T → Option T
 | .tuple, xs => some (.tup xs)
 | .sum, xs => (intsT xs).map fun ns => .int ns.sum
 | _, _ => none
section
variable (F : FT) (G : List T)
mutual
def evE : E → Rho → Sto → Res W
 | .v i, ρ, st => match ρ[i]? with
  | some (some w) => .ok w st
  | _ => .bad
 | .c t, _, st => .ok (.d t) st
 | .g j, _, st => match G[j]? with
  | some t => .ok (.d t) st
  | none => .bad
 | .bin o a b, ρ, st => (evE a ρ st).bind fun x st => (evE b ρ st).bind fun y st => binW o x y st
 | .cmp o a b, ρ, st => (evE a ρ st).bind fun x st => (evE b ρ st).bind fun y st => cmpW o x y st
 | .isN a, ρ, st => (evE a ρ st).bind fun x st => .ok (.d (.bl (match x with | .d .non => true | _ => false))) st
 | .notN a, ρ, st => (evE a ρ st).bind fun x st => .ok (.d (.bl (match x with | .d .non => false | _ => true))) st
 | .and a b, ρ, st => (evE a ρ st).bind fun x st => match truW x st with
  | some true => evE b ρ st
  | some false => .ok x st
  | none => .bad
 | .or a b, ρ, st => (evE a ρ st).bind fun x st => match truW x st with
  | some false => evE b ρ st
  | some true => .ok x st
  | none => .bad
 | .not a, ρ, st => (evE a ρ st).bind fun x st => match truW x st with
  | some b => .ok (.d (.bl (!b))) st
  | none => .bad
 | .tup es, ρ, st => (evTs es ρ st).bind fun ts st => if ts.length ≤ LIM then .ok (.d (.tup ts)) st else .bad
 | .lst es, ρ, st => (evTs es ρ st).bind fun ts st => if ts.length ≤ LIM then fresh (.lst ts) st else .bad
 | .ix a b, ρ, st => (evE a ρ st).bind fun x st => (evE b ρ st).bind fun y st => ixW x y st
 | .sl a lo hi, ρ, st => (evE a ρ st).bind fun x st => (evO lo ρ st).bind fun l st => (evO hi ρ st).bind fun h st => slW x l h st
 | .ss a, ρ, st => (evE a ρ st).bind fun x st => ssW x st
 | .call f es, ρ, st => (evEs es ρ st).bind fun ws st => F f ws st
 | .bf f es, ρ, st => (evEs es ρ st).bind fun ws st => bfW f ws st
 | .meth m o es, ρ, st => (evE o ρ st).bind fun x st => if (look x st).isNone then .bad else (evTs es ρ st).bind fun ts st => match x with
  | .ref k => match st[k]? with
   | some (some xs) => match mtL m xs ts with
    | some (ys, t) => .ok (.d t) (st.set k (some ys))
    | none => .bad
   | _ => .bad
  | .d t => match mtT m t ts with
   | some u => fresh u st
   | none => .bad
 | .isi n a, ρ, st => (evE a ρ st).bind fun x st => match look x st with
  | some t => if noIns t then .ok (.d (.bl (isT n t))) st else .bad
  | none => .bad
 | .trg a, ρ, st => (evE a ρ st).bind trgW
 | .frz e, ρ, st => (evE e ρ st).bind fun x st' => (frzTo st.length x st').bind fun t st => .ok (.d t) st
 | .tr e, ρ, st => (evE e ρ st).bind fun x st' => trTo st.length x st'
 | .comp _ ix tg k src ifs el, ρ, st => (evEs src ρ st).bind fun ws st => match items k ws st with
  | some (xs, gs) => if xs.length ≤ LIM then
   (evComp gs (fun x st => match bindW tg (.d x) (pickW ix ρ) with
    | some ρ' => (evIfs ifs ρ' st).bind fun b st' => if b then (evE el ρ' st').bind fun w st' => (frzTo st.length w st').bind fun t st => .ok (some t) st else .ok none (st'.take st.length)
    | none => .bad) xs [] st).bind fun ys st => fresh (.lst ys) st
   else .bad
  | none => .bad
 | .gen q _ ix tg k src ifs el, ρ, st => (evEs src ρ st).bind fun ws st => match items k ws st with
  | some (xs, gs) => if xs.length ≤ LIM then
   let step := fun x st => match bindW tg (.d x) (pickW ix ρ) with
    | some ρ' => (evIfs ifs ρ' st).bind fun b st' => if b then (evE el ρ' st').bind fun w st' => (frzTo st.length w st').bind fun t st => .ok (some t) st else .ok none (st'.take st.length)
    | none => .bad
   match q with
   | .all => (evAll true gs step xs st).bind fun b st => .ok (.d (.bl b)) st
   | .any => (evAll false gs step xs st).bind fun b st => .ok (.d (.bl b)) st
   | q => (evComp gs step xs [] st).bind fun ys st => match gqT q ys with
    | some t => .ok (.d t) st
    | none => .bad
   else .bad
  | none => .bad
 | .fst ps, ρ, st => (evTs ps ρ st).bind fun ts st => match fmtsT ts with
  | some ys => if (ys.map (·.length)).sum ≤ LIM then .ok (.d (.str (ys.foldl (· ++ ·) Str.empty))) st else .bad
  | none => .bad
def evEs : List E → Rho → Sto → Res (List W)
 | [], _, st => .ok [] st
 | e :: es, ρ, st => (evE e ρ st).bind fun w st => (evEs es ρ st).bind fun ws st => .ok (w :: ws) st
def evTs : List E → Rho → Sto → Res (List T)
 | [], _, st => .ok [] st
 | e :: es, ρ, st => (evE e ρ st).bind fun w st' => (frzTo st.length w st').bind fun t st => (evTs es ρ st).bind fun ts st => .ok (t :: ts) st
def evIfs : List E → Rho → Sto → Res Bool
 | [], _, st => .ok true st
 | e :: es, ρ, st => (evE e ρ st).bind fun w st => match truW w st with
  | some true => evIfs es ρ st
  | some false => .ok false st
  | none => .bad
def evO : Option E → Rho → Sto → Res (Option Int)
 | none, _, st => .ok none st
 | some e, ρ, st => (evE e ρ st).bind fun w st => match look w st with
  | some (.int i) => .ok (some i) st
  | _ => .bad
end
def evFor (gs : List (Nat × List T)) (step : T → Rho → Sto → Res (Fl × Rho)) : List T → Rho → Sto → Res (Fl × Rho)
 | [], ρ, st => if stay gs st then .ok (.nx, ρ) st else .bad
 | x :: xs, ρ, st => if stay gs st then (step x ρ st).bind fun p st' => match p.1 with
  | .nx => evFor gs step xs p.2 st'
  | .ct => evFor gs step xs p.2 st'
  | .bk => .ok (.nx, p.2) st'
  | .rt w => .ok (.rt w, p.2) st' else .bad
mutual
def evS : S → Rho → Sto → Res (Fl × Rho)
 | .asg t e, ρ, st => (evE F G e ρ st).bind fun w st => match bindW t w ρ with
  | some ρ' => .ok (.nx, ρ') st
  | none => .bad
 | .setx o i e, ρ, st => (evE F G e ρ st).bind fun w st' => (frzTo st.length w st').bind fun t st => (evE F G o ρ st).bind fun x st => (evE F G i ρ st).bind fun y st => match x, look y st with
  | .ref k, some (.int n) => match st[k]? with
   | some (some xs) => match ixN xs.length n with
    | some j => .ok (.nx, ρ) (st.set k (some (xs.set j t)))
    | none => .bad
   | _ => .bad
  | _, _ => .bad
 | .aug i o e, ρ, st => match ρ[i]? with
  | some (some (.d a)) => (evE F G e ρ st).bind fun w st => match a, look w st with
   | .int x, some (.int y) => (match augI o x y with
    | some z => .ok (.nx, ρ.set i (some (.d (.int z)))) st
    | none => .bad)
   | _, _ => .bad
  | _ => .bad
 | .ex e, ρ, st => (evE F G e ρ st).bind fun _ st' => .ok (.nx, ρ) (st'.take st.length)
 | .ret e, ρ, st => (evE F G e ρ st).bind fun w st => .ok (.rt w, ρ) st
 | .retN, ρ, st => .ok (.rt (.d .non), ρ) st
 | .pass, ρ, st => .ok (.nx, ρ) st
 | .brk, ρ, st => .ok (.bk, ρ) st
 | .cnt, ρ, st => .ok (.ct, ρ) st
 | .bad, _, _ => .bad
 | .ifs c a b, ρ, st => (evE F G c ρ st).bind fun w st' => match truW w st' with
  | some true => evSs a ρ (st'.take st.length)
  | some false => evSs b ρ (st'.take st.length)
  | none => .bad
 | .for t k src body, ρ, st => (evEs F G src ρ st).bind fun ws st => match items k ws st with
  | some (xs, gs) => evFor gs (fun x ρ st => match bindW t (.d x) ρ with
   | some ρ' => evSs body ρ' st
   | none => .bad) xs ρ st
  | none => .bad
def evSs : List S → Rho → Sto → Res (Fl × Rho)
 | [], ρ, st => .ok (.nx, ρ) st
 | s :: ss, ρ, st => (evS s ρ st).bind fun p st => match p.1 with
  | .nx => evSs ss p.2 st
  | f => .ok (f, p.2) st
end
end
structure Dfn where
 ar : Nat
 sl : Nat
 body : List S
def fin (n : Nat) (r : Res (Fl × Rho)) : Res W := r.bind fun p st => match p.1 with
 | .rt w => trTo n w st
 | .nx => .ok (.d .non) (st.take n)
 | _ => .bad
def runF (F : FT) (G : List T) (D : Dfn) (ws : List W) (st : Sto) : Res W :=
 if ws.length = D.ar then fin st.length (evSs F G D.body (ws.map some ++ List.replicate (D.sl - D.ar) none) st) else .bad
def run (G : List T) (Ds : Nat → Option Dfn) : Nat → FT
 | 0, _, _, _ => .bad
 | n + 1, f, ws, st => match Ds f with
  | some D => runF (run G Ds n) G D ws st
  | none => .bad
end I
end
section
namespace I
open PySem L2 PySem.Spec PyProof.Rows
example {F G ρ st} : evE F G (.bin .add (.c (.int 1)) (.c (.int 2))) ρ st = .ok (.d (.int 3)) st := rfl
set_option genInjectivity false in
structure Gm where
 P : Program
 w : World
 K : PySem.W.Frag
 mg : Str → Option Value
 base : Heap
 tabs : List Addr
 gn : Nat → Option Str
 G : List T
def Live (φ : List Addr) (st : Sto) (a : Addr) : Prop := ∃ (k : Nat) (xs : List T), φ[k]? = some a ∧ st[k]? = some (some xs)
structure Rl (Γ : Gm) (φ : List Addr) (st : Sto) (H : Hp) : Prop where
 len : φ.length = st.length
 inj : ∀ (i j : Nat) (a : Addr) (xs ys : List T), φ[i]? = some a → φ[j]? = some a → st[i]? = some (some xs) → st[j]? = some (some ys) → i = j
 at_ : ∀ (k : Nat) (xs : List T) (a : Addr), φ[k]? = some a → st[k]? = some (some xs) → ∃ vs, H a = some (.lst vs) ∧ Rps Γ.K (Live φ st) H xs vs
 tab : ∀ P ∈ Γ.tabs, H P = some (TabO P)
def RW (Γ : Gm) (φ : List Addr) (st : Sto) (H : Hp) : W → V → Prop
 | .d t, v => Rp Γ.K (Live φ st) H t v
 | .ref k, v => ∃ a, φ[k]? = some a ∧ v = .ref a
def RWs (Γ : Gm) (φ : List Addr) (st : Sto) (H : Hp) : List W → List V → Prop
 | [], vs => vs = []
 | w :: ws, vs => ∃ v r, vs = v :: r ∧ RW Γ φ st H w v ∧ RWs Γ φ st H ws r
structure Pt (Γ : Gm) (φ : List Addr) (st : Sto) (H : Hp) (φ' : List Addr) (st' : Sto) (H' : Hp) : Prop where
 rl : Rl Γ φ' st' H'
 stp : Stp (Live φ st) H (Live φ' st') H'
 pre : ∀ (k : Nat) (a : Addr), φ[k]? = some a → φ'[k]? = some a
structure En (Γ : Gm) (φ : List Addr) (st : Sto) (H : Hp) (ρ : Rho) (σ : L2.St) : Prop where
 len : ρ.length = σ.length
 at_ : ∀ (i : Nat) (w : W), ρ[i]? = some (some w) → ∃ v, σ[i]? = some (some v) ∧ RW Γ φ st H w v
section
variable {Γ : Gm} {φ φ1 φ2 : List Addr} {st st1 st2 : Sto} {H H1 H2 : Hp}
theorem Pt.refl (r : Rl Γ φ st H) : Pt Γ φ st H φ st H := ⟨r, Stp.refl _ _, fun _ _ h => h⟩
theorem Pt.trans (a : Pt Γ φ st H φ1 st1 H1) (b : Pt Γ φ1 st1 H1 φ2 st2 H2) : Pt Γ φ st H φ2 st2 H2 :=
 ⟨b.rl, a.stp.trans b.stp, fun k x h => b.pre k x (a.pre k x h)⟩
theorem RW.step (p : Pt Γ φ st H φ1 st1 H1) : ∀ {w} {v}, RW Γ φ st H w v → RW Γ φ1 st1 H1 w v
 | .d t, v, r => Rp.step p.stp r
 | .ref k, v, ⟨a, h, e⟩ => ⟨a, p.pre k a h, e⟩
theorem RWs.length : ∀ {ws} {vs}, RWs Γ φ st H ws vs → vs.length = ws.length
 | [], _, r => by rw [r]; rfl
 | w :: ws, _, ⟨v, r, e, a, b⟩ => by rw [e, List.length_cons, List.length_cons, RWs.length b]
theorem RWs.get : ∀ {ws} {vs} {i : Nat} {w}, RWs Γ φ st H ws vs → ws[i]? = some w → ∃ v, vs[i]? = some v ∧ RW Γ φ st H w v
 | [], _, _, _, r, e => by simp at e
 | x :: xs, _, 0, t, ⟨v, rs, e1, r1, r2⟩, e => by
  grind
 | x :: xs, _, i + 1, t, ⟨v, rs, e1, r1, r2⟩, e => by
  obtain ⟨u, h1, h2⟩ := RWs.get r2 (by simpa using e)
  grind
theorem En.step (p : Pt Γ φ st H φ1 st1 H1) (e : En Γ φ st H ρ σ) : En Γ φ1 st1 H1 ρ σ :=
 ⟨e.len, fun i w h => let ⟨v, a, b⟩ := e.at_ i w h; ⟨v, a, b.step p⟩⟩
theorem En.set {w} {v} (e : En Γ φ st H ρ σ) (r : RW Γ φ st H w v) : En Γ φ st H (ρ.set i (some w)) (σ.set i (some v)) :=
 ⟨by rw [List.length_set, List.length_set, e.len], fun j u h => by
  by_cases hj : i = j
  · subst hj
    by_cases hl : i < ρ.length
    · rw [List.getElem?_set_self hl] at h
      cases h
      exact ⟨v, by rw [List.getElem?_set_self (by rw [← e.len]; exact hl)], r⟩
    simp_all
  · rw [List.getElem?_set_ne hj] at h
    obtain ⟨v', a, b⟩ := e.at_ j u h
    simp_all⟩
theorem RW.look (rl : Rl Γ φ st H) (r : RW Γ φ st H w v) (h : look w st = some t) :
 Rp Γ.K (Live φ st) H t v ∨ ∃ (k : Nat) (xs : List T) (a : Addr) (vs : List V), w = .ref k ∧ t = .lst xs ∧ v = .ref a ∧ φ[k]? = some a ∧ st[k]? = some (some xs) ∧ H a = some (.lst vs) ∧ Rps Γ.K (Live φ st) H xs vs := by
 cases w with
 | d u => cases h; exact .inl r
 | ref k =>
  obtain ⟨a, e, rfl⟩ := r
  cases q : st[k]? with
  | none => simp [I.look, q] at h
  | some o =>
   cases o with
   | none => simp [I.look, q] at h
   | some xs =>
    simp only [I.look, q, Option.some.injEq] at h
    subst h
    obtain ⟨vs, h1, h2⟩ := rl.at_ k xs a e q
    exact .inr ⟨k, xs, a, vs, rfl, rfl, rfl, e, q, h1, h2⟩
theorem RW.lst (rl : Rl Γ φ st H) (r : RW Γ φ st H w v) (h : I.look w st = some (.lst xs)) : ∃ a vs, v = .ref a ∧ SqL Γ.K H a vs ∧ Rps Γ.K (Live φ st) H xs vs := by
 rcases r.look rl h with q | ⟨k, ys, a, vs, e1, e2, e3, _, _, h1, h2⟩
 · obtain ⟨a, vs, e, h1, h2⟩ := q
   exact ⟨a, vs, e, h1.sq, h2⟩
 · cases e2
   exact ⟨a, vs, e3, SqL.of h1, h2⟩
theorem RW.tup (rl : Rl Γ φ st H) (r : RW Γ φ st H w v) (h : I.look w st = some (.tup xs)) : ∃ a vs, v = .ref a ∧ SqT Γ.K H a vs ∧ Rps Γ.K (Live φ st) H xs vs := by
 rcases r.look rl h with q | ⟨k, ys, a, vs, e1, e2, _⟩
 · obtain ⟨a, vs, e, h1, h2⟩ := q
   exact ⟨a, vs, e, h1.sq, h2⟩
 · cases e2
theorem RW.int (rl : Rl Γ φ st H) (r : RW Γ φ st H w v) (h : I.look w st = some (.int i)) : v = .int i := by
 rcases r.look rl h with q | ⟨k, ys, a, vs, e1, e2, _⟩
 · exact q
 · cases e2
theorem RW.str (rl : Rl Γ φ st H) (r : RW Γ φ st H w v) (h : I.look w st = some (.str i)) : v = .str i := by
 rcases r.look rl h with q | ⟨k, ys, a, vs, e1, e2, _⟩
 · exact q
 · cases e2
theorem RW.bl (rl : Rl Γ φ st H) (r : RW Γ φ st H w v) (h : I.look w st = some (.bl i)) : v = .bl i := by
 rcases r.look rl h with q | ⟨k, ys, a, vs, e1, e2, _⟩
 · exact q
 · cases e2
theorem Rl.beside (rl : Rl Γ φ st H) (h : H p = none) : Pt Γ φ st H φ st (upd H p o) := by
 have s : Stp (Live φ st) H _ (upd H p o) := Stp.fresh h
 refine ⟨⟨rl.len, rl.inj, fun k xs a e1 e2 => ?_, fun P hP => ?_⟩, s, fun _ _ h => h⟩
 · obtain ⟨vs, h1, h2⟩ := rl.at_ k xs a e1 e2
   exact ⟨vs, by rw [upd_ne (ne_of_none h1 h)]; exact h1, h2.step s⟩
 · rw [upd_ne (ne_of_none (rl.tab P hP) h)]; exact rl.tab P hP
theorem live_app {o} (hl : φ.length = st.length) : Live (φ ++ [p]) (st ++ [o]) a → Live φ st a ∨ a = p ∧ ∃ xs, o = some xs := by
 rintro ⟨k, xs, e1, e2⟩
 by_cases hk : k < φ.length
 · rw [List.getElem?_append_left hk] at e1
   rw [List.getElem?_append_left (by omega)] at e2
   exact .inl ⟨k, xs, e1, e2⟩
 · rw [List.getElem?_append_right (by omega)] at e1
   rw [List.getElem?_append_right (by omega)] at e2
   have : k - φ.length = 0 := by
    cases q : k - φ.length with
    | zero => rfl
    | succ n => simp_all
   grind
theorem Rl.lay {p : Addr} {xs : List T} {vs : List V} (rl : Rl Γ φ st H) (h : H p = none) (r : Rps Γ.K (Live φ st) H xs vs) : Pt Γ φ st H (φ ++ [p]) (st ++ [some xs]) (upd H p (.lst vs)) := by
 have s : Stp (Live φ st) H (Live (φ ++ [p]) (st ++ [some xs])) (upd H p (.lst vs)) :=
  ⟨fun a o _ e => by rw [upd_ne (ne_of_none e h)]; exact e, fun a z => (live_app rl.len z).elim .inl fun q => .inr (by rw [q.1]; exact h)⟩
 have np : ∀ k ys, φ[k]? = some p → st[k]? = some (some ys) → False := fun k ys e1 e2 => by
  obtain ⟨_, h1, _⟩ := rl.at_ k ys p e1 e2
  rw [h] at h1; cases h1
 have split : ∀ (k : Nat) (a : Addr) (ys : List T), (φ ++ [p])[k]? = some a → (st ++ [some xs])[k]? = some (some ys) → (φ[k]? = some a ∧ st[k]? = some (some ys)) ∨ (k = φ.length ∧ a = p ∧ ys = xs) := fun k a ys e1 e2 => by
  by_cases hk : k < φ.length
  · rw [List.getElem?_append_left hk] at e1
    rw [List.getElem?_append_left (by have := rl.len; omega)] at e2
    exact .inl ⟨e1, e2⟩
  · have hl := rl.len
    rw [List.getElem?_append_right (by omega)] at e1
    rw [List.getElem?_append_right (by omega)] at e2
    have z : k - φ.length = 0 := by
     cases q : k - φ.length with
     | zero => rfl
     | succ n => simp_all
    rw [z] at e1
    rw [show k - st.length = 0 by omega] at e2
    simp at e1 e2
    exact .inr ⟨by omega, e1.symm, e2.symm⟩
 refine ⟨⟨by simp [rl.len], fun i j a ys zs e1 e2 e3 e4 => ?_, fun k ys a e1 e2 => ?_, fun P hP => ?_⟩, s, fun k a e => ?_⟩
 · rcases split i a ys e1 e3 with ⟨a1, a2⟩ | ⟨a1, a2, a3⟩ <;> rcases split j a zs e2 e4 with ⟨b1, b2⟩ | ⟨b1, b2, b3⟩
   · exact rl.inj i j a ys zs a1 b1 a2 b2
   · simp_all
   · simp_all
   · omega
 · rcases split k a ys e1 e2 with ⟨a1, a2⟩ | ⟨a1, a2, a3⟩
   · obtain ⟨us, h1, h2⟩ := rl.at_ k ys a a1 a2
     exact ⟨us, by rw [upd_ne (ne_of_none h1 h)]; exact h1, h2.step s⟩
   · subst a2 a3
     exact ⟨vs, upd_same, r.step s⟩
 · rw [upd_ne (ne_of_none (rl.tab P hP) h)]; exact rl.tab P hP
 · rw [List.getElem?_append_left (List.getElem?_eq_some_iff.mp e).1]; exact e
theorem live_set (h : Live φ (st.set k o) a) : Live φ st a ∨ ∃ xs, o = some xs ∧ φ[k]? = some a := by
 obtain ⟨i, ys, e1, e2⟩ := h
 by_cases hi : k = i
 · subst hi
   by_cases hk : k < st.length
   · simp_all
   simp_all
 · rw [List.getElem?_set_ne hi] at e2
   exact .inl ⟨i, ys, e1, e2⟩
theorem Rl.write {k : Nat} {a : Addr} {xs ys : List T} {vs ws : List V} (rl : Rl Γ φ st H) (e1 : φ[k]? = some a) (e2 : st[k]? = some (some xs)) (r : Rps Γ.K (Live φ st) H ys ws) :
 Pt Γ φ st H φ (st.set k (some ys)) (upd H a (.lst ws)) := by
 have hk := (List.getElem?_eq_some_iff.mp e2).1
 have la : Live φ st a := ⟨k, xs, e1, e2⟩
 have s : Stp (Live φ st) H (Live φ (st.set k (some ys))) (upd H a (.lst ws)) :=
  ⟨fun b o n e => by rw [upd_ne (fun z => n (by rw [z]; exact la))]; exact e, fun b z => .inl ((live_set z).elim id fun ⟨_, _, q⟩ => by
   simp_all)⟩
 obtain ⟨vs0, h0, _⟩ := rl.at_ k xs a e1 e2
 refine ⟨⟨by rw [List.length_set]; exact rl.len, fun i j b xs' ys' f1 f2 f3 f4 => ?_, fun i zs b f1 f2 => ?_, fun P hP => ?_⟩, s, fun _ _ h => h⟩
 · have g : ∀ (i : Nat) (zs : List T), (st.set k (some ys))[i]? = some (some zs) → ∃ zs', st[i]? = some (some zs') := fun i zs f => by
    by_cases hi : k = i
    · subst hi; exact ⟨xs, e2⟩
    simp_all
   obtain ⟨_, g1⟩ := g i xs' f3
   obtain ⟨_, g2⟩ := g j ys' f4
   exact rl.inj i j b _ _ f1 f2 g1 g2
 · by_cases hi : k = i
   · subst hi
     rw [List.getElem?_set_self hk] at f2
     rw [e1] at f1
     cases f1; cases f2
     exact ⟨ws, upd_same, r.step s⟩
   · rw [List.getElem?_set_ne hi] at f2
     obtain ⟨us, h1, h2⟩ := rl.at_ i zs b f1 f2
     have hb : b ≠ a := fun z => hi (rl.inj k i a xs zs e1 (by rw [← z]; exact f1) e2 f2)
     exact ⟨us, by rw [upd_ne hb]; exact h1, h2.step s⟩
 · rw [upd_ne fun z => ?_]; exact rl.tab P hP
   have := rl.tab P hP
   rw [z, h0] at this
   cases this
theorem live_take (h : Live (φ.take n) (st.take n) a) : Live φ st a := by
 obtain ⟨k, xs, e1, e2⟩ := h
 rw [List.getElem?_take] at e1 e2
 split at e1
 · rename_i hk
   rw [if_pos hk] at e2
   exact ⟨k, xs, e1, e2⟩
 · cases e1
theorem Rl.cut (n : Nat) (rl : Rl Γ φ st H) : Rl Γ (φ.take n) (st.take n) H ∧ Stp (Live φ st) H (Live (φ.take n) (st.take n)) H := by
 have s : Stp (Live φ st) H (Live (φ.take n) _) H := ⟨fun _ _ _ e => e, fun a z => .inl (live_take z)⟩
 have tk : ∀ {α} (l : List α) (k : Nat) (x : α), (l.take n)[k]? = some x → l[k]? = some x ∧ k < n := fun l k x e => by
  rw [List.getElem?_take] at e
  simp_all
 exact ⟨⟨by simp [rl.len], fun i j a xs ys e1 e2 e3 e4 => rl.inj i j a xs ys (tk _ _ _ e1).1 (tk _ _ _ e2).1 (tk _ _ _ e3).1 (tk _ _ _ e4).1,
  fun k xs a e1 e2 => let ⟨vs, h1, h2⟩ := rl.at_ k xs a (tk _ _ _ e1).1 (tk _ _ _ e2).1; ⟨vs, h1, h2.step s⟩, rl.tab⟩, s⟩
theorem Pt.cut (p : Pt Γ φ st H φ1 st1 H1) (hl : φ.length = st.length) : Pt Γ φ st H (φ1.take st.length) (st1.take st.length) H1 := by
 obtain ⟨r, s⟩ := p.rl.cut _
 refine ⟨r, p.stp.trans s, fun k a e => ?_⟩
 rw [List.getElem?_take, if_pos (by grind)]
 exact p.pre k a e
theorem Rl.freeze {a} {xs} (rl : Rl Γ φ st H) (e1 : φ[k]? = some a) (e2 : st[k]? = some (some xs)) :
 Rl Γ φ (st.set k none) H ∧ Stp (Live φ st) H (Live φ (st.set k none)) H ∧ Rp Γ.K (Live φ (st.set k none)) H (.lst xs) (.ref a) := by
 have s : Stp _ H (Live φ (st.set k none)) H := ⟨fun _ _ _ e => e, fun b z => .inl ((live_set z).elim id fun ⟨_, q, _⟩ => by cases q)⟩
 have g : ∀ (i : Nat) (zs : List T), (st.set k none)[i]? = some (some zs) → k ≠ i ∧ st[i]? = some (some zs) := fun i zs f => by
  by_cases hi : k = i
  · subst hi
    rw [List.getElem?_set_self (List.getElem?_eq_some_iff.mp e2).1] at f; cases f
  simp_all
 obtain ⟨vs, h1, h2⟩ := rl.at_ k xs a e1 e2
 refine ⟨⟨by rw [List.length_set]; exact rl.len, fun i j b ys zs f1 f2 f3 f4 => rl.inj i j b ys zs f1 f2 (g i ys f3).2 (g j zs f4).2, fun i zs b f1 f2 => ?_, rl.tab⟩, s, ⟨a, vs, rfl, .inl ⟨.inl h1, ?_⟩, h2.step s⟩⟩
 · obtain ⟨us, q1, q2⟩ := rl.at_ i zs b f1 (g i zs f2).2
   exact ⟨us, q1, q2.step s⟩
 · rintro ⟨i, ys, f1, f2⟩
   obtain ⟨hi, f2⟩ := g i ys f2
   exact hi (rl.inj k i a xs ys e1 f1 e2 f2)
end
def Af (Γ : Gm) (φ : List Addr) (st : Sto) (H : Hp) (r : Res W) (Q : VK) : Prop :=
 match r with
 | .ok w st' => ∀ v H' φ', RW Γ φ' st' H' w v → Pt Γ φ st H φ' st' H' → Q v H'
 | _ => False
def AfB (Γ : Gm) (φ : List Addr) (st : Sto) (H : Hp) (r : Res Bool) (Q : Bool → Hp → Prop) : Prop :=
 match r with
 | .ok b st' => ∀ H' φ', Pt Γ φ st H φ' st' H' → Q b H'
 | _ => False
section
variable {Γ : Gm} {φ φ1 : List Addr} {st st1 : Sto} {H H1 : Hp}
theorem Af.re (a : Af Γ φ st H r Q) (p : Pt Γ φ st H φ1 st1 H1) : Af Γ φ1 st1 H1 r Q := by
 cases r with
 | ok w st' => exact fun v H' φ' rw pt => a v H' _ rw (p.trans pt)
 | _ => exact a
theorem AfB.re (a : AfB Γ φ st H r Q) (p : Pt Γ φ st H φ1 st1 H1) : AfB Γ φ1 st1 H1 r Q := by
 cases r with
 | ok w st' => exact fun H' φ' pt => a H' _ (p.trans pt)
 | _ => exact a
theorem Af.bind {Q} (a : Af Γ φ st H (r.bind f) Q) :
 Af Γ φ st H r fun v H1 => ∃ w st1 φ1, RW Γ φ1 st1 H1 w v ∧ Pt Γ φ st H φ1 st1 H1 ∧ Af Γ φ1 st1 H1 (f w st1) Q := by
 cases r with
 | ok w st' => exact fun v H' φ' rw pt => ⟨w, st', φ', rw, pt, Af.re a pt⟩
 | _ => exact a
end
def tE (Γ : Gm) (F : FT) (e : E) : TE := fun σ H Q => ∃ φ st ρ, En Γ φ st H ρ σ ∧ Rl Γ φ st H ∧ Af Γ φ st H (evE F Γ.G e ρ st) Q
theorem _root_.L2.PE.imp (h : PE X e t) (i : ∀ σ H Q, u σ H Q → t σ H Q) : PE X e u := fun pins s σ H Q I q => h _ s σ H Q I (i σ H Q q)
end I
end
section
namespace L2
section
variable {X : Cx}
def rCatK (K : PySem.W.Frag) : R2 := fun x y H Q => ∃ a b xs ys, x = .ref a ∧ y = .ref b ∧ SqT K H a xs ∧ SqT K H b ys ∧ xs.length + ys.length ≤ sizeLine ∧
 (xs = [] → Q (.ref b) H) ∧ (xs ≠ [] → ys = [] → Q (.ref a) H) ∧ (xs ≠ [] → ys ≠ [] → ∀ p, H p = none → Q (.ref p) (upd H p (.tup (xs ++ ys))))
theorem op_catK {K} (hK : X.K = K) : OpR X (binaryOp .Add) (rCatK K) := by
 subst hK
 intro pins s σ H x y v u Q I rx ry h
 obtain ⟨a, b, xs, ys, rfl, rfl, ha, hb, hz, q0, q1, q2⟩ := h
 by_cases hx : xs = []
 · subst hx
   cases rx
   cases ry
   obtain ⟨its, r1, p1, _⟩ := I.tuple ha
   obtain ⟨its2, r2, p2, _⟩ := I.tuple hb
   cases r1
   obtain ⟨⟨cls, dd, data, sl⟩, ho, hc, n, hd⟩ := id p1
   obtain ⟨⟨cls2, dd2, data2, sl2⟩, ho2, hc2, n2, hd2⟩ := id p2
   subst hc hd hc2 hd2
   exact concat_meets ⟨_, ho, rfl⟩ ⟨_, ho2, rfl⟩ noFill_tuple_add seq_tuple_add PySem.F.slot_tuple_add PySem.F.entry_tuple_add (PySem.F.args_tuple_add_2 _ _)
    (tuple_addW0 a b _ _ n n2 dd _ sl _ rfl) ⟨ho, ho2, ⟨.ref b, H, I, rfl, q0 rfl⟩⟩
 · exact op_catT _ s σ H _ _ v u Q I rx ry ⟨a, b, xs, ys, rfl, rfl, ha, hb, hx, hz, q1 hx, q2 hx⟩
def rRepK (K : PySem.W.Frag) : R2 := fun x y H Q => ∃ l k v, x = .ref l ∧ y = .int k ∧ SqT K H l [v] ∧ 0 ≤ k ∧ k ≤ 1000 ∧ (k = 1 → Q (.ref l) H) ∧ (k ≠ 1 → ∀ p, H p = none → Q (.ref p) (upd H p (.tup (List.replicate k.toNat v))))
theorem op_repK {K : PySem.W.Frag} (hK : X.K = K) : OpR X (binaryOp .Mult) (rRepK K) := by
 subst hK
 intro pins s σ H x y v u Q I rx ry h
 obtain ⟨l, k, v0, rfl, rfl, hH, h1, h2, q1, q⟩ := h
 cases rx
 obtain ⟨t, rfl⟩ := ry
 obtain ⟨its, r, p1, hz⟩ := I.tuple hH
 obtain ⟨⟨cls, dd, data, sl⟩, e, hc, n, hd⟩ := id p1
 simp only at hc hd
 subst hc hd
 obtain ⟨u0, rfl, ru⟩ := vals1 r
 refine wpAny_binaryOp_repeat_ref (T := "tuple") (U := "int") (by decide) ⟨_, e, rfl⟩ (fun s' => typeIs_int s' k t) noFill_tuple_mul F.fills_int_mul F.slot_int_rmul repeat_tuple F.slot_int_index.lookup
  (call_meets F.slot_int_rmul (typeIs_int s k t) F.entry_int_rmul (F.args_int_rmul_2 _ _) (int_rmul_tuple k t l [u0].toArray n dd sl)
   ⟨e, rfl, ⟨_, e, rfl⟩, ?_⟩)
 by_cases hk1 : k = 1
 · subst hk1
   exact call_meets F.slot_tuple_mul ⟨_, e, rfl⟩ F.entry_tuple_mul (F.args_tuple_mul_2 _ _) (tuple_mul1 l [u0].toArray n dd sl t) ⟨e, ⟨.ref l, H, I, rfl, q1 rfl⟩⟩
 have q := q hk1
 by_cases hk0 : k = 0
 · subst hk0
   refine call_meets F.slot_tuple_mul ⟨_, e, rfl⟩ F.entry_tuple_mul (F.args_tuple_mul_2 _ _) (tuple_mul0 l u0 n dd sl t) ⟨e, ⟨.ref _, _, I.laid (t' := s.toks) (o := .tup []) (fun b ob q => Heap.get?_push_of_some _ q) (Nat.le_refl _) ?_, rfl, q _ I.fresh⟩⟩
   exact ⟨Nat.zero_le _, [], .nil, IsTup.new _ _⟩
 have fo : List.foldl (fun x1 x2 => x1 ++ x2) #[] (List.replicate k.toNat [u0].toArray) = (List.replicate k.toNat u0).toArray := by
  have := foldl_rep [u0] k.toNat []
  rw [List.nil_append] at this
  rw [this]
  congr 1
  induction k.toNat with
  | zero => rfl
  | succ m ih => rw [List.replicate_succ, List.flatten_cons, ih]; rfl
 have sz : (sizeLine : Nat) ≥ 1000 := by decide
 refine call_meets F.slot_tuple_mul ⟨_, e, rfl⟩ F.entry_tuple_mul (F.args_tuple_mul_2 _ _) (tuple_mulN l [u0].toArray n dd sl k t ?_ ?_ ?_ ?_ ?_ ?_) ⟨e, ?_⟩
 · simp; omega
 · simp; omega
 · simp; omega
 · simp; omega
 · unfold Builtin.Tuple.tupleTooMany; simp; omega
 · rw [fo]; simp; omega
 · rw [fo]
   refine ⟨.ref _, _, I.laid (t' := s.toks) (o := .tup (List.replicate k.toNat v0)) (fun b ob q => Heap.get?_push_of_some _ q) (Nat.le_refl _) ?_, rfl, q _ I.fresh⟩
   refine ⟨by simp; omega, List.replicate k.toNat u0, ?_, IsTup.new _ _⟩
   clear fo
   induction k.toNat with
   | zero => exact .nil
   | succ m ih => exact .cons ru ih
end
end L2
namespace I
open PySem L2 PySem.Spec PyProof.Rows
theorem lim_line : LIM ≤ sizeLine := by decide
section
variable {Γ : Gm} {φ φ1 : List Addr} {st st1 : Sto} {H H1 : Hp}
theorem Af.mono (a : Af Γ φ st H r Q) (h : ∀ v H', Q v H' → Q' v H') : Af Γ φ st H r Q' := by
 cases r with
 | ok w st' => exact fun v H' φ' rw pt => h v H' (a v H' _ rw pt)
 | _ => exact a
theorem Af.now {Q} (a : Af Γ φ st H (.ok w st) Q) (rl : Rl Γ φ st H) (r : RW Γ φ st H w v) : Q v H := a v H φ r (Pt.refl rl)
theorem Af.tup {Q} (a : Af Γ φ st H (.ok (.d (.tup xs)) st) Q) (rl : Rl Γ φ st H) (r : Rps Γ.K (Live φ st) H xs vs) : ∀ p, H p = none → Q (.ref p) (upd H p (.tup vs)) := fun p hp => by
 have b := rl.beside (o := .tup vs) hp
 refine a _ _ φ ⟨p, vs, rfl, .inl ⟨.inl upd_same, ?_⟩, r.step b.stp⟩ b
 rintro ⟨k, ys, e1, e2⟩
 obtain ⟨_, h1, _⟩ := rl.at_ k ys p e1 e2
 rw [hp] at h1; cases h1
theorem Af.lst {Q} (a : Af Γ φ st H (fresh (.lst xs) st) Q) (rl : Rl Γ φ st H) (r : Rps Γ.K (Live φ st) H xs vs) : ∀ p, H p = none → Q (.ref p) (upd H p (.lst vs)) := fun p hp => by
 refine a _ _ _ ⟨p, ?_, rfl⟩ (rl.lay hp r)
 rw [← rl.len, List.getElem?_append_right (Nat.le_refl _), Nat.sub_self]
 rfl
end
def OpS (Γ : Gm) (r : R2) (f : W → W → Sto → Res W) : Prop := ∀ φ st H x y v u Q, Rl Γ φ st H → RW Γ φ st H x v → RW Γ φ st H y u → Af Γ φ st H (f x y st) Q → r v u H Q
theorem two {F} {r} {f} {a b e} (he : ∀ ρ st, evE F Γ.G e ρ st = (evE F Γ.G a ρ st).bind fun x st => (evE F Γ.G b ρ st).bind fun y st => f x y st) (o : OpS Γ r f) :
 ∀ σ H Q, tE Γ F e σ H Q → tOp r (tE Γ F a) (tE Γ F b) σ H Q := by
 rintro σ H Q ⟨φ, st, ρ, en, rl, af⟩
 rw [he] at af
 refine ⟨φ, st, ρ, en, rl, af.bind.mono fun v H1 ⟨w, st1, φ1, rw1, pt, af1⟩ => ?_⟩
 exact ⟨φ1, st1, ρ, en.step pt, pt.rl, af1.bind.mono fun u H2 ⟨w2, st2, φ2, rw2, pt2, af2⟩ => o _ _ H2 w w2 v u Q pt2.rl (rw1.step pt2) rw2 af2⟩
theorem one {Γ : Gm} {F : FT} {r : V → Hp → VK → Prop} {f : W → Sto → Res W} {a e : E} (he : ∀ ρ st, evE F Γ.G e ρ st = (evE F Γ.G a ρ st).bind fun x st => f x st)
 (o : ∀ φ st H x v Q, Rl Γ φ st H → RW Γ φ st H x v → Af Γ φ st H (f x st) Q → r v H Q) :
 ∀ σ H Q, tE Γ F e σ H Q → tUn r (tE Γ F a) σ H Q := by
 rintro σ H Q ⟨φ, st, ρ, en, rl, af⟩
 rw [he] at af
 exact ⟨φ, st, ρ, en, rl, af.bind.mono fun v H1 ⟨w, st1, φ1, rw1, pt, af1⟩ => o φ1 st1 H1 w v Q pt.rl rw1 af1⟩
theorem Af.looks2 {st} {H} {x y} {Q} {g : T → T → Res W} (a : Af Γ φ st H (match look x st, look y st with | some a, some b => g a b | _, _ => .bad) Q) :
 ∃ t u, look x st = some t ∧ look y st = some u ∧ Af Γ φ st H (g t u) Q := by
 cases h1 : look x st with
 | none => rw [h1] at a; exact a.elim
 | some t =>
  cases h2 : look y st with
  | none => rw [h1, h2] at a; exact a.elim
  | some u => simp_all
theorem Af.opt {st} {H} {o} {Q} {g : T → Res W} (a : Af Γ φ st H (match o with | some t => g t | none => .bad) Q) : ∃ t, o = some t ∧ Af Γ φ st H (g t) Q := by
 cases o with
 | none => exact a.elim
 | some t => exact ⟨t, rfl, a⟩
theorem opt_if {α : Type} {p} [Decidable p] {x y : α} (h : (if p then some x else none) = some y) : p ∧ x = y := by grind
theorem small_ok (h : small i = true) : -2 ^ 64 < i ∧ i < 2 ^ 64 := by
 rw [small_d] at h
 simp_all
def rAdd (K : PySem.W.Frag) : R2 := fun x y H Q => rI0 (fun i j => .int (i + j)) x y H Q ∨ (∃ i j, x = .str i ∧ y = .str j ∧ i.length + j.length ≤ sizeLine ∧ Q (.str (i ++ j)) H) ∨ rCatK K x y H Q ∨ rCatS K x y H Q
theorem op_addK {K} (hK : X.K = K) : OpR X (binaryOp .Add) (rAdd K) := op_add.or (op_add_str.or ((op_catK hK).or (catKS hK)))
theorem rps_nil_iff {K} {L} {H} {ts} {vs} (r : Rps K L H ts vs) : vs = [] ↔ ts = [] := by
 have := r.length
 grind
theorem add_s : OpS Γ (rAdd Γ.K) (binW .add) := by
 intro φ st H x y v u Q rl rx ry af
 obtain ⟨t, t', h1, h2, af⟩ := Af.looks2 af
 obtain ⟨z, hz, af⟩ := Af.opt af
 have hLL := lim_line
 cases t with
 | int i =>
  cases t' <;> first | (cases hz; done) | skip
  rename_i j
  exact .inl ⟨i, j, rx.int rl h1, ry.int rl h2, af.now rl rfl⟩
 | str i =>
  cases t' <;> first | (cases hz) | skip
  rename_i j
  obtain ⟨hz1, rfl⟩ := opt_if hz
  exact .inr (.inl ⟨i, j, rx.str rl h1, ry.str rl h2, by omega, af.now rl rfl⟩)
 | tup i =>
  cases t' <;> first | (cases hz) | skip
  obtain ⟨hz1, rfl⟩ := opt_if hz
  obtain ⟨a, vs, rfl, q1, r1⟩ := rx.tup rl h1
  obtain ⟨b, ws, rfl, q2, r2⟩ := ry.tup rl h2
  refine .inr (.inr (.inl ⟨a, b, vs, ws, rfl, rfl, q1, q2, by rw [r1.length, r2.length]; omega, fun e => ?_, fun _ e => ?_, fun _ _ => af.tup rl (r1.append r2)⟩))
  · rw [(rps_nil_iff r1).mp e] at af
    rcases ry.look rl h2 with q | ⟨_, _, _, _, _, e2, _⟩
    · exact af.now rl q
    · cases e2
  · rw [(rps_nil_iff r2).mp e, List.append_nil] at af
    rcases rx.look rl h1 with q | ⟨_, _, _, _, _, e2, _⟩
    · exact af.now rl q
    · cases e2
 | lst i =>
  cases t' <;> first | (cases hz) | skip
  obtain ⟨hz1, rfl⟩ := opt_if hz
  obtain ⟨a, vs, rfl, q1, r1⟩ := rx.lst rl h1
  obtain ⟨b, ws, rfl, q2, r2⟩ := ry.lst rl h2
  exact .inr (.inr (.inr ⟨a, b, vs, ws, rfl, rfl, q1, q2, by rw [r1.length, r2.length]; omega, af.lst rl (r1.append r2)⟩))
 | ins b => cases hz
 | non => cases hz
 | bl b => cases hz
def rMul (K : PySem.W.Frag) : R2 := fun x y H Q => rI CMul (fun i j => .int (i * j)) x y H Q ∨ (∃ z n, x = .str z ∧ y = .int n ∧ z.length ≤ 1000 ∧ 0 ≤ n ∧ n ≤ 1000 ∧ Q (.str (repS z n)) H) ∨ rRepK K x y H Q
theorem op_mulK {X : Cx} {K : PySem.W.Frag} (hK : X.K = K) : OpR X (binaryOp .Mult) (rMul K) := op_mul.or (op_mul_str.or (op_repK hK))
theorem mul_s {Γ : Gm} : OpS Γ (rMul Γ.K) (binW .mul) := by
 intro φ st H x y v u Q rl rx ry af
 obtain ⟨t, t', h1, h2, af⟩ := Af.looks2 af
 obtain ⟨z, hz, af⟩ := Af.opt af
 cases t with
 | int i =>
  cases t' <;> first | (cases hz; done) | skip
  rename_i j
  obtain ⟨hz1, rfl⟩ := opt_if hz
  refine .inl ⟨i, j, rx.int rl h1, ry.int rl h2, ?_, af.now rl rfl⟩
  rcases (Bool.or_eq_true _ _).mp hz1 with q | q
  · exact .inl (small_ok q)
  · exact .inr (small_ok q)
 | str i =>
  cases t' <;> first | (cases hz; done) | skip
  rename_i j
  obtain ⟨⟨a, b, c⟩, rfl⟩ := opt_if hz
  exact .inr (.inl ⟨i, j, rx.str rl h1, ry.int rl h2, a, b, c, af.now rl rfl⟩)
 | tup i =>
  match i, t', hz with
  | [], _, hz => cases hz
  | _ :: _ :: _, _, hz => cases hz
  | [x0], .non, hz => cases hz
  | [x0], .bl _, hz => cases hz
  | [x0], .str _, hz => cases hz
  | [x0], .tup _, hz => cases hz
  | [x0], .lst _, hz => cases hz
  | [x0], .ins _, hz => cases hz
  | [x0], .int j, hz =>
   obtain ⟨⟨a, b⟩, rfl⟩ := opt_if hz
   obtain ⟨p, vs, rfl, q1, r1⟩ := rx.tup rl h1
   obtain ⟨v0, rs, rfl, r2, r3⟩ := id r1
   cases (show rs = [] from r3)
   refine .inr (.inr ⟨p, j, v0, rfl, ry.int rl h2, q1, a, b, fun e => ?_, fun _ => af.tup rl ?_⟩)
   · subst e
     rcases rx.look rl h1 with q | ⟨_, _, _, _, _, e2, _⟩
     · exact af.now rl q
     · cases e2
   · induction j.toNat with
     | zero => exact rfl
     | succ n ih => exact ⟨v0, _, rfl, r2, ih⟩
 | lst i => cases t' <;> cases hz
 | ins i => cases t' <;> cases hz
 | non => cases hz
 | bl b => cases hz
theorem int_s {o} {C} {g : Int → Int → Int} (h : ∀ a b t, binT o a b = some t → ∃ i j, a = .int i ∧ b = .int j ∧ C i j ∧ t = .int (g i j)) : OpS Γ (rI C fun i j => .int (g i j)) (binW o) := by
 intro φ st H x y v u Q rl rx ry af
 obtain ⟨t, t', h1, h2, af⟩ := Af.looks2 af
 obtain ⟨z, hz, af⟩ := Af.opt af
 obtain ⟨i, j, rfl, rfl, c, rfl⟩ := h _ _ _ hz
 exact ⟨i, j, rx.int rl h1, ry.int rl h2, c, af.now rl rfl⟩
theorem op_subC : OpR X (binaryOp .Sub) (rI (fun _ _ => True) fun i j => .int (i - j)) := fun pins s σ H x y v u Q I rx ry ⟨i, j, a, b, _, q⟩ => op_sub _ s σ H x y v u Q I rx ry ⟨i, j, a, b, q⟩
theorem sub_s : OpS Γ (rI (fun _ _ => True) fun i j => .int (i - j)) (binW .sub) := int_s fun a b t h => by
 cases a <;> cases b <;> first | (cases h; done) | (cases h; simp)
theorem fdiv_s : OpS Γ (rI CDivL fun i j => .int (i / j)) (binW .fdiv) := int_s fun a b t h => by
 cases a <;> cases b <;> first | (cases h) | (obtain ⟨h1, rfl⟩ := opt_if h; exact ⟨_, _, rfl, rfl, h1, rfl⟩)
theorem mod_s : OpS Γ (rI (fun _ j => 0 < j) fun i j => .int (i % j)) (binW .mod) := int_s fun a b t h => by
 cases a <;> cases b <;> first | (cases h) | (obtain ⟨h1, rfl⟩ := opt_if h; exact ⟨_, _, rfl, rfl, h1, rfl⟩)
theorem pow_s : OpS Γ (rI CPow fun i j => .int (i ^ j.toNat)) (binW .pow) := int_s fun a b t h => by
 cases a <;> cases b <;> first | (cases h) | (obtain ⟨h1, rfl⟩ := opt_if h; exact ⟨_, _, rfl, rfl, h1, rfl⟩)
def bopOf : Operator → Option Bop
 | .Add => some .add
 | .Sub => some .sub
 | .Mult => some .mul
 | .FloorDiv => some .fdiv
 | .Mod => some .mod
 | .Pow => some .pow
 | _ => none
theorem bin_ok {X : Cx} {Γ : Gm} (hK : X.K = Γ.K) {op : Operator} {o : Bop} (h : bopOf op = some o) : ∃ r, OpR X (binaryOp op) r ∧ OpS Γ r (binW o) := by
 cases op <;> first | (cases h; done) | (cases h; first | exact ⟨_, op_addK hK, add_s⟩ | exact ⟨_, op_mulK hK, mul_s⟩ | exact ⟨_, op_subC, sub_s⟩ | exact ⟨_, op_fdivL, fdiv_s⟩ | exact ⟨_, op_mod, mod_s⟩ | exact ⟨_, op_pow, pow_s⟩)
end I
end
section
namespace I
open PySem L2 PySem.Spec PyProof.Rows
mutual
theorem Rp.weak {K} {L} {H} : ∀ {t} {v}, Rp K L H t v → Rp K (fun _ => False) H t v
 | .non, _, r => r
 | .bl _, _, r => r
 | .int _, _, r => r
 | .str _, _, r => r
 | .tup xs, _, r => by
  obtain ⟨a, vs, e, q, rs⟩ := r
  exact ⟨a, vs, e, q.elim (fun x => .inl ⟨x.1, id⟩) .inr, Rps.weak rs⟩
 | .lst xs, _, r => by
  obtain ⟨a, vs, e, q, rs⟩ := r
  exact ⟨a, vs, e, q.elim (fun x => .inl ⟨x.1, id⟩) .inr, Rps.weak rs⟩
 | .ins _, _, r => by
  obtain ⟨a, e, C, dx, h, _, c⟩ := r
  exact ⟨a, e, C, dx, h, id, c⟩
theorem Rps.weak {K} {L} {H} : ∀ {ts} {vs}, Rps K L H ts vs → Rps K (fun _ => False) H ts vs
 | [], _, r => r
 | t :: ts, _, r => by
  obtain ⟨v, rs, e, r1, r2⟩ := r
  exact ⟨v, rs, e, Rp.weak r1, Rps.weak r2⟩
end
section
variable {Γ : Gm} {φ φ1 : List Addr} {st st1 : Sto} {H H1 : Hp}
theorem RW.rp (rl : Rl Γ φ st H) (r : RW Γ φ st H w v) (h : I.look w st = some t) : Rp Γ.K (fun _ => False) H t v := by
 rcases r.look rl h with q | ⟨k, xs, a, vs, rfl, rfl, rfl, _, _, h1, h2⟩
 · exact Rp.weak q
 · exact ⟨a, vs, rfl, .inl ⟨.inl h1, id⟩, Rps.weak h2⟩
end
theorem flat_rp {K} {L} {H} {t} {v} (f : flatT t = true) (r : Rp K L H t v) : flatV v = true ∧ ∀ {u} {w}, flatT u = true → Rp K L H u w → eqV v w = eqT t u := by
 cases t with
 | non => cases r; refine ⟨rfl, fun {u w} g q => ?_⟩; cases u <;> first | (cases q; rfl) | cases g
 | bl b => cases r; refine ⟨rfl, fun {u w} g q => ?_⟩; cases u <;> first | (cases q; rfl) | cases g
 | int b => cases r; refine ⟨rfl, fun {u w} g q => ?_⟩; cases u <;> first | (cases q; rfl) | cases g
 | str b => cases r; refine ⟨rfl, fun {u w} g q => ?_⟩; cases u <;> first | (cases q; rfl) | cases g
 | tup _ => cases f
 | lst _ => cases f
 | ins _ => cases f
theorem flat_in {K} {L} {H} {x} {v} (f : flatT x = true) (r : Rp K L H x v) : ∀ {ys} {vs}, ys.all flatT = true → Rps K L H ys vs → vs.all flatV = true ∧ inV v vs = ys.any fun y => eqT y x
 | [], _, _, q => by cases q; exact ⟨rfl, rfl⟩
 | y :: ys, _, g, q => by
  obtain ⟨w, rs, rfl, q1, q2⟩ := q
  simp only [List.all_cons, Bool.and_eq_true] at g
  obtain ⟨a, b⟩ := flat_in f r g.2 q2
  obtain ⟨c, d⟩ := flat_rp g.1 q1
  refine ⟨by simp [a, c], ?_⟩
  unfold inV at b ⊢
  rw [List.any_cons, List.any_cons, b, d f r]
def copOf : CmpOp → Option Cop
 | .Eq => some .eq
 | .NotEq => some .ne
 | .Lt => some .lt
 | .LtE => some .le
 | .Gt => some .gt
 | .GtE => some .ge
 | .In => some .mem
 | .NotIn => some .nmem
 | _ => none
theorem Af.optB {st} {H} {o} {Q} {g : Bool → Res W} (a : Af Γ φ st H (match o with | some t => g t | none => .bad) Q) : ∃ t, o = some t ∧ Af Γ φ st H (g t) Q := by
 cases o with
 | none => exact a.elim
 | some t => exact ⟨t, rfl, a⟩
theorem cmpi_s {o} {g : Int → Int → Bool} (h : ∀ a b t, cmpT o a b = some t → ∃ i j, a = .int i ∧ b = .int j ∧ t = g i j) : OpS Γ (rI0 fun i j => .bl (g i j)) (cmpW o) := by
 intro φ st H x y v u Q rl rx ry af
 obtain ⟨t, t', h1, h2, af⟩ := Af.looks2 af
 obtain ⟨z, hz, af⟩ := Af.optB af
 obtain ⟨i, j, rfl, rfl, rfl⟩ := h _ _ _ hz
 exact ⟨i, j, rx.int rl h1, ry.int rl h2, af.now rl rfl⟩
theorem in_s {o} {neg : Bool} (h : ∀ x a t, cmpT o x a = some t → flatT x = true ∧ ∃ ys, ys.all flatT = true ∧ t = (if neg then !ys.any fun y => eqT y x else ys.any fun y => eqT y x) ∧ (a = .tup ys ∨ a = .lst ys)) : OpS Γ (rIn Γ.K neg) (cmpW o) := by
 intro φ st H x y v u Q rl rx ry af
 obtain ⟨t, t', h1, h2, af⟩ := Af.looks2 af
 obtain ⟨z, hz, af⟩ := Af.optB af
 obtain ⟨f, ys, fs, e, k⟩ := h _ _ _ hz
 have r := rx.rp rl h1
 have key : ∃ p vs, u = .ref p ∧ (SqL Γ.K H p vs ∨ SqT Γ.K H p vs) ∧ Rps Γ.K (fun _ => False) H ys vs := by
  rcases k with rfl | rfl
  · obtain ⟨a, vs, e, q1, q2⟩ := ry.tup rl h2; exact ⟨a, vs, e, .inr q1, Rps.weak q2⟩
  · obtain ⟨a, vs, e, q1, q2⟩ := ry.lst rl h2; exact ⟨a, vs, e, .inl q1, Rps.weak q2⟩
 obtain ⟨p, vs, e2, sq, rs⟩ := key
 obtain ⟨a1, a2⟩ := flat_in f r fs rs
 refine ⟨p, vs, e2, sq, (flat_rp f r).1, a1, ?_⟩
 rw [a2, ← e]
 exact af.now rl rfl
theorem cmp_ok {X : Cx} {Γ : Gm} (hK : X.K = Γ.K) (hu : X.A.units + 64 < cLine) {op : CmpOp} {o : Cop} (h : copOf op = some o) : ∃ r, OpR X (compareOp op) r ∧ OpS Γ r (cmpW o) := by
 cases op with
 | Eq =>
  cases h
  refine ⟨_, op_eqK (fun _ => False) hK hu, fun φ st H x y v u Q rl rx ry af => ?_⟩
  obtain ⟨t, t', h1, h2, af⟩ := Af.looks2 af
  obtain ⟨z, hz, af⟩ := Af.optB af
  obtain ⟨hd, rfl⟩ := opt_if hz
  exact ⟨t, t', rx.rp rl h1, ry.rp rl h2, hd.1, hd.2, af.now rl rfl⟩
 | NotEq =>
  cases h
  refine ⟨_, op_neK (fun _ => False) hK hu, fun φ st H x y v u Q rl rx ry af => ?_⟩
  obtain ⟨t, t', h1, h2, af⟩ := Af.looks2 af
  obtain ⟨z, hz, af⟩ := Af.optB af
  obtain ⟨hd, rfl⟩ := opt_if hz
  exact ⟨t, t', rx.rp rl h1, ry.rp rl h2, hd.1, hd.2, af.now rl rfl⟩
 | Lt => cases h; exact ⟨_, op_lt, cmpi_s fun a b t h => by cases a <;> cases b <;> first | (cases h; done) | (cases h; simp)⟩
 | Gt => cases h; exact ⟨_, op_gt, cmpi_s fun a b t h => by cases a <;> cases b <;> first | (cases h; done) | (cases h; simp)⟩
 | GtE => cases h; exact ⟨_, op_ge, cmpi_s fun a b t h => by cases a <;> cases b <;> first | (cases h; done) | (cases h; simp)⟩
 | LtE =>
  cases h
  refine ⟨_, op_le.or op_le_str, fun φ st H x y v u Q rl rx ry af => ?_⟩
  obtain ⟨t, t', h1, h2, af⟩ := Af.looks2 af
  obtain ⟨z, hz, af⟩ := Af.optB af
  cases t with
  | int i =>
   cases t' <;> first | (cases hz; done) | skip
   rename_i j
   exact .inl ⟨i, j, rx.int rl h1, ry.int rl h2, af.now rl rfl⟩
  | str i =>
   cases t' <;> first | (cases hz; done) | skip
   rename_i j
   exact .inr ⟨i, j, rx.str rl h1, ry.str rl h2, af.now rl rfl⟩
  | _ => cases t' <;> cases hz
 | In =>
  cases h
  refine ⟨_, inK_seq hK, in_s fun x a t h => ?_⟩
  cases a <;> first | (cases h) | skip
  all_goals
   obtain ⟨h1, rfl⟩ := opt_if h
   simp only [Bool.and_eq_true] at h1
  · exact ⟨h1.1, _, h1.2, rfl, .inl rfl⟩
  · exact ⟨h1.1, _, h1.2, rfl, .inr rfl⟩
 | NotIn =>
  cases h
  refine ⟨_, notInK_seq hK, in_s fun x a t h => ?_⟩
  cases a <;> first | (cases h) | skip
  all_goals
   obtain ⟨h1, rfl⟩ := opt_if h
   simp only [Bool.and_eq_true] at h1
  · exact ⟨h1.1, _, h1.2, rfl, .inl rfl⟩
  · exact ⟨h1.1, _, h1.2, rfl, .inr rfl⟩
 | Is => cases h
 | IsNot => cases h
theorem cmp_bl {st st'} {w} (h : cmpW o x y st = .ok w st') : ∃ b, w = .d (.bl b) ∧ st' = st := by
 unfold cmpW at h
 split at h
 · split at h
   · cases h; exact ⟨_, rfl, rfl⟩
   · cases h
 · cases h
def evB (F : FT) (G : List T) (e : E) (ρ : Rho) (st : Sto) : Res Bool := (evE F G e ρ st).bind fun w st => match truW w st with | some b => .ok b st | none => .bad
def tT (Γ : Gm) (F : FT) (e : E) : TT := fun σ H Q => ∃ φ st ρ, En Γ φ st H ρ σ ∧ Rl Γ φ st H ∧ AfB Γ φ st H (evB F Γ.G e ρ st) Q
theorem _root_.L2.PT.imp (h : PT X e t) (i : ∀ σ H Q, u σ H Q → t σ H Q) : PT X e u := fun pins s σ H Q I q => h _ s σ H Q I (i σ H Q q)
section
variable {Γ : Gm} {φ φ1 : List Addr} {st st1 : Sto} {H H1 : Hp} {F : FT}
theorem tru_v {w : W} {v : V} {b : Bool} (rl : Rl Γ φ st H) (r : RW Γ φ st H w v) (h : truW w st = some b) : TruV Γ.K v H b := by
 unfold truW at h
 cases q : look w st with
 | none => rw [q] at h; cases h
 | some t =>
  rw [q] at h
  have h : tru t = some b := h
  cases t with
  | non =>
   cases h
   rcases r.look rl q with z | ⟨_, _, _, _, _, e, _⟩
   · cases z; exact rfl
   · cases e
  | bl c => cases h; rw [r.bl rl q]; exact rfl
  | int i => cases h; rw [r.int rl q]; exact rfl
  | str z =>
   obtain ⟨h1, rfl⟩ := opt_if h
   rw [r.str rl q]
   exact ⟨Nat.le_trans h1 lim_line, rfl⟩
  | tup xs =>
   cases h
   obtain ⟨a, vs, rfl, h1, h2⟩ := r.tup rl q
   refine .inr ⟨vs, h1, ?_⟩
   have := rps_nil_iff h2
   cases vs <;> cases xs <;> simp_all
  | lst xs =>
   cases h
   obtain ⟨a, vs, rfl, h1, h2⟩ := r.lst rl q
   refine .inl ⟨vs, h1, ?_⟩
   have := rps_nil_iff h2
   cases vs <;> cases xs <;> simp_all
  | ins _ => cases h
theorem AfB.bind {Q} (a : AfB Γ φ st H (r.bind f) Q) :
 Af Γ φ st H r fun v H1 => ∃ w st1 φ1, RW Γ φ1 st1 H1 w v ∧ Pt Γ φ st H φ1 st1 H1 ∧ AfB Γ φ1 st1 H1 (f w st1) Q := by
 cases r with
 | ok w st' => exact fun v H' φ' rw pt => ⟨w, st', φ', rw, pt, AfB.re a pt⟩
 | _ => exact a
theorem AfB.mono (a : AfB Γ φ st H r Q) (h : ∀ v H', Q v H' → Q' v H') : AfB Γ φ st H r Q' := by
 cases r with
 | ok w st' => exact fun H' φ' pt => h _ H' (a H' _ pt)
 | _ => exact a
theorem AfB.now (a : AfB Γ φ st H (.ok b st) Q) (rl : Rl Γ φ st H) : Q b H := a H φ (Pt.refl rl)
theorem AfB.tru {Q} (a : AfB Γ φ st H (match truW w st with | some b => .ok b st | none => .bad) Q) (rl : Rl Γ φ st H) (r : RW Γ φ st H w v) : ∃ k, truW w st = some k ∧ TruV Γ.K v H k ∧ Q k H := by
 cases h : truW w st with
 | none => rw [h] at a; exact a.elim
 | some b => rw [h] at a; exact ⟨b, rfl, tru_v rl r h, a.now rl⟩
theorem test_of (hK : X.K = Γ.K) (h : PE X x (tE Γ F e)) (he : ∀ whole, isTrue x X.env whole = do let v ← whole; standAt x.pos; holding [v] (truthy v)) : PT X x (tT Γ F e) := by
 refine L2.PT.imp (pt_truth h he) ?_
 rintro σ H Q ⟨φ, st, ρ, en, rl, af⟩
 refine ⟨φ, st, ρ, en, rl, (AfB.bind af).mono fun v H1 ⟨w, st1, φ1, rw1, pt, af1⟩ => ?_⟩
 obtain ⟨k, _, a, b⟩ := af1.tru pt.rl rw1
 rw [hK]
 exact ⟨k, a, b⟩
theorem test_bl {e} (h : PT X x (tTest t)) (i : ∀ σ H Q, tE Γ F e σ H Q → t σ H Q) (hb : ∀ ρ st w st', evE F Γ.G e ρ st = .ok w st' → ∃ b, w = .d (.bl b)) : PT X x (tT Γ F e) := by
 refine L2.PT.imp h ?_
 rintro σ H Q ⟨φ, st, ρ, en, rl, af⟩
 refine i σ H _ ⟨φ, st, ρ, en, rl, ?_⟩
 unfold evB at af
 cases q : evE F _ e ρ st with
 | ok w st' =>
  rw [q] at af
  obtain ⟨b, rfl⟩ := hb _ _ _ _ q
  intro v H' φ' rw pt
  cases rw
  exact ⟨b, rfl, af H' _ pt⟩
 | _ => rw [q] at af; exact af.elim
theorem evB_and {st} : evB F G (.and a b) ρ st = (evB F G a ρ st).bind fun c st => if c then evB F G b ρ st else .ok false st := by
 unfold evB
 simp only [evE]
 cases evE F G a ρ st with
 | ok w st' =>
  simp only [Res.bind]
  cases h : truW w _ with
  | none => rfl
  | some c => cases c <;> simp [h]
 | _ => rfl
theorem evB_or {st} : evB F G (.or a b) ρ st = (evB F G a ρ st).bind fun c st => if c then .ok true st else evB F G b ρ st := by
 unfold evB
 simp only [evE]
 cases evE F G a ρ st with
 | ok w st' =>
  simp only [Res.bind]
  cases h : truW w _ with
  | none => rfl
  | some c => cases c <;> simp [h]
 | _ => rfl
theorem evB_not {st} : evB F G (.not a) ρ st = (evB F G a ρ st).bind fun c st => .ok (!c) st := by
 unfold evB
 simp only [evE]
 cases evE F G a ρ st with
 | ok w st' =>
  simp only [Res.bind]
  cases h : truW w _ with
  | none => rfl
  | some c => cases c <;> rfl
 | _ => rfl
theorem AfB.bindB {Q} (a : AfB Γ φ st H (r.bind f) Q) :
 AfB Γ φ st H r fun b H1 => ∃ st1 φ1, Pt Γ φ st H φ1 st1 H1 ∧ AfB Γ φ1 st1 H1 (f b st1) Q := by
 cases r with
 | ok w st' => exact fun H' φ' pt => ⟨st', φ', pt, AfB.re a pt⟩
 | _ => exact a
theorem tand : ∀ σ H Q, tT Γ F (.and a b) σ H Q → tAnd (tT Γ F a) (tT Γ F b) σ H Q := by
 rintro σ H Q ⟨φ, st, ρ, en, rl, af⟩
 rw [evB_and] at af
 refine ⟨φ, st, ρ, en, rl, af.bindB.mono fun c H1 ⟨st1, φ1, pt, af1⟩ => ?_⟩
 cases c with
 | true => exact ⟨φ1, st1, ρ, en.step pt, pt.rl, af1⟩
 | false => exact af1.now pt.rl
theorem tor : ∀ σ H Q, tT Γ F (.or a b) σ H Q → tOr (tT Γ F a) (tT Γ F b) σ H Q := by
 rintro σ H Q ⟨φ, st, ρ, en, rl, af⟩
 rw [evB_or] at af
 refine ⟨φ, st, ρ, en, rl, af.bindB.mono fun c H1 ⟨st1, φ1, pt, af1⟩ => ?_⟩
 cases c with
 | false => exact ⟨φ1, st1, ρ, en.step pt, pt.rl, af1⟩
 | true => exact af1.now pt.rl
theorem tnot : ∀ σ H Q, tT Γ F (.not a) σ H Q → tNot (tT Γ F a) σ H Q := by
 rintro σ H Q ⟨φ, st, ρ, en, rl, af⟩
 rw [evB_not] at af
 exact ⟨φ, st, ρ, en, rl, af.bindB.mono fun c H1 ⟨st1, φ1, pt, af1⟩ => af1.now pt.rl⟩
end
section
variable {X : Cx} {a b : Expr} {ta tb : TE} {rest : List Expr} {pos : Pos}
def tAndT (K : PySem.W.Frag) (ta tb : TE) : TE := fun σ H Q => ta σ H fun x H1 => ∃ c, TruV K x H1 c ∧ if c = true then tb σ H1 Q else Q x H1
def tOrT (K : PySem.W.Frag) (ta tb : TE) : TE := fun σ H Q => ta σ H fun x H1 => ∃ c, TruV K x H1 c ∧ if c = true then Q x H1 else tb σ H1 Q
def tNotT (K : PySem.W.Frag) (ta : TE) : TE := fun σ H Q => ta σ H fun x H1 => ∃ c, TruV K x H1 c ∧ Q (.bl (!c)) H1
theorem pe_andT (ha : PE X a ta) (hb : PE X (.BoolOp .And (b :: rest) pos) tb) : PE X (.BoolOp .And (a :: b :: rest) pos) (tAndT X.K ta tb) := by
 intro pins s σ H Q I h
 refine BoolOp_and (thn (ha _ s σ H _ I h) fun v s1 ⟨x, H1, I1, r1, q1⟩ => ?_)
 obtain ⟨c, t, q1⟩ := q1
 refine thn (tru_ok _ s1 σ H1 x v (fun c' H2 => c' = c ∧ H2 = H1) I1 r1 ⟨c, t, rfl, rfl⟩) fun c' s2 ⟨H2, I2, e1, e2⟩ => ?_
 subst e1 e2
 cases c' with
 | true => exact hb _ s2 σ _ Q I2 q1
 | false => exact ⟨x, _, I2, r1, q1⟩
theorem pe_orT (ha : PE X a ta) (hb : PE X (.BoolOp .Or (b :: rest) pos) tb) : PE X (.BoolOp .Or (a :: b :: rest) pos) (tOrT X.K ta tb) := by
 intro pins s σ H Q I h
 refine BoolOp_or (thn (ha _ s σ H _ I h) fun v s1 ⟨x, H1, I1, r1, q1⟩ => ?_)
 obtain ⟨c, t, q1⟩ := q1
 refine thn (tru_ok _ s1 σ H1 x v (fun c' H2 => c' = c ∧ H2 = H1) I1 r1 ⟨c, t, rfl, rfl⟩) fun c' s2 ⟨H2, I2, e1, e2⟩ => ?_
 subst e1 e2
 cases c' with
 | false => exact hb _ s2 σ _ Q I2 q1
 | true => exact ⟨x, _, I2, r1, q1⟩
theorem pe_notT (ha : PE X a ta) : PE X (.UnaryOp .Not a pos) (tNotT X.K ta) := by
 intro pins s σ H Q I h
 refine UnaryOp_ (thn (ha _ s σ H _ I h) fun v s1 ⟨x, H1, I1, r1, q1⟩ => ?_)
 obtain ⟨c, t, q1⟩ := q1
 refine not_of (thn (tru_ok _ s1 σ H1 x v (fun c' H2 => c' = c ∧ H2 = H1) I1 r1 ⟨c, t, rfl, rfl⟩) fun c' s2 ⟨H2, I2, e1, e2⟩ => ?_)
 subst e1 e2
 exact ⟨.bl _, _, I2, rfl, q1⟩
end
end I
end
section
namespace I
open PySem L2 PySem.Spec PyProof.Rows
section
variable {Γ : Gm} {φ φ1 φ2 : List Addr} {st st1 st2 : Sto} {H H1 : Hp}
theorem Pt.len (p : Pt Γ φ st H φ1 st1 H1) (hl : φ.length = st.length) : st.length ≤ φ1.length := by
 cases h : st.length with
 | zero => exact Nat.zero_le _
 | succ n =>
  have e : φ[n]? = some φ[n] := List.getElem?_eq_getElem _
  have := (List.getElem?_eq_some_iff.mp (p.pre n _ e)).1
  omega
theorem frz_ok (hl : φ.length = st.length) (p : Pt Γ φ st H φ1 st1 H1) (r : RW Γ φ1 st1 H1 w v) (h : frzTo st.length w st1 = .ok t st2) : ∃ φ2, Pt Γ φ st H φ2 st2 H1 ∧ Rp Γ.K (Live φ2 st2) H1 t v := by
 cases w with
 | d u =>
  cases h
  obtain ⟨_, s⟩ := p.rl.cut _
  exact ⟨_, p.cut hl, Rp.step s r⟩
 | ref k =>
  obtain ⟨a, e, rfl⟩ := r
  cases q : st1[k]? with
  | none => simp [frzTo, q] at h
  | some o =>
   cases o with
   | none => simp [frzTo, q] at h
   | some xs =>
    simp only [frzTo, q, Res.ok.injEq] at h
    obtain ⟨rfl, rfl⟩ := h
    obtain ⟨rl2, s2, r2⟩ := p.rl.freeze e q
    have p2 : Pt Γ φ st H _ _ H1 := ⟨rl2, p.stp.trans s2, p.pre⟩
    obtain ⟨_, s⟩ := rl2.cut _
    exact ⟨_, p2.cut hl, Rp.step s r2⟩
theorem tr_ok {w w' : W} {v : V} (hl : φ.length = st.length) (p : Pt Γ φ st H φ1 st1 H1) (r : RW Γ φ1 st1 H1 w v) (h : trTo st.length w st1 = .ok w' st2) : ∃ φ2, Pt Γ φ st H φ2 st2 H1 ∧ RW Γ φ2 st2 H1 w' v := by
 cases w with
 | d u =>
  cases h
  obtain ⟨_, s⟩ := p.rl.cut st.length
  exact ⟨_, p.cut hl, Rp.step s r⟩
 | ref k =>
  obtain ⟨a, e, rfl⟩ := r
  by_cases hk : k < st.length
  · simp only [trTo, if_pos hk, Res.ok.injEq] at h
    obtain ⟨rfl, rfl⟩ := h
    exact ⟨_, p.cut hl, a, by simp_all, rfl⟩
  · cases q : st1[k]? with
    | none => simp [trTo, hk, q] at h
    | some o =>
     cases o with
     | none => simp [trTo, hk, q] at h
     | some xs =>
      simp only [trTo, if_neg hk, q, Res.ok.injEq] at h
      obtain ⟨rfl, rfl⟩ := h
      obtain ⟨rc, s⟩ := p.rl.cut st.length
      obtain ⟨vs, h1, h2⟩ := p.rl.at_ k xs a e q
      have nl : ¬ Live (φ1.take st.length) (st1.take st.length) a := by
       rintro ⟨i, ys, f1, f2⟩
       rw [List.getElem?_take] at f1 f2
       split at f1
       · rename_i hi
         rw [if_pos hi] at f2
         have := p.rl.inj i k a ys xs f1 e f2 q
         omega
       · cases f1
      have la : Live φ1 st1 a := ⟨k, xs, e, q⟩
      have s' : Stp (Live φ1 st1) H1 (Live (φ1.take st.length ++ [a]) (st1.take st.length ++ [some xs])) H1 :=
       ⟨fun _ _ _ e => e, fun b z => .inl ((live_app rc.len z).elim live_take fun q => by rw [q.1]; exact la)⟩
      have split : ∀ (i : Nat) (b : Addr) (ys : List T), (φ1.take st.length ++ [a])[i]? = some b → (st1.take st.length ++ [some xs])[i]? = some (some ys) → ((φ1.take st.length)[i]? = some b ∧ (st1.take st.length)[i]? = some (some ys)) ∨ (i = (φ1.take st.length).length ∧ b = a ∧ ys = xs) := fun i b ys e1 e2 => by
       have hl := rc.len
       by_cases hi : i < (φ1.take st.length).length
       · rw [List.getElem?_append_left hi] at e1
         rw [List.getElem?_append_left (by omega)] at e2
         exact .inl ⟨e1, e2⟩
       · rw [List.getElem?_append_right (by omega)] at e1
         rw [List.getElem?_append_right (by omega)] at e2
         have z : i - (φ1.take st.length).length = 0 := by
          cases q : i - (φ1.take st.length).length with
          | zero => rfl
          | succ n => rw [q] at e1; simp at e1
         rw [z] at e1
         rw [show i - (st1.take st.length).length = 0 by omega] at e2
         simp at e1 e2
         exact .inr ⟨by omega, e1.symm, e2.symm⟩
      refine ⟨φ1.take st.length ++ [a], ⟨⟨by simp [rc.len], fun i j b ys zs e1 e2 e3 e4 => ?_, fun i ys b e1 e2 => ?_, rc.tab⟩, p.stp.trans s', fun i b f => ?_⟩, a, ?_, rfl⟩
      · rcases split i b ys e1 e3 with ⟨a1, a2⟩ | ⟨a1, a2, a3⟩ <;> rcases split j b zs e2 e4 with ⟨b1, b2⟩ | ⟨b1, b2, b3⟩
        · exact rc.inj i j b ys zs a1 b1 a2 b2
        · subst b2; exact (nl ⟨i, ys, a1, a2⟩).elim
        · subst a2; exact (nl ⟨j, zs, b1, b2⟩).elim
        · omega
      · rcases split i b ys e1 e2 with ⟨a1, a2⟩ | ⟨a1, a2, a3⟩
        · have t1 : φ1[i]? = some b := by rw [List.getElem?_take] at a1; simp_all
          have t2 : st1[i]? = some (some ys) := by rw [List.getElem?_take] at a2; simp_all
          obtain ⟨us, g1, g2⟩ := p.rl.at_ i ys b t1 t2
          exact ⟨us, g1, g2.step s'⟩
        · subst a2 a3
          exact ⟨vs, h1, h2.step s'⟩
      · have hi := (List.getElem?_eq_some_iff.mp f).1
        have hp := p.len hl
        rw [List.getElem?_append_left (by rw [List.length_take]; omega), List.getElem?_take, if_pos (by omega)]
        exact p.pre i b f
      · rw [show (st1.take st.length).length = (φ1.take st.length).length from rc.len.symm, List.getElem?_append_right (Nat.le_refl _), Nat.sub_self]
        rfl
theorem Af.tr {Q} (rl : Rl Γ φ st H) (a : Af Γ φ st H (r.bind fun x st' => trTo st.length x st') Q) : Af Γ φ st H r Q := by
 cases r with
 | ok w st1 =>
  intro v H1 φ1 rw1 pt
  cases h : trTo _ w _ with
  | ok w' st2 =>
   obtain ⟨φ2, p2, r2⟩ := tr_ok rl.len pt rw1 h
   have a : Af Γ φ st H (trTo _ w _) Q := a
   rw [h] at a
   exact a v H1 _ r2 p2
  | _ => have a : Af Γ φ st H (trTo _ w _) Q := a; rw [h] at a; exact a.elim
 | _ => exact a
theorem Af.frz {Q} (rl : Rl Γ φ st H) (a : Af Γ φ st H (r.bind fun x st' => (frzTo st.length x st').bind fun t st => .ok (.d t) st) Q) : Af Γ φ st H r Q := by
 cases r with
 | ok w st1 =>
  intro v H1 φ1 rw1 pt
  have a : Af Γ φ st H ((frzTo _ w _).bind fun t st => .ok _ st) Q := a
  cases h : frzTo _ w _ with
  | ok t st2 =>
   obtain ⟨φ2, p2, r2⟩ := frz_ok rl.len pt rw1 h
   rw [h] at a
   exact a v H1 _ r2 p2
  | _ => rw [h] at a; exact a.elim
 | _ => exact a
def AfL (Γ : Gm) (φ : List Addr) (st : Sto) (H : Hp) (r : Res (List W)) (Q : List V → Hp → Prop) : Prop :=
 match r with
 | .ok ws st' => ∀ vs H' φ', RWs Γ φ' st' H' ws vs → Pt Γ φ st H φ' st' H' → Q vs H'
 | _ => False
def AfD (Γ : Gm) (φ : List Addr) (st : Sto) (H : Hp) (r : Res (List T)) (Q : List V → Hp → Prop) : Prop :=
 match r with
 | .ok ts st' => ∀ vs H' φ', Rps Γ.K (Live φ' st') H' ts vs → Pt Γ φ st H φ' st' H' → Q vs H'
 | _ => False
end
def tA (Γ : Gm) (F : FT) (es : List E) : TA := fun σ H Q => ∃ φ st ρ, En Γ φ st H ρ σ ∧ Rl Γ φ st H ∧ AfL Γ φ st H (evEs F Γ.G es ρ st) Q
def tD (Γ : Gm) (F : FT) (es : List E) : TA := fun σ H Q => ∃ φ st ρ, En Γ φ st H ρ σ ∧ Rl Γ φ st H ∧ AfD Γ φ st H (evTs F Γ.G es ρ st) Q
theorem _root_.L2.PA.imp (h : PA X es t) (i : ∀ σ H Q, u σ H Q → t σ H Q) : PA X es u := fun pos pins s σ H Q I q => h _ _ s σ H Q I (i σ H Q q)
section
variable {Γ : Gm} {F : FT} {X : Cx}
theorem pa_nilS : PA X [] (tA Γ F []) := L2.PA.imp pa_nil fun σ H Q ⟨φ, st, ρ, en, rl, af⟩ => af [] H φ rfl (Pt.refl rl)
theorem pa_consS {e} {es} (h : PE X x (tE Γ F e)) (hs : PA X xs (tA Γ F es)) (hx : starEach (x :: xs) X.env = (false, eval x X.env) :: starEach xs X.env) : PA X (x :: xs) (tA Γ F (e :: es)) := by
 refine L2.PA.imp (pa_cons h hs hx) ?_
 rintro σ H Q ⟨φ, st, ρ, en, rl, af⟩
 refine ⟨φ, st, ρ, en, rl, ?_⟩
 simp only [evEs] at af
 cases h1 : evE F _ e ρ st with
 | ok w st1 =>
  rw [h1] at af
  intro v H1 φ1 rw1 pt
  refine ⟨φ1, st1, ρ, en.step pt, pt.rl, ?_⟩
  simp only [Res.bind] at af
  cases h2 : evEs F _ es ρ _ with
  | ok ws st2 =>
   rw [h2] at af
   intro vs H2 φ2 rws pt2
   exact af _ H2 _ ⟨v, vs, rfl, rw1.step pt2, rws⟩ (pt.trans pt2)
  | _ => rw [h2] at af; exact af.elim
 | _ => rw [h1] at af; exact af.elim
theorem pd_nilS : PA X [] (tD Γ F []) := L2.PA.imp pa_nil fun σ H Q ⟨φ, st, ρ, en, rl, af⟩ => af [] H φ rfl (Pt.refl rl)
theorem pd_consS {e} {es} (h : PE X x (tE Γ F e)) (hs : PA X xs (tD Γ F es)) (hx : starEach (x :: xs) X.env = (false, eval x X.env) :: starEach xs X.env) : PA X (x :: xs) (tD Γ F (e :: es)) := by
 refine L2.PA.imp (pa_cons h hs hx) ?_
 rintro σ H Q ⟨φ, st, ρ, en, rl, af⟩
 refine ⟨φ, st, ρ, en, rl, ?_⟩
 simp only [evTs] at af
 cases h1 : evE F _ e ρ st with
 | ok w st1 =>
  rw [h1] at af
  intro v H1 φ1 rw1 pt
  simp only [Res.bind] at af
  cases h3 : frzTo _ w _ with
  | ok t st3 =>
   rw [h3] at af
   obtain ⟨φ3, p3, r3⟩ := frz_ok rl.len pt rw1 h3
   refine ⟨φ3, st3, ρ, en.step p3, p3.rl, ?_⟩
   simp only at af
   cases h2 : evTs F _ es ρ _ with
   | ok ws st2 =>
    rw [h2] at af
    intro vs H2 φ2 rws pt2
    exact af _ H2 _ ⟨v, vs, rfl, Rp.step pt2.stp r3, rws⟩ (p3.trans pt2)
   | _ => rw [h2] at af; exact af.elim
  | _ => rw [h3] at af; exact af.elim
 | _ => rw [h1] at af; exact af.elim
theorem tup_ok {pos} (h : PA X xs (tD Γ F es)) : PE X (.Tuple xs k pos) (tE Γ F (.tup es)) := by
 refine L2.PE.imp (pe_tup h) ?_
 rintro σ H Q ⟨φ, st, ρ, en, rl, af⟩
 refine ⟨φ, st, ρ, en, rl, ?_⟩
 simp only [evE] at af
 cases h1 : evTs F _ es ρ st with
 | ok ts st1 =>
  rw [h1] at af
  intro vs H1 φ1 rs pt
  simp only [Res.bind] at af
  split at af
  · rename_i hz
    exact ⟨by rw [rs.length]; exact Nat.le_trans hz lim_line, Af.tup (Af.re af pt) pt.rl rs⟩
  · exact af.elim
 | _ => rw [h1] at af; exact af.elim
theorem lst_ok (h : PA X xs (tD Γ F es)) : PE X (.List xs pos) (tE Γ F (.lst es)) := by
 refine L2.PE.imp (pe_lst h) ?_
 rintro σ H Q ⟨φ, st, ρ, en, rl, af⟩
 refine ⟨φ, st, ρ, en, rl, ?_⟩
 simp only [evE] at af
 cases h1 : evTs F _ es ρ st with
 | ok ts st1 =>
  rw [h1] at af
  intro vs H1 φ1 rs pt
  simp only [Res.bind] at af
  split at af
  · rename_i hz
    exact ⟨by rw [rs.length]; exact Nat.le_trans hz lim_line, Af.lst (Af.re af pt) pt.rl rs⟩
  · exact af.elim
 | _ => rw [h1] at af; exact af.elim
theorem at_rps {K} {L} {H} {xs} {vs} {i} {t} (r : Rps K L H xs vs) (h : atI xs i = some t) : ∃ v, atI vs i = some v ∧ Rp K L H t v := by
 unfold atI at h ⊢
 rw [r.length]
 cases q : ixN _ i with
 | none => rw [q] at h; cases h
 | some j => rw [q] at h; exact r.get h
theorem ix_s : OpS Γ (rIx Γ.K) ixW := by
 intro φ st H x y v u Q rl rx ry af
 unfold ixW at af
 cases h1 : look x st with
 | none => rw [h1] at af; exact af.elim
 | some t =>
  cases h2 : look y st with
  | none => rw [h1, h2] at af; cases t <;> exact af.elim
  | some t' =>
   rw [h1, h2] at af
   cases t' with
   | int i =>
    cases t with
    | tup xs =>
     obtain ⟨a, vs, rfl, q1, r1⟩ := rx.tup rl h1
     cases h3 : atI xs i with
     | none => simp only [h3] at af; exact af.elim
     | some t =>
      simp only [h3] at af
      obtain ⟨v, e, r⟩ := at_rps r1 h3
      exact .inr (.inl ⟨a, vs, i, v, rfl, ry.int rl h2, q1, e, af.now rl r⟩)
    | lst xs =>
     obtain ⟨a, vs, rfl, q1, r1⟩ := rx.lst rl h1
     cases h3 : atI xs i with
     | none => simp only [h3] at af; exact af.elim
     | some t =>
      simp only [h3] at af
      obtain ⟨v, e, r⟩ := at_rps r1 h3
      exact .inl ⟨a, vs, i, v, rfl, ry.int rl h2, q1, e, af.now rl r⟩
    | str z =>
     simp only at af
     split at af
     · rename_i hz
       cases h3 : atI z.cps.toList i with
       | none => simp only [h3] at af; exact af.elim
       | some c =>
        simp only [h3] at af
        exact .inr (.inr ⟨z, i, c, rx.str rl h1, ry.int rl h2, Nat.le_trans hz lim_line, h3, af.now rl rfl⟩)
     · exact af.elim
    | _ => exact af.elim
   | _ => cases t <;> exact af.elim
theorem ix_okS {a b} {pos} (hK : X.K = Γ.K) (ha : PE X x (tE Γ F a)) (hb : PE X y (tE Γ F b)) (hs : PlainIx y) : PE X (.Subscript x y pos) (tE Γ F (.ix a b)) := by
 have r : IxR X (rIx Γ.K) := by rw [← hK]; exact ix_seq
 exact L2.PE.imp (pe_ix r ha hb hs) (two (fun _ _ => rfl) ix_s)
theorem _root_.L2.Rps.cut {K} {L} {H} {xs} {vs} (r : Rps K L H xs vs) (lo hi : Option _) : Rps K L H (cutT xs lo hi) (cutV vs lo hi) := by
 unfold cutT cutV
 rw [r.length]
 exact (r.drop _).take _
def rSlK (K : PySem.W.Frag) : V → Option Int → Option Int → Hp → VK → Prop := fun x lo hi H Q => rSlT K x lo hi H Q ∨ rSlL K x lo hi H Q ∨ rSlS x lo hi H Q
theorem sl_s {st} {H} {x} {v} {lo hi} {Q} (rl : Rl Γ φ st H) (rx : RW Γ φ st H x v) (af : Af Γ φ st H (slW x lo hi st) Q) : rSlK Γ.K v lo hi H Q := by
 unfold slW at af
 cases h1 : look x st with
 | none => rw [h1] at af; exact af.elim
 | some t =>
  rw [h1] at af
  cases t with
  | tup xs =>
   simp only at af
   split at af
   · exact af.elim
   · rename_i hn
     obtain ⟨a, vs, rfl, q1, r1⟩ := rx.tup rl h1
     exact .inl ⟨a, vs, rfl, q1, by rw [r1.length]; exact hn, af.tup rl (r1.cut lo hi)⟩
  | lst xs =>
   obtain ⟨a, vs, rfl, q1, r1⟩ := rx.lst rl h1
   exact .inr (.inl ⟨a, vs, rfl, q1, af.lst rl (r1.cut lo hi)⟩)
  | str z =>
   simp only at af
   split at af
   · rename_i hz
     exact .inr (.inr ⟨z, rx.str rl h1, Nat.le_trans hz lim_line, af.now rl rfl⟩)
   · exact af.elim
  | _ => exact af.elim
def AfO (Γ : Gm) (φ : List Addr) (st : Sto) (H : Hp) (r : Res (Option Int)) (Q : Option Int → Hp → Prop) : Prop :=
 match r with
 | .ok o st' => ∀ H' φ', Pt Γ φ st H φ' st' H' → Q o H'
 | _ => False
def tO (Γ : Gm) (F : FT) (e : Option E) : TO := fun σ H Q => ∃ φ st ρ, En Γ φ st H ρ σ ∧ Rl Γ φ st H ∧ AfO Γ φ st H (evO F Γ.G e ρ st) Q
theorem po_noneS : PO X none (tO Γ F none) := fun pins s σ H Q I ⟨φ, st, ρ, en, rl, af⟩ => po_none _ s σ H Q I (af H φ (Pt.refl rl))
theorem po_someS (h : PE X x (tE Γ F e)) : PO X (some x) (tO Γ F (some e)) := fun pins s σ H Q I ⟨φ, st, ρ, en, rl, af⟩ => po_some h _ s σ H Q I (by
 refine ⟨φ, st, ρ, en, rl, ?_⟩
 simp only [evO] at af
 cases h1 : evE F _ e ρ st with
 | ok w st1 =>
  rw [h1] at af
  intro v H1 φ1 rw1 pt
  simp only [Res.bind] at af
  cases h2 : look w st1 with
  | none => simp only [h2] at af; exact af.elim
  | some t =>
   simp only [h2] at af
   cases t with
   | int i => exact ⟨i, rw1.int pt.rl h2, af H1 _ pt⟩
   | _ => exact af.elim
 | exc _ _ _ => rw [h1] at af; exact af.elim
 | bad => rw [h1] at af; exact af.elim)
theorem sl_okS {lo hi} {a} {l h} {pos p2} (hK : X.K = Γ.K) (ha : PE X x (tE Γ F a)) (hl : PO X lo (tO Γ F l)) (hh : PO X hi (tO Γ F h)) : PE X (.Subscript x (.Slice lo hi none p2) pos) (tE Γ F (.sl a l h)) := by
 have r : SlR X (rSlK Γ.K) := by rw [← hK]; exact sl_tup.or (sl_list.or sl_str)
 refine L2.PE.imp (pe_slice r ha hl hh) ?_
 rintro σ H Q ⟨φ, st, ρ, en, rl, af⟩
 refine ⟨φ, st, ρ, en, rl, af.bind.mono fun v H1 ⟨w, st1, φ1, rw1, pt, af1⟩ => ⟨φ1, st1, ρ, en.step pt, pt.rl, ?_⟩⟩
 cases h1 : evO F _ l ρ _ with
 | ok o st2 =>
  rw [h1] at af1
  intro H2 φ2 pt2
  have af2 := Af.re af1 pt2
  simp only [Res.bind] at af2
  refine ⟨φ2, st2, ρ, (en.step pt).step pt2, pt2.rl, ?_⟩
  cases h2 : evO F _ h ρ _ with
  | ok o' st3 =>
   rw [h2] at af2
   intro H3 φ3 pt3
   exact sl_s pt3.rl ((rw1.step pt2).step pt3) (Af.re af2 pt3)
  | _ => rw [h2] at af2; exact af2.elim
 | _ => rw [h1] at af1; exact af1.elim
def spF (Γ : Gm) (F : FT) (f n : Nat) : Sp := fun vs H Q _ => ∃ φ st ws, Rl Γ φ st H ∧ RWs Γ φ st H ws vs ∧ ws.length = n ∧ Af Γ φ st H (F f ws st) Q
theorem call_imp {f n} {es} (hn : es.length = n) (hF : True) : ∀ σ H Q, tE Γ F (.call f es) σ H Q → tCall (spF Γ F f n) [] E0 (tA Γ F es) σ H Q := by
 rintro σ H Q ⟨φ, st, ρ, en, rl, af⟩
 refine ⟨φ, st, ρ, en, rl, ?_⟩
 simp only [evE] at af
 cases h1 : evEs F _ es ρ st with
 | ok ws st1 =>
  rw [h1] at af
  intro vs H1 φ1 rws pt
  have hl : ∀ (es : List E) (ρ : Rho) (st st1 : Sto) (ws : List W), evEs F Γ.G es ρ st = .ok ws st1 → ws.length = es.length := by
   intro es
   induction es with
   | nil => intro ρ st st1 ws h; cases h; rfl
   | cons e es ih =>
    intro ρ st st1 ws h
    simp only [evEs] at h
    cases h1 : evE F _ e ρ st with
    | ok w st2 =>
     rw [h1] at h
     simp only [Res.bind] at h
     cases h2 : evEs F _ es ρ _ with
     | ok ws' st3 => rw [h2] at h; cases h; rw [List.length_cons, List.length_cons, ih _ _ _ _ h2]
     | _ => rw [h2] at h; cases h
    | _ => rw [h1] at h; cases h
  rw [List.append_nil]
  exact ⟨φ1, st1, ws, pt.rl, rws, by rw [hl _ _ _ _ _ h1, hn], Af.re af pt⟩
 | _ => rw [h1] at af; exact af.elim
end
end I
end
section
namespace I
open PySem L2 PySem.Spec PyProof.Rows
def tG (Γ : Gm) (t : Tg) : TG := fun v σ H Q => ∃ φ st ρ w ρ', En Γ φ st H ρ σ ∧ Rl Γ φ st H ∧ RW Γ φ st H w v ∧ bindW t w ρ = some ρ' ∧ ∀ σ', En Γ φ st H ρ' σ' → Q σ' H
theorem _root_.L2.PG.imp (h : PG X e t) (i : ∀ v σ H Q, u v σ H Q → t v σ H Q) : PG X e u := fun pins s σ H v w Q I r q => h _ s σ H v w Q I r (i v σ H Q q)
section
variable {Γ : Gm} {X : Cx}
theorem g_name (hN : X.N.Nodup) (hi : X.N[i]? = some x) (hx : Loc X.env.scope x) (hf : X.fn x = true ∨ X.env.scope.names.lookup x = some .local) : PG X (.Name x pos) (tG Γ (.nm i)) := by
 refine L2.PG.imp (pg_name hN hi hx hf) ?_
 rintro v σ H Q ⟨φ, st, ρ, w, ρ', en, rl, rw1, hb, q⟩
 obtain ⟨_, rfl⟩ := opt_if hb
 exact q _ (en.set rw1)
def gNames : List Nat → TGs
 | [] => gNil
 | i :: is => gCons (gName i) (gNames is)
def nmsOk (X : Cx) : List Nat → List Expr → Prop
 | [], [] => True
 | i :: is, .Name x _ :: es => (X.N[i]? = some x ∧ Loc X.env.scope x ∧ (X.fn x = true ∨ X.env.scope.names.lookup x = some .local)) ∧ nmsOk X is es
 | _, _ => False
theorem gs_names (hN : X.N.Nodup) : ∀ {is} {es}, nmsOk X is es → PGs X es (gNames is) ∧ (assignEach es X.env).length = is.length ∧ (assignEach es X.env).findIdx? (·.1) = none
 | [], [], _ => ⟨pgs_nil, rfl, rfl⟩
 | [], _ :: _, h => h.elim
 | _ :: _, [], h => h.elim
 | i :: is, e :: es, h => by
  cases e <;> first | exact h.elim | skip
  obtain ⟨a, b, c⟩ := gs_names hN h.2
  refine ⟨pgs_cons (pg_name hN h.1.1 h.1.2.1 h.1.2.2) a rfl, ?_, ?_⟩
  · show (assignEach es _).length + 1 = is.length + 1
    rw [b]
  · show List.findIdx? _ ((false, assign _ _) :: assignEach es _) = none
    grind
theorem names_set {st} {H} {Q} : ∀ {is} {xs} {vs} {ρ} {σ}, is.length = xs.length → Rps Γ.K (Live φ st) H xs vs → En Γ φ st H ρ σ →
 (∀ σ', En Γ φ st H ((is.zip xs).foldl (fun ρ p => ρ.set p.1 (some (.d p.2))) ρ) σ' → Q σ' H) → gNames is vs σ H Q
 | [], [], vs, ρ, σ, _, r, en, q => ⟨r, q σ en⟩
 | i :: is, x :: xs, vs, ρ, σ, hl, r, en, q => by
  obtain ⟨v, rs, rfl, r1, r2⟩ := r
  refine ⟨v, rs, rfl, ?_⟩
  exact names_set (by simpa using hl) r2 (en.set (w := .d x) r1) q
 | [], _ :: _, _, _, _, hl, _, _, _ => by simp at hl
 | _ :: _, [], _, _, _, hl, _, _, _ => by simp at hl
theorem g_tup {pos} (hK : X.K = Γ.K) (hc : X.calm = true) (hN : X.N.Nodup) (h : nmsOk X is es) : PG X (.Tuple es k pos) (tG Γ (.tp is)) := by
 obtain ⟨a, b, c⟩ := gs_names hN h
 refine L2.PG.imp (pgK_tup hK hc a b c) ?_
 rintro v σ H Q ⟨φ, st, ρ, w, ρ', en, rl, rw1, hb, q⟩
 cases w with
 | ref k => cases hb
 | d t =>
  cases t with
  | tup xs =>
   obtain ⟨⟨h1, h2⟩, rfl⟩ := opt_if hb
   obtain ⟨p, vs, rfl, h3, h4⟩ := rw1
   exact ⟨p, vs, rfl, h3.sq, by rw [h4.length, h1], names_set h1 h4 en q⟩
  | _ => cases hb
theorem g_nt {i : Nat} {is : List Nat} {x : Str} {es : List Expr} {k k2 : Nat} {p p2 pos : Pos} (hK : X.K = Γ.K) (hc : X.calm = true) (hN : X.N.Nodup) (h0 : X.N[i]? = some x ∧ Loc X.env.scope x ∧ (X.fn x = true ∨ X.env.scope.names.lookup x = some .local)) (h : nmsOk X is es) : PG X (.Tuple [.Name x p, .Tuple es k2 p2] k pos) (tG Γ (.nt i is)) := by
 obtain ⟨a, b, c⟩ := gs_names hN h
 refine L2.PG.imp (pgK_tup (n := 2) hK hc (pgs_cons (pg_name hN h0.1 h0.2.1 h0.2.2) (pgs_cons (pgK_tup hK hc a b c) pgs_nil rfl) rfl) rfl rfl) ?_
 rintro v σ H Q ⟨φ, st, ρ, w, ρ', en, rl, rw1, hb, q⟩
 cases w with
 | ref k => cases hb
 | d t =>
  match t, hb with
  | .tup [u, .tup ys], hb =>
   obtain ⟨⟨h1, h2⟩, rfl⟩ := opt_if (show (if is.length = ys.length ∧ (i :: is).all (· < ρ.length) = true then some _ else none) = some ρ' from hb)
   obtain ⟨a1, vs, rfl, h3, v1, r1, rfl, r2, v2, r3, rfl, r4, r5⟩ := rw1
   cases (show r3 = [] from r5)
   obtain ⟨a2, us, rfl, h5, h6⟩ := r4
   exact ⟨a1, _, rfl, h3.sq, rfl, v1, _, rfl, .ref a2, _, rfl, a2, us, rfl, h5.sq, by rw [h6.length, h1], names_set h1 h6 (en.set (w := .d u) r2) fun σ' en' => ⟨rfl, q σ' en'⟩⟩
end
def Wk (Γ : Gm) (J : L2.It) (xs : List T) (gs : List (Nat × List T)) (φ0 : List Addr) (st0 : Sto) (H0 : Hp) : Prop :=
 ∀ φ st H, Pt Γ φ0 st0 H0 φ st H → stay gs st = true → (∀ (i : Nat) t, xs[i]? = some t → J.go i H ∧ ∀ v H', J.yld i H v H' → Pt Γ φ st H φ st H' ∧ Rp Γ.K (Live φ st) H' t v) ∧ J.stop xs.length H
mutual
theorem beqT_eq : ∀ {a b}, beqT a b = true → a = b
 | .non, .non, _ => rfl
 | .bl a, .bl b, h => by rw [eq_of_beq (h)]
 | .int a, .int b, h => by rw [eq_of_beq (h)]
 | .str a, .str b, h => by rw [eq_of_beq (show (a == b) = true from h)]
 | .tup a, .tup b, h => by rw [beqTs_eq h]
 | .lst a, .lst b, h => by rw [beqTs_eq h]
 | .ins a, .ins b, h => by rw [of_decide_eq_true (h)]
 | .non, .bl _, h => by cases h
 | .non, .int _, h => by cases h
 | .non, .str _, h => by cases h
 | .non, .tup _, h => by cases h
 | .non, .lst _, h => by cases h
 | .bl _, .non, h => by cases h
 | .bl _, .int _, h => by cases h
 | .bl _, .str _, h => by cases h
 | .bl _, .tup _, h => by cases h
 | .bl _, .lst _, h => by cases h
 | .int _, .non, h => by cases h
 | .int _, .bl _, h => by cases h
 | .int _, .str _, h => by cases h
 | .int _, .tup _, h => by cases h
 | .int _, .lst _, h => by cases h
 | .str _, .non, h => by cases h
 | .str _, .bl _, h => by cases h
 | .str _, .int _, h => by cases h
 | .str _, .tup _, h => by cases h
 | .str _, .lst _, h => by cases h
 | .tup _, .non, h => by cases h
 | .tup _, .bl _, h => by cases h
 | .tup _, .int _, h => by cases h
 | .tup _, .str _, h => by cases h
 | .tup _, .lst _, h => by cases h
 | .lst _, .non, h => by cases h
 | .lst _, .bl _, h => by cases h
 | .lst _, .int _, h => by cases h
 | .lst _, .str _, h => by cases h
 | .lst _, .tup _, h => by cases h
 | .non, .ins _, h => by cases h
 | .ins _, .non, h => by cases h
 | .bl _, .ins _, h => by cases h
 | .ins _, .bl _, h => by cases h
 | .int _, .ins _, h => by cases h
 | .ins _, .int _, h => by cases h
 | .str _, .ins _, h => by cases h
 | .ins _, .str _, h => by cases h
 | .tup _, .ins _, h => by cases h
 | .ins _, .tup _, h => by cases h
 | .lst _, .ins _, h => by cases h
 | .ins _, .lst _, h => by cases h
theorem beqTs_eq : ∀ {a b}, beqTs a b = true → a = b
 | [], [], _ => rfl
 | x :: xs, y :: ys, h => by
  have h := Bool.and_eq_true_iff.mp h
  rw [beqT_eq h.1, beqTs_eq h.2]
 | [], _ :: _, h => by cases h
 | _ :: _, [], h => by cases h
end
mutual
theorem beqT_refl : ∀ t : T, beqT t t = true
 | .non => rfl
 | .bl b => beq_self_eq_true b
 | .int b => beq_self_eq_true b
 | .str b => beq_self_eq_true b
 | .tup xs => beqTs_refl xs
 | .lst xs => beqTs_refl xs
 | .ins q => decide_eq_true rfl
theorem beqTs_refl : ∀ ts : List T, beqTs ts ts = true
 | [] => rfl
 | t :: ts => Bool.and_eq_true_iff.mpr ⟨beqT_refl t, beqTs_refl ts⟩
end
theorem stay_at {st} (h : stay gs st = true) {k} {xs} (hm : (k, xs) ∈ gs) : st[k]? = some (some xs) := by
 have := List.all_eq_true.mp h _ hm
 split at this
 · rename_i ys e
   rw [e, beqTs_eq this]
 · cases this
inductive Sq (Γ : Gm) (φ : List Addr) (st : Sto) (H : Hp) : W → V → List T → List (Nat × List T) → Prop
 | tup {xs a vs} (h : TupAt Γ.K (Live φ st) H a vs) (r : Rps Γ.K (Live φ st) H xs vs) : Sq Γ φ st H (.d (.tup xs)) (.ref a) xs []
 | lst {xs a vs} (h : LstAt Γ.K (Live φ st) H a vs) (r : Rps Γ.K (Live φ st) H xs vs) : Sq Γ φ st H (.d (.lst xs)) (.ref a) xs []
 | ref {k : Nat} {xs a} (h : φ[k]? = some a) (e : st[k]? = some (some xs)) : Sq Γ φ st H (.ref k) (.ref a) xs [(k, xs)]
section
variable {Γ : Gm} {φ φ1 : List Addr} {st st1 : Sto} {H H1 : Hp}
theorem sq_of (rl : Rl Γ φ st H) (r : RW Γ φ st H w v) (h : seqW w st = some p) : Sq Γ φ st H w v p.1 p.2 := by
 cases w with
 | d t =>
  cases t with
  | tup xs => cases h; obtain ⟨a, vs, rfl, h1, h2⟩ := r; exact .tup h1 h2
  | lst xs => cases h; obtain ⟨a, vs, rfl, h1, h2⟩ := r; exact .lst h1 h2
  | _ => cases h
 | ref k =>
  obtain ⟨a, e, rfl⟩ := r
  cases q : st[k]? with
  | none => simp [seqW, q] at h
  | some o =>
   cases o with
   | none => simp [seqW, q] at h
   | some xs =>
    simp only [seqW, q, Option.some.injEq] at h
    subst h
    exact .ref e q
theorem Sq.now {gs} (q : Sq Γ φ st H w (.ref a) xs gs) (p : Pt Γ φ st H φ1 st1 H1) (hs : stay gs st1 = true) :
 ∃ vs, (if isTupW w then SqT Γ.K H1 a vs else SqL Γ.K H1 a vs) ∧ Rps Γ.K (Live φ1 st1) H1 xs vs := by
 cases q with
 | tup h r => exact ⟨_, (h.step p.stp).sq, r.step p.stp⟩
 | lst h r => exact ⟨_, (h.step p.stp).sq, r.step p.stp⟩
 | ref h e =>
  obtain ⟨vs, h1, h2⟩ := p.rl.at_ _ _ a (p.pre _ _ h) (stay_at hs (List.mem_singleton.mpr rfl))
  exact ⟨vs, SqL.of h1, h2⟩
end
theorem getElem_map_some {α β : Type} {f : α → β} {xs : List α} {i : Nat} {b} (h : (xs.map f)[i]? = some b) : ∃ a, xs[i]? = some a ∧ f a = b := by simp_all
section
variable {Γ : Gm} {φ : List Addr} {st : Sto} {H : Hp}
theorem rng_get {lo} {n i} {t} (h : (rng lo n)[i]? = some t) : i < n ∧ t = .int (lo + i) := by
 obtain ⟨a, h1, rfl⟩ := getElem_map_some h
 obtain ⟨h2, h3⟩ := List.getElem?_eq_some_iff.mp h1
 rw [List.length_range] at h2
 simp_all
theorem wk_range (lo : Int) (n : Nat) : Wk Γ (Itr lo n) (rng lo n) [] φ st H := fun φ1 st1 H1 p _ => by
 refine ⟨fun i t h => ?_, ?_⟩
 · obtain ⟨h1, rfl⟩ := rng_get h
   refine ⟨h1, fun v H' y => ?_⟩
   obtain ⟨rfl, rfl⟩ := y
   exact ⟨Pt.refl p.rl, rfl⟩
 · show n ≤ (rng lo n).length
   simp [rng]
theorem wk_str {z : Str} : Wk Γ (Its z) (chars z) [] φ st H := fun φ1 st1 H1 p _ => by
 have hl : z.cps.toList.length = z.length := by simp [Str.length]
 refine ⟨fun i t h => ?_, ?_⟩
 · obtain ⟨c, h1, rfl⟩ := getElem_map_some h
   have h2 := (List.getElem?_eq_some_iff.mp h1).1
   rw [hl] at h2
   refine ⟨h2, fun v H' y => ?_⟩
   obtain ⟨rfl, c', e, rfl⟩ := y
   refine ⟨Pt.refl p.rl, ?_⟩
   have : some c' = some c := by rw [← e, ← h1]; simp
   cases this
   rfl
 · show z.length ≤ (chars z).length
   rw [← hl]
   simp [chars]
end
theorem wk_seq {st} {H} {w} {a} {xs} {gs} (q : Sq Γ φ st H w (.ref a) xs gs) : Wk Γ (if isTupW w then Itt Γ.K a else Itl Γ.K a) xs gs φ st H := fun φ1 st1 H1 p hs => by
 obtain ⟨vs, h1, h2⟩ := q.now p hs
 cases hw : isTupW w with
 | true =>
  rw [hw] at h1
  refine ⟨fun i t h => ?_, ⟨vs, h1, by rw [h2.length]; exact Nat.le_refl _⟩⟩
  obtain ⟨v, e, r⟩ := h2.get h
  refine ⟨⟨vs, v, h1, e⟩, fun u H' y => ?_⟩
  obtain ⟨rfl, y⟩ := y
  have := y vs h1
  rw [e] at this; cases this
  exact ⟨Pt.refl p.rl, r⟩
 | false =>
  rw [hw] at h1
  refine ⟨fun i t h => ?_, ⟨vs, h1, by rw [h2.length]; exact Nat.le_refl _⟩⟩
  obtain ⟨v, e, r⟩ := h2.get h
  refine ⟨⟨vs, v, h1, e⟩, fun u H' y => ?_⟩
  obtain ⟨rfl, y⟩ := y
  have := y vs h1
  rw [e] at this; cases this
  exact ⟨Pt.refl p.rl, r⟩
theorem rp_pair {st} {H} {x y} {v u} {p} (rl : Rl Γ φ st H) (hp : H p = none) (r1 : Rp Γ.K (Live φ st) H x v) (r2 : Rp Γ.K (Live φ st) H y u) :
 Pt Γ φ st H φ st (upd H p (.tup [v, u])) ∧ Rp Γ.K (Live φ st) (upd H p (.tup [v, u])) (.tup [x, y]) (.ref p) := by
 have b := rl.beside (o := .tup [v, u]) hp
 refine ⟨b, p, _, rfl, .inl ⟨.inl upd_same, ?_⟩, v, [u], rfl, Rp.step b.stp r1, u, [], rfl, Rp.step b.stp r2, rfl⟩
 rintro ⟨k, ys, e1, e2⟩
 obtain ⟨_, h1, _⟩ := rl.at_ k ys p e1 e2
 rw [hp] at h1; cases h1
theorem wk_enum {Γ : Gm} {φ : List Addr} {st : Sto} {H : Hp} {w : W} {a : Addr} {xs : List T} {gs : List (Nat × List T)} (q : Sq Γ φ st H w (.ref a) xs gs) : Wk Γ (Ite fun H xs => SqB Γ.K (isTupW w) H a xs) (xs.zipIdx.map fun q => .tup [.int q.2, q.1]) gs φ st H := fun φ1 st1 H1 p hs => by
 obtain ⟨vs, h1, h2⟩ := q.now p hs
 refine ⟨fun i t h => ?_, ⟨vs, h1, by rw [h2.length]; simp⟩⟩
 obtain ⟨⟨x, j⟩, e1, rfl⟩ := getElem_map_some h
 rw [List.getElem?_zipIdx] at e1
 cases e2 : xs[i]? with
 | none => rw [e2] at e1; cases e1
 | some y =>
  rw [e2] at e1
  simp only [Option.map_some, Option.some.injEq, Prod.mk.injEq, Nat.zero_add] at e1
  obtain ⟨rfl, rfl⟩ := e1
  obtain ⟨v, e, r⟩ := h2.get e2
  refine ⟨⟨vs, v, h1, e⟩, fun u H' y => ?_⟩
  obtain ⟨b, v', hb, rfl, hv, rfl⟩ := y
  have := hv vs h1
  rw [e] at this; cases this
  exact rp_pair p.rl hb rfl r
theorem wk_zip {Γ : Gm} {φ : List Addr} {st : Sto} {H : Hp} {w w' : W} {a b : Addr} {xs ys : List T} {gs gs' : List (Nat × List T)} (q : Sq Γ φ st H w (.ref a) xs gs) (q' : Sq Γ φ st H w' (.ref b) ys gs') (hw : isTupW w = isTupW w') :
 Wk Γ (Itz (fun H xs => SqB Γ.K (isTupW w) H a xs) (fun H ys => SqB Γ.K (isTupW w) H b ys)) ((xs.zip ys).map fun z => .tup [z.1, z.2]) (gs ++ gs') φ st H := fun φ1 st1 H1 p hs => by
 have hs1 : stay gs st1 = true := by unfold stay at hs ⊢; rw [List.all_append, Bool.and_eq_true] at hs; exact hs.1
 have hs2 : stay gs' st1 = true := by unfold stay at hs ⊢; rw [List.all_append, Bool.and_eq_true] at hs; exact hs.2
 obtain ⟨vs, h1, h2⟩ := q.now p hs1
 obtain ⟨us, g1, g2⟩ := q'.now p hs2
 rw [← hw] at g1
 refine ⟨fun i t h => ?_, ⟨vs, us, h1, g1, by rw [h2.length, g2.length, List.length_map, List.length_zip]; omega⟩⟩
 obtain ⟨⟨x, y⟩, e1, rfl⟩ := getElem_map_some h
 rw [List.getElem?_zip_eq_some] at e1
 obtain ⟨e1, e2⟩ := e1
 obtain ⟨v, e3, r⟩ := h2.get e1
 obtain ⟨u, e4, r'⟩ := g2.get e2
 refine ⟨⟨vs, v, us, u, h1, e3, g1, e4⟩, fun z H' y => ?_⟩
 obtain ⟨pp, v', u', hb, rfl, hv, hu, rfl⟩ := y
 have z1 := hv vs h1
 have z2 := hu us g1
 rw [e3] at z1; cases z1
 rw [e4] at z2; cases z2
 exact rp_pair p.rl hb r r'
end I
end
section
namespace I
open PySem L2 PySem.Spec PyProof.Rows
def AfI (Γ : Gm) (φ : List Addr) (st : Sto) (H : Hp) (k : Ik) (r : Res (List W)) (R : L2.It → Hp → Prop) : Prop :=
 match r with
 | .ok ws st' => match items k ws st' with
  | some p => ∀ J H' φ', Pt Γ φ st H φ' st' H' → Wk Γ J p.1 p.2 φ' st' H' → R J H'
  | none => False
 | _ => False
def tI (Γ : Gm) (F : FT) (k : Ik) (src : List E) : TI := fun σ H R => ∃ φ st ρ, En Γ φ st H ρ σ ∧ Rl Γ φ st H ∧ AfI Γ φ st H k (evEs F Γ.G src ρ st) R
section
variable {Γ : Gm} {F : FT} {X : Cx}
theorem evEs_one {st} {G} : evEs F G [e] ρ st = (evE F G e ρ st).bind fun w st => .ok [w] st := rfl
theorem sq_ref {st} {H} {w} {v} {xs} {gs} (q : Sq Γ φ st H w v xs gs) : ∃ a, v = .ref a := by
 cases q <;> exact ⟨_, rfl⟩
theorem Sq.isB {φ : List Addr} {st : Sto} {H : Hp} {w : W} {a : Addr} {xs : List T} {gs : List (Nat × List T)} (rl : Rl Γ φ st H) (q : Sq Γ φ st H w (.ref a) xs gs) : ∃ vs, SqB Γ.K (isTupW w) H a vs := by
 cases q with
 | tup h r => exact ⟨_, h.sq⟩
 | lst h r => exact ⟨_, h.sq⟩
 | ref h e => obtain ⟨vs, z, _⟩ := rl.at_ _ _ a h e; exact ⟨vs, SqL.of z⟩
theorem items_seq {w : W} {st : Sto} {p : List T × List (Nat × List T)} (h : items .seq [w] st = some p) : (∃ z, w = .d (.str z) ∧ z.length ≤ LIM ∧ p = (chars z, [])) ∨ seqW w st = some p := by
 cases w with
 | ref k => exact .inr h
 | d t =>
  cases t with
  | str z =>
   obtain ⟨h1, rfl⟩ := opt_if (show (if z.length ≤ LIM then some _ else none) = some p from h)
   exact .inl ⟨z, rfl, h1, rfl⟩
  | _ => exact .inr h
theorem i_seq {tg x : Expr} {e : E} (hK : X.K = Γ.K) (h : PE X x (tE Γ F e)) : PI X tg x (tI Γ F .seq [e]) := by
 rintro pins s σ H R I ⟨φ, st, ρ, en, rl, af⟩
 rw [evEs_one] at af
 cases h1 : evE F Γ.G e ρ st with
 | ok w st1 =>
  rw [h1] at af
  have af : AfI Γ φ st H .seq (.ok [w] st1) R := af
  unfold AfI at af
  simp only at af
  cases h2 : items .seq [w] st1 with
  | none => rw [h2] at af; exact af.elim
  | some p =>
   rw [h2] at af
   rcases items_seq h2 with ⟨z, rfl, hz, rfl⟩ | h3
   · refine pi_str h pins s σ H R I ⟨φ, st, ρ, en, rl, ?_⟩
     rw [h1]
     intro v H1 φ1 rw1 pt
     exact ⟨z, rw1, af _ H1 φ1 pt wk_str⟩
   · cases hw : isTupW w with
     | true =>
      refine pi_tup h pins s σ H R I ⟨φ, st, ρ, en, rl, ?_⟩
      rw [h1]
      intro v H1 φ1 rw1 pt
      have q := sq_of pt.rl rw1 h3
      obtain ⟨a, rfl⟩ := sq_ref q
      have wk := wk_seq q
      have ib := q.isB pt.rl
      rw [hw] at ib
      rw [hw, if_pos rfl, ← hK] at wk
      exact ⟨a, rfl, by rw [hK]; exact ib, af _ H1 φ1 pt wk⟩
     | false =>
      refine pi_list h pins s σ H R I ⟨φ, st, ρ, en, rl, ?_⟩
      rw [h1]
      intro v H1 φ1 rw1 pt
      have q := sq_of pt.rl rw1 h3
      obtain ⟨a, rfl⟩ := sq_ref q
      have wk := wk_seq q
      have ib := q.isB pt.rl
      rw [hw] at ib
      rw [hw, if_neg Bool.false_ne_true, ← hK] at wk
      exact ⟨a, rfl, by rw [hK]; exact ib, af _ H1 φ1 pt wk⟩
 | _ => rw [h1] at af; exact af.elim
theorem items_rng1 {st} {q} (h : items .rng1 ws st = some q) : ∃ n : Int, ws = [.d (.int n)] ∧ (-LIM ≤ n ∧ n ≤ LIM) ∧ q = (rng 0 n.toNat, []) := by
 rcases ws with _ | ⟨w, _ | ⟨u, _ | ⟨_, _⟩⟩⟩ <;> first | (cases h) | skip
 cases w with
 | ref k => cases h
 | d t =>
  cases t with
  | int n => obtain ⟨hn, rfl⟩ := opt_if h; exact ⟨n, rfl, hn, rfl⟩
  | _ => cases h
theorem i_rng1 {tg x} {e} {p pos} (hg : Gl X "range") (hm : X.mg "range" = none) (ha : PA X [x] (tA Γ F [e])) (hs : starEach [x] X.env = [(false, eval x X.env)]) : PI X tg (.Call (.Name "range" p) [x] [] pos) (tI Γ F .rng1 [e]) := by
 rintro pins s σ H R I ⟨φ, st, ρ, en, rl, af⟩
 refine pi_range1 hg hm ha hs _ s σ H R I ⟨φ, st, ρ, en, rl, ?_⟩
 cases h1 : evEs F _ _ ρ st with
 | ok ws st1 =>
  rw [h1] at af
  unfold AfI at af
  simp only at af
  cases h2 : items .rng1 ws st1 with
  | none => simp_all
  | some q =>
   rw [h2] at af
   obtain ⟨n, rfl, hn, rfl⟩ := items_rng1 h2
   intro vs H1 φ1 rws pt
   obtain ⟨v, r, rfl, rv, rr⟩ := rws
   cases rr
   cases rv
   have hb : LIM = 1000000 := rfl
   exact ⟨n, rfl, by omega, by omega, af _ H1 _ pt (wk_range 0 _)⟩
 | _ => rw [h1] at af; exact af.elim
theorem items_enm : ∀ {ws} {st} {q}, items .enm ws st = some q → ∃ w p, ws = [w] ∧ seqW w st = some p ∧ q = (p.1.zipIdx.map fun q => .tup [.int q.2, q.1], p.2)
 | [], _, _, h => by cases h
 | [_, _], _, _, h => by cases h
 | _ :: _ :: _ :: _, _, _, h => by cases h
 | [w], st, q, h => by
  have h : (seqW w st).map _ = some q := h
  cases h1 : seqW w st with
  | none => rw [h1] at h; cases h
  | some p => rw [h1] at h; cases h; exact ⟨w, p, rfl, h1, rfl⟩
theorem i_enm {elts : List Expr} {x1} {pt0 : Pos} {x : Expr} {e : E} {p pos : Pos} (hK : X.K = Γ.K) (hg : Gl X "enumerate") (hm : X.mg "enumerate" = none) (ha : PA X [x] (tA Γ F [e])) (hs : starEach [x] X.env = [(false, eval x X.env)]) :
 PI X (.Tuple elts x1 pt0) (.Call (.Name "enumerate" p) [x] [] pos) (tI Γ F .enm [e]) := by
 rintro pins s σ H R I ⟨φ, st, ρ, en, rl, af⟩
 cases h1 : evEs F Γ.G [e] ρ st with
 | ok ws st1 =>
  rw [h1] at af
  unfold AfI at af
  simp only at af
  cases h2 : items .enm ws st1 with
  | none => rw [h2] at af; exact af.elim
  | some q =>
   rw [h2] at af
   obtain ⟨w, q, rfl, h3, rfl⟩ := items_enm h2
   refine pi_enum (isTupW w) hg hm ha hs pins s σ H R I ⟨φ, st, ρ, en, rl, ?_⟩
   rw [h1]
   intro vs H1 φ1 rws pt
   obtain ⟨v, r, rfl, rv, rr⟩ := rws
   cases (show r = [] from rr)
   have sq := sq_of pt.rl rv h3
   obtain ⟨a, rfl⟩ := sq_ref sq
   rw [hK]
   exact ⟨a, rfl, sq.isB pt.rl, af _ H1 φ1 pt (wk_enum sq)⟩
 | _ => rw [h1] at af; exact af.elim
theorem items_zp : ∀ {ws} {st} {q}, items .zp ws st = some q → ∃ w u p p', ws = [w, u] ∧ isTupW w = isTupW u ∧ seqW w st = some p ∧ seqW u st = some p' ∧ q = ((p.1.zip p'.1).map fun z => .tup [z.1, z.2], p.2 ++ p'.2)
 | [], _, _, h => by cases h
 | [_], _, _, h => by cases h
 | _ :: _ :: _ :: _, _, _, h => by cases h
 | [w, u], st, q, h => by
  have h : (match seqW w st, seqW u st with
   | some p, some q => if isTupW w = isTupW u then some _ else none
   | _, _ => none) = some q := h
  cases h1 : seqW w st with
  | none => rw [h1] at h; simp at h
  | some p =>
   cases h2 : seqW u st with
   | none => simp_all
   | some p' =>
    rw [h1, h2] at h
    obtain ⟨hn, rfl⟩ := opt_if h
    exact ⟨w, u, p, p', rfl, hn, h1, h2, rfl⟩
theorem i_zp {elts : List Expr} {x1} {pt0 : Pos} {x y : Expr} {e e' : E} {p pos : Pos} (hK : X.K = Γ.K) (hg : Gl X "zip") (hm : X.mg "zip" = none) (ha : PA X [x, y] (tA Γ F [e, e'])) (hs : starEach [x, y] X.env = (false, eval x X.env) :: starEach [y] X.env) (hpl : (backTo pos (starEach [y] X.env)).any (·.1) = false) :
 PI X (.Tuple elts x1 pt0) (.Call (.Name "zip" p) [x, y] [] pos) (tI Γ F .zp [e, e']) := by
 rintro pins s σ H R I ⟨φ, st, ρ, en, rl, af⟩
 cases h1 : evEs F Γ.G [e, e'] ρ st with
 | ok ws st1 =>
  rw [h1] at af
  unfold AfI at af
  simp only at af
  cases h2 : items .zp ws st1 with
  | none => rw [h2] at af; exact af.elim
  | some q =>
   rw [h2] at af
   obtain ⟨w, u, q, q', rfl, hwu, h3, h4, rfl⟩ := items_zp h2
   refine pi_zip (isTupW w) hg hm ha hs hpl pins s σ H R I ⟨φ, st, ρ, en, rl, ?_⟩
   rw [h1]
   intro vs H1 φ1 rws pt
   obtain ⟨v, r, rfl, rv, v', r', rfl, rv', rr⟩ := rws
   cases (show r' = [] from rr)
   have sq := sq_of pt.rl rv h3
   have sq' := sq_of pt.rl rv' h4
   obtain ⟨a, rfl⟩ := sq_ref sq
   obtain ⟨b, rfl⟩ := sq_ref sq'
   rw [hK]
   exact ⟨a, b, rfl, sq.isB pt.rl, hwu ▸ sq'.isB pt.rl, af _ H1 φ1 pt (wk_zip sq sq' hwu)⟩
 | _ => rw [h1] at af; exact af.elim
end
def AfS (Γ : Gm) (φ : List Addr) (st : Sto) (H : Hp) (r : Res (Fl × Rho)) (D : Ends) : Prop :=
 match r with
 | .ok p st' => ∀ σ' H' φ', En Γ φ' st' H' p.2 σ' → Pt Γ φ st H φ' st' H' → (match p.1 with
  | .nx => D.nx σ' H'
  | .bk => D.bk σ' H'
  | .ct => D.ct σ' H'
  | .rt w => ∀ v, RW Γ φ' st' H' w v → D.rt v H')
 | _ => False
def tS (Γ : Gm) (F : FT) (s : S) : TS := fun D σ H => ∃ φ st ρ, En Γ φ st H ρ σ ∧ Rl Γ φ st H ∧ AfS Γ φ st H (evS F Γ.G s ρ st) D
def tSs (Γ : Gm) (F : FT) (s : List S) : TS := fun D σ H => ∃ φ st ρ, En Γ φ st H ρ σ ∧ Rl Γ φ st H ∧ AfS Γ φ st H (evSs F Γ.G s ρ st) D
theorem _root_.L2.PS.imp (h : PS X e t) (i : ∀ D σ H, u D σ H → t D σ H) : PS X e u := fun pins s σ H D I q => h _ s σ H D I (i D σ H q)
theorem _root_.L2.PSs.imp (h : PSs X e t) (i : ∀ D σ H, u D σ H → t D σ H) : PSs X e u := fun pins s σ H D I q => h _ s σ H D I (i D σ H q)
section
variable {Γ : Gm} {φ φ1 : List Addr} {st st1 : Sto} {H H1 : Hp} {F : FT} {X : Cx}
theorem AfS.re (a : AfS Γ φ st H r D) (p : Pt Γ φ st H φ1 st1 H1) : AfS Γ φ1 st1 H1 r D := by
 cases r with
 | ok w st' => exact fun σ' H' φ' en pt => a _ H' _ en (p.trans pt)
 | _ => exact a
theorem AfS.bind {D} (a : AfS Γ φ st H (r.bind f) D) :
 Af Γ φ st H r fun v H1 => ∃ w st1 φ1, RW Γ φ1 st1 H1 w v ∧ Pt Γ φ st H φ1 st1 H1 ∧ AfS Γ φ1 st1 H1 (f w st1) D := by
 cases r with
 | ok w st' => exact fun v H' φ' rw pt => ⟨w, st', φ', rw, pt, AfS.re a pt⟩
 | _ => exact a
theorem s_nil : PSs X [] (tSs Γ F []) := L2.PSs.imp pss_nil fun D σ H ⟨φ, st, ρ, en, rl, af⟩ => af σ H φ en (Pt.refl rl)
theorem s_cons {s} {ss} (h : PS X x (tS Γ F s)) (hs : PSs X xs (tSs Γ F ss)) : PSs X (x :: xs) (tSs Γ F (s :: ss)) := by
 refine L2.PSs.imp (pss_cons h hs) ?_
 rintro D σ H ⟨φ, st, ρ, en, rl, af⟩
 refine ⟨φ, st, ρ, en, rl, ?_⟩
 simp only [evSs] at af
 cases h1 : evS F _ s ρ st with
 | ok p st1 =>
  rw [h1] at af
  obtain ⟨f, ρ'⟩ := p
  intro σ' H' φ' en' pt
  cases f with
  | nx => exact ⟨φ', st1, ρ', en', pt.rl, AfS.re af pt⟩
  | bk => exact af _ H' _ en' pt
  | ct => exact af _ H' _ en' pt
  | rt w => exact af _ H' _ en' pt
 | _ => rw [h1] at af; exact af.elim
theorem s_asg {tg x} {t} {e} {pos} (h : PE X x (tE Γ F e)) (hg : PG X tg (tG Γ t)) (hs : swapsWithSole [tg] x pos.line X.env = pure false) (hw : swappedStores [tg] x X.env = pure none)
 (h1 : (assignEach [tg] X.env).map (·.2) = [assign tg X.env]) : PS X (.Assign [tg] x pos) (tS Γ F (.asg t e)) := by
 refine L2.PS.imp (ps_asg h hg hs hw h1) ?_
 rintro D σ H ⟨φ, st, ρ, en, rl, af⟩
 refine ⟨φ, st, ρ, en, rl, af.bind.mono fun v H1 ⟨w, st1, φ1, rw1, pt, af1⟩ => ?_⟩
 cases hb : bindW t w ρ with
 | none => rw [hb] at af1; exact af1.elim
 | some ρ' =>
  rw [hb] at af1
  exact ⟨φ1, st1, ρ, w, ρ', en.step pt, pt.rl, rw1, hb, fun σ' en' => af1 _ H1 _ en' (Pt.refl pt.rl)⟩
theorem s_ex (h : PE X x (tE Γ F e)) (hs : swapsWith x none pos.line X.env = pure false) : PS X (.Expr x pos) (tS Γ F (.ex e)) := by
 refine L2.PS.imp (ps_expr h hs) ?_
 rintro D σ H ⟨φ, st, ρ, en, rl, af⟩
 simp only [evS] at af
 refine ⟨φ, st, ρ, en, rl, ?_⟩
 cases h1 : evE F _ e ρ st with
 | ok w st1 =>
  rw [h1] at af
  intro v H1 φ1 rw1 pt
  have p2 := pt.cut rl.len
  exact af σ H1 _ (en.step p2) p2
 | _ => rw [h1] at af; exact af.elim
theorem s_ret (h : PE X x (tE Γ F e)) : PS X (.Return (some x) pos) (tS Γ F (.ret e)) := by
 refine L2.PS.imp (ps_ret h) ?_
 rintro D σ H ⟨φ, st, ρ, en, rl, af⟩
 refine ⟨φ, st, ρ, en, rl, af.bind.mono fun v H1 ⟨w, st1, φ1, rw1, pt, af1⟩ => ?_⟩
 exact af1 σ H1 _ (en.step pt) (Pt.refl pt.rl) v rw1
theorem s_retN : PS X (.Return none pos) (tS Γ F .retN) := L2.PS.imp ps_retN fun D σ H ⟨φ, st, ρ, en, rl, af⟩ => af σ H φ en (Pt.refl rl) _ rfl
theorem s_pass : PS X (.Pass pos) (tS Γ F .pass) := L2.PS.imp ps_pass fun D σ H ⟨φ, st, ρ, en, rl, af⟩ => af σ H φ en (Pt.refl rl)
theorem s_brk : PS X (.Break pos) (tS Γ F .brk) := L2.PS.imp ps_break fun D σ H ⟨φ, st, ρ, en, rl, af⟩ => af σ H φ en (Pt.refl rl)
theorem s_cnt : PS X (.Continue pos) (tS Γ F .cnt) := L2.PS.imp ps_continue fun D σ H ⟨φ, st, ρ, en, rl, af⟩ => af σ H φ en (Pt.refl rl)
theorem s_doc {j} {p pos} : PS X (.Expr (.Constant (.str z) j p) pos) (tS Γ F .pass) := L2.PS.imp ps_doc fun D σ H ⟨φ, st, ρ, en, rl, af⟩ => af σ H φ en (Pt.refl rl)
theorem s_if {sa sb} {pos} (h : PT X x (tT Γ F c)) (ha : PSs X a (tSs Γ F sa)) (hb : PSs X b (tSs Γ F sb)) : PS X (.If x a b pos) (tS Γ F (.ifs c sa sb)) := by
 refine L2.PS.imp (ps_if h ha hb) ?_
 rintro D σ H ⟨φ, st, ρ, en, rl, af⟩
 simp only [evS] at af
 refine ⟨φ, st, ρ, en, rl, ?_⟩
 unfold evB
 cases h1 : evE F _ c ρ st with
 | ok w st1 =>
  rw [h1] at af
  simp only [Res.bind] at af ⊢
  cases h2 : truW w _ with
  | none => simp only [h2] at af; exact af.elim
  | some k =>
   simp only [h2] at af ⊢
   intro H1 φ1 pt
   have p2 := pt.cut rl.len
   cases k with
   | true => exact ⟨_, _, ρ, en.step p2, p2.rl, AfS.re af p2⟩
   | false => exact ⟨_, _, ρ, en.step p2, p2.rl, AfS.re af p2⟩
 | _ => rw [h1] at af; exact af.elim
theorem s_for {tg it : Expr} {body : List Stmt} {t : Tg} {k : Ik} {src : List E} {sb : List S} {pos : Pos} (hp : PassesOwn (model X.prog X.w) X.A X.env X.xe) (hc : X.calm = true) (hi : PI X tg it (tI Γ F k src)) (hg : PG X tg (tG Γ t)) (hb : PSs X body (tSs Γ F sb))
 (hs : ∀ x, foldedSetIterable it X.env x = pure x) : PS X (.For tg it body [] pos) (tS Γ F (.for t k src sb)) := by
 refine L2.PS.imp (ps_for hp hc hi hg hb hs) ?_
 rintro D σ H ⟨φ, st, ρ, en, rl, af⟩
 simp only [evS] at af
 refine ⟨φ, st, ρ, en, rl, ?_⟩
 unfold AfI
 cases h1 : evEs F Γ.G src ρ st with
 | ok ws st1 =>
  rw [h1] at af
  simp only [Res.bind] at af ⊢
  cases h2 : items k ws st1 with
  | none => simp only [h2] at af; exact af.elim
  | some q =>
   obtain ⟨xs, gs⟩ := q
   simp only [h2] at af ⊢
   intro J H1 φ1 pt wk
   have af := AfS.re af pt
   generalize hstep : (fun (x : T) (ρ : Rho) (st : Sto) => match bindW t (.d x) ρ with | some ρ' => evSs F Γ.G sb ρ' st | none => (Res.bad : Res (Fl × Rho))) = step at af
   refine ⟨fun i m σ H => m = xs.length - i ∧ i ≤ xs.length ∧ ∃ φ st ρ, En Γ φ st H ρ σ ∧ Pt Γ φ1 st1 H1 φ st H ∧ AfS Γ φ st H (evFor gs step (xs.drop i) ρ st) D, ⟨xs.length, by simp, Nat.zero_le _, φ1, st1, ρ, en.step pt, Pt.refl pt.rl, by simpa using af⟩, ?_⟩
   rintro i m σ2 H2 ⟨rfl, hi2, φ2, st2, ρ2, en2, pt2, af2⟩
   by_cases hlt : i < xs.length
   · have ed : xs.drop i = xs[i] :: xs.drop (i + 1) := List.drop_eq_getElem_cons hlt
     rw [ed] at af2
     simp only [evFor] at af2
     split at af2
     · rename_i hst
       obtain ⟨go, _⟩ := wk φ2 st2 H2 pt2 hst
       obtain ⟨g1, g2⟩ := go i xs[i] (List.getElem?_eq_getElem hlt)
       refine .inr ⟨g1, fun σ' H' => ∃ φ' st' ρ', En Γ φ' st' H' ρ' σ' ∧ Pt Γ φ1 _ H1 _ _ H' ∧ AfS Γ _ _ H' _ D, fun σ' H' h' => ⟨_, by omega, rfl, hlt, h'⟩, fun v H3 y => ?_⟩
       obtain ⟨pt3, r3⟩ := g2 v H3 y
       have af3 := AfS.re af2 pt3
       rw [← hstep] at af3
       simp only at af3
       cases hbd : bindW t _ _ with
       | none => rw [hbd] at af3; exact af3.elim
       | some ρ3 =>
        rw [hbd] at af3
        simp only at af3
        refine ⟨φ2, st2, ρ2, .d _, ρ3, en2.step pt3, pt3.rl, r3, hbd, fun σ3 en3 => ⟨φ2, st2, ρ3, en3, pt3.rl, ?_⟩⟩
        cases h4 : evSs F _ sb _ _ with
        | ok p st4 =>
         rw [h4] at af3
         obtain ⟨f, ρ4⟩ := p
         intro σ4 H4 φ4 en4 pt4
         cases f with
         | nx => rw [← hstep]; exact ⟨φ4, st4, ρ4, en4, (pt2.trans pt3).trans pt4, AfS.re af3 pt4⟩
         | ct => rw [← hstep]; exact ⟨φ4, st4, ρ4, en4, (pt2.trans pt3).trans pt4, AfS.re af3 pt4⟩
         | bk => exact af3 _ H4 _ en4 pt4
         | rt w => exact af3 _ H4 _ en4 pt4
        | _ => rw [h4] at af3; exact af3.elim
     · exact af2.elim
   · have ei : i = xs.length := by omega
     subst ei
     rw [List.drop_length] at af2
     simp only [evFor] at af2
     split at af2
     · rename_i hst
       obtain ⟨_, stop⟩ := wk _ _ H2 pt2 hst
       exact .inl ⟨stop, af2 _ H2 _ en2 (Pt.refl pt2.rl)⟩
     · exact af2.elim
 | _ => rw [h1] at af; exact af.elim
end
end I
end
section
namespace I
open PySem L2 PySem.Spec PyProof.Rows
section
variable {Γ : Gm} {F : FT} {X : Cx}
theorem v_ok (hN : X.N[i]? = some x) (hv : Vis X.env.scope x) (hd : (x == "__debug__") = false) (hcd : (x == "__classdict__") = false) : PE X (.Name x pos) (tE Γ F (.v i)) := by
 refine L2.PE.imp (pe_var hN hv hd hcd) ?_
 rintro σ H Q ⟨φ, st, ρ, en, rl, af⟩
 simp only [evE] at af
 cases h : ρ[i]? with
 | none => rw [h] at af; exact af.elim
 | some o =>
  cases o with
  | none => rw [h] at af; exact af.elim
  | some w =>
   rw [h] at af
   obtain ⟨v, e, r⟩ := en.at_ i w h
   exact ⟨v, e, af.now rl r⟩
theorem const_ok {v} {x} (h : PE X x (tC v)) (r : ∀ φ st H, Rp Γ.K (Live φ st) H t v) : PE X x (tE Γ F (.c t)) :=
 L2.PE.imp h fun σ H Q ⟨φ, st, ρ, en, rl, af⟩ => Af.now af rl (r φ st H)
structure GOk (Γ : Gm) : Prop where
 gl : ∀ (j : Nat) (x : Str), Γ.gn j = some x → ∃ u v t, Γ.mg x = some u ∧ RelV v u ∧ Γ.G[j]? = some t ∧ ∀ L H, Rp Γ.K L H t v
theorem g_ok (hG : GOk Γ) {j} {x} {pos} (hm : X.mg = Γ.mg) (hg : Gl X x) (hj : Γ.gn j = some x) (hd : (x == "__debug__") = false) : PE X (.Name x pos) (tE Γ F (.g j)) := by
 obtain ⟨u, v, t, h1, h2, h3, h4⟩ := hG.gl j x hj
 refine L2.PE.imp (pe_glob hg (by rw [hm]; exact h1) h2 hd) ?_
 rintro σ H Q ⟨φ, st, ρ, en, rl, af⟩
 simp only [evE, h3] at af
 exact af.now rl (h4 _ _)
theorem non_d {φ : List Addr} {st : Sto} {H : Hp} {w : W} {v : V} (r : RW Γ φ st H w v) : (match (generalizing := false) w with | .d .non => true | _ => false) = decide (v = V.non) ∧ (match (generalizing := false) w with | .d .non => false | _ => true) = !decide (v = V.non) := by
 cases w with
 | ref k => obtain ⟨a, _, rfl⟩ := r; exact ⟨rfl, rfl⟩
 | d t => cases t <;> first | (cases r; exact ⟨rfl, rfl⟩) | (obtain ⟨_, _, rfl, _⟩ := r; exact ⟨rfl, rfl⟩) | (obtain ⟨_, rfl, _⟩ := r; exact ⟨rfl, rfl⟩)
theorem isN_imp {e : E} : ∀ σ H Q, tE Γ F (.isN e) σ H Q → tOp (fun x y H Q => y = .non ∧ Q (.bl (decide (x = .non))) H) (tE Γ F e) (tC .non) σ H Q := by
 rintro σ H Q ⟨φ, st, ρ, en, rl, af⟩
 simp only [evE] at af
 exact ⟨φ, st, ρ, en, rl, af.bind.mono fun v H1 ⟨w, st1, φ1, rw1, pt, af1⟩ => ⟨rfl, af1.now pt.rl (congrArg V.bl (non_d rw1).1.symm)⟩⟩
theorem notN_imp {e : E} : ∀ σ H Q, tE Γ F (.notN e) σ H Q → tOp (fun x y H Q => y = .non ∧ Q (.bl (!decide (x = .non))) H) (tE Γ F e) (tC .non) σ H Q := by
 rintro σ H Q ⟨φ, st, ρ, en, rl, af⟩
 simp only [evE] at af
 exact ⟨φ, st, ρ, en, rl, af.bind.mono fun v H1 ⟨w, st1, φ1, rw1, pt, af1⟩ => ⟨rfl, af1.now pt.rl (congrArg V.bl (non_d rw1).2.symm)⟩⟩
theorem isN_ok {x : Expr} {e : E} {j : Nat} {p pos : Pos} (h : PE X x (tE Γ F e)) : PE X (.Compare x [.Is] [.Constant .none j p] pos) (tE Γ F (.isN e)) := L2.PE.imp (pe_cmpR op_isN h pe_non (nomark _)) isN_imp
theorem notN_ok {x : Expr} {e : E} {j : Nat} {p pos : Pos} (h : PE X x (tE Γ F e)) : PE X (.Compare x [.IsNot] [.Constant .none j p] pos) (tE Γ F (.notN e)) := L2.PE.imp (pe_cmpR op_notN h pe_non (nomark _)) notN_imp
theorem bl_ok (he : ∀ ρ st, ∃ (e' : E) (f : W → Bool), evE F Γ.G e ρ st = (evE F Γ.G e' ρ st).bind fun x st => .ok (.d (.bl (f x))) st) : ∀ ρ st w st', evE F Γ.G e ρ st = .ok w st' → ∃ b, w = .d (.bl b) := by
 intro ρ st w st' h
 obtain ⟨e', f, he⟩ := he ρ st
 rw [he] at h
 cases h1 : evE F _ e' ρ st with
 | ok w1 st1 => rw [h1] at h; cases h; exact ⟨_, rfl⟩
 | _ => rw [h1] at h; cases h
theorem and_imp : ∀ σ H Q, tE Γ F (.and a b) σ H Q → tAndT Γ.K (tE Γ F a) (tE Γ F b) σ H Q := by
 rintro σ H Q ⟨φ, st, ρ, en, rl, af⟩
 refine ⟨φ, st, ρ, en, rl, af.bind.mono fun v H1 ⟨w, st1, φ1, rw1, pt, af1⟩ => ?_⟩
 cases h : truW w _ with
 | none => rw [h] at af1; exact af1.elim
 | some k =>
  rw [h] at af1
  refine ⟨k, tru_v pt.rl rw1 h, ?_⟩
  cases k with
  | true => exact ⟨φ1, st1, ρ, en.step pt, pt.rl, af1⟩
  | false => exact af1.now pt.rl rw1
theorem or_imp : ∀ σ H Q, tE Γ F (.or a b) σ H Q → tOrT Γ.K (tE Γ F a) (tE Γ F b) σ H Q := by
 rintro σ H Q ⟨φ, st, ρ, en, rl, af⟩
 refine ⟨φ, st, ρ, en, rl, af.bind.mono fun v H1 ⟨w, st1, φ1, rw1, pt, af1⟩ => ?_⟩
 cases h : truW w _ with
 | none => rw [h] at af1; exact af1.elim
 | some k =>
  rw [h] at af1
  refine ⟨k, tru_v pt.rl rw1 h, ?_⟩
  cases k with
  | false => exact ⟨φ1, st1, ρ, en.step pt, pt.rl, af1⟩
  | true => exact af1.now pt.rl rw1
theorem not_imp : ∀ σ H Q, tE Γ F (.not a) σ H Q → tNotT Γ.K (tE Γ F a) σ H Q := by
 rintro σ H Q ⟨φ, st, ρ, en, rl, af⟩
 refine ⟨φ, st, ρ, en, rl, af.bind.mono fun v H1 ⟨w, st1, φ1, rw1, pt, af1⟩ => ?_⟩
 cases h : truW w _ with
 | none => rw [h] at af1; exact af1.elim
 | some k => rw [h] at af1; exact ⟨k, tru_v pt.rl rw1 h, af1.now pt.rl rfl⟩
theorem looksC {st} {ts} (h : looks (w :: ws) st = some ts) : ∃ t r, look w st = some t ∧ looks ws st = some r ∧ ts = t :: r := by
 have h : (match look w st, looks ws st with | some t, some ts => some _ | _, _ => none) = some ts := h
 cases h1 : look w st with
 | none => rw [h1] at h; cases h
 | some t =>
  cases h2 : looks ws st with
  | none => simp_all
  | some r => simp_all
def BfS (Γ : Gm) (r : List V → Hp → VK → Prop) (f : Bf) : Prop := ∀ φ st H ws vs Q, Rl Γ φ st H → RWs Γ φ st H ws vs → Af Γ φ st H (bfW f ws st) Q → r vs H Q
theorem bf_imp (h : BfS Γ r f) : ∀ σ H Q, tE Γ F (.bf f es) σ H Q → tCB r (tA Γ F es) σ H Q := by
 rintro σ H Q ⟨φ, st, ρ, en, rl, af⟩
 simp only [evE] at af
 refine ⟨φ, st, ρ, en, rl, ?_⟩
 cases h1 : evEs F _ es ρ st with
 | ok ws st1 =>
  rw [h1] at af
  intro vs H1 φ1 rws pt
  exact h _ _ H1 ws vs Q pt.rl rws (Af.re af pt)
 | _ => rw [h1] at af; exact af.elim
theorem bf1 (hl : ∀ t u, bf2T f t u = none)
 (h : ∀ φ st H w v t u Q, Rl Γ φ st H → RW Γ φ st H w v → look w st = some t → bf1T f t = some u → Af Γ φ st H (fresh u st) Q → r [v] H Q) : BfS Γ r f := by
 intro φ st H ws vs Q rl rws af
 unfold bfW at af
 rcases ws with _ | ⟨w, ws⟩
 · exact af.elim
 cases h1 : looks _ st with
 | none => rw [h1] at af; exact af.elim
 | some ts =>
  rw [h1] at af
  obtain ⟨t, ts, h2, h3, rfl⟩ := looksC h1
  rcases ws with _ | ⟨w', ws⟩
  · cases h3
    obtain ⟨v, rs, rfl, rv, rr⟩ := rws
    cases rr
    have af : Af Γ φ st H (match bf1T f t with | some t => fresh t st | none => .bad) Q := af
    cases h4 : bf1T f t with
    | none => rw [h4] at af; exact af.elim
    | some u => rw [h4] at af; exact h φ st H w v t u Q rl rv h2 h4 af
  · obtain ⟨t', ts, _, h5, rfl⟩ := looksC h3
    rcases ts with _ | ⟨_, _⟩
    · have af : Af Γ φ st H (match bf2T f t t' with | some t => fresh t st | none => .bad) Q := af
      rw [hl] at af
      exact af.elim
    · exact af.elim
theorem bf2 (hl : ∀ t, bf1T f t = none)
 (h : ∀ φ st H w v t w' v' t' u Q, Rl Γ φ st H → RW Γ φ st H w v → look w st = some t → RW Γ φ st H w' v' → look w' st = some t' → bf2T f t t' = some u → Af Γ φ st H (fresh u st) Q → r [v, v'] H Q) : BfS Γ r f := by
 intro φ st H ws vs Q rl rws af
 unfold bfW at af
 rcases ws with _ | ⟨w, ws⟩
 · exact af.elim
 cases h1 : looks _ st with
 | none => rw [h1] at af; exact af.elim
 | some ts =>
  rw [h1] at af
  obtain ⟨t, ts, h2, h3, rfl⟩ := looksC h1
  rcases ws with _ | ⟨w', ws⟩
  · cases h3
    have af : Af Γ φ st H (match bf1T f t with | some t => fresh t st | none => .bad) Q := af
    rw [hl] at af
    exact af.elim
  · obtain ⟨t', ts, h4, h5, rfl⟩ := looksC h3
    rcases ws with _ | ⟨w'', ws⟩
    · cases h5
      obtain ⟨v, rs, rfl, rv, v', rs', rfl, rv', rr⟩ := rws
      cases rr
      have af : Af Γ φ st H (match bf2T f t t' with | some t => fresh t st | none => .bad) Q := af
      cases h6 : bf2T f t t' with
      | none => rw [h6] at af; exact af.elim
      | some u => rw [h6] at af; exact h φ st H w v t w' v' t' u Q rl rv h2 rv' h4 h6 af
    · obtain ⟨t'', ts, _, _, rfl⟩ := looksC h5
      exact af.elim
def rLenK (K : PySem.W.Frag) : List V → Hp → VK → Prop := fun xs H Q => rLenS K xs H Q ∨ ∃ z, xs = [.str z] ∧ z.length ≤ sizeLine ∧ Q (.int z.length) H
theorem len_c (hK : X.K = Γ.K) : CallR X (.builtin "len") (rLenK Γ.K) := (lenK_seq hK).or call_len_str
theorem len_b : BfS Γ (rLenK Γ.K) .len := bf1 (fun _ _ => rfl) fun φ st H w v t u Q rl rw1 h1 h2 af => by
 cases t with
 | tup xs =>
  cases h2
  obtain ⟨a, vs, rfl, q1, r1⟩ := rw1.tup rl h1
  refine .inl ⟨a, vs, rfl, .inr q1, ?_⟩
  rw [r1.length]
  exact Af.now af rl rfl
 | lst xs =>
  cases h2
  obtain ⟨a, vs, rfl, q1, r1⟩ := rw1.lst rl h1
  refine .inl ⟨a, vs, rfl, .inl q1, ?_⟩
  rw [r1.length]
  exact Af.now af rl rfl
 | str z =>
  obtain ⟨hz, rfl⟩ := opt_if h2
  exact .inr ⟨z, by rw [rw1.str rl h1], Nat.le_trans hz lim_line, Af.now af rl rfl⟩
 | _ => cases h2
theorem tuple_b : BfS Γ (rTupleOf Γ.K) .tuple := bf1 (fun _ _ => rfl) fun φ st H w v t u Q rl rw1 h1 h2 af => by
 cases t with
 | tup xs =>
  cases h2
  obtain ⟨a, vs, rfl, q1, r1⟩ := rw1.tup rl h1
  refine ⟨a, vs, rfl, .inr ⟨q1, ?_⟩⟩
  rcases rw1.look rl h1 with q | ⟨_, _, _, _, _, e2, _⟩
  · exact Af.now af rl q
  · cases e2
 | lst xs =>
  cases h2
  obtain ⟨a, vs, rfl, q1, r1⟩ := rw1.lst rl h1
  exact ⟨a, vs, rfl, .inl ⟨q1, Af.tup af rl r1⟩⟩
 | _ => cases h2
theorem list_b : BfS Γ (rListOf Γ.K) .list := bf1 (fun _ _ => rfl) fun φ st H w v t u Q rl rw1 h1 h2 af => by
 cases t with
 | tup xs =>
  cases h2
  obtain ⟨a, vs, rfl, q1, r1⟩ := rw1.tup rl h1
  exact ⟨a, vs, rfl, .inr q1, Af.lst af rl r1⟩
 | lst xs =>
  cases h2
  obtain ⟨a, vs, rfl, q1, r1⟩ := rw1.lst rl h1
  exact ⟨a, vs, rfl, .inl q1, Af.lst af rl r1⟩
 | _ => cases h2
def rIntK : List V → Hp → VK → Prop := fun xs H Q => ((∃ i, xs = [.int i] ∧ Q (.int i) H) ∨ ∃ k, xs = [.bl k] ∧ Q (.int (if k then 1 else 0)) H) ∨ ∃ z n, xs = [.str z] ∧ PySem.intText? z = some n ∧ z.length ≤ 640 ∧ Q (.int n) H
theorem int_c : CallR X (.type "int") rIntK := call_int1.or call_int_text
theorem int_b : BfS Γ rIntK .int := bf1 (fun _ _ => rfl) fun φ st H w v t u Q rl rw1 h1 h2 af => by
 cases t with
 | int i => cases h2; exact .inl (.inl ⟨i, by rw [rw1.int rl h1], Af.now af rl rfl⟩)
 | bl k => cases h2; exact .inl (.inr ⟨k, by rw [rw1.bl rl h1], Af.now af rl rfl⟩)
 | str z =>
  change (if z.length ≤ 640 then (PySem.intText? z).map T.int else none) = _ at h2
  split at h2
  · rename_i hz
    cases h3 : PySem.intText? z with
    | none => rw [h3] at h2; cases h2
    | some n => rw [h3] at h2; cases h2; exact .inr ⟨z, n, by rw [rw1.str rl h1], h3, hz, Af.now af rl rfl⟩
  · cases h2
 | _ => cases h2
def rStrK : List V → Hp → VK → Prop := fun xs H Q => (∃ i, xs = [.int i] ∧ i.natAbs.log2 < 1920 ∧ Q (.str (toString i)) H) ∨ ∃ z, xs = [.str z] ∧ Q (.str z) H
theorem call_str_str : CallR X (.type "str") (fun xs H Q => ∃ z, xs = [.str z] ∧ Q (.str z) H) := by
 intro pins s σ H xs us Q I r h
 obtain ⟨z, rfl, q⟩ := h
 obtain ⟨u, rfl, t, rfl⟩ := vals1 r
 exact PySem.P.str_of_str ⟨.str z, H, I, ⟨_, rfl⟩, q⟩
theorem str_c : CallR X (.type "str") rStrK := call_str_int.or call_str_str
theorem str_b : BfS Γ rStrK .str := bf1 (fun _ _ => rfl) fun φ st H w v t u Q rl rw1 h1 h2 af => by
 cases t with
 | int i => obtain ⟨hz, rfl⟩ := opt_if h2; exact .inl ⟨i, by rw [rw1.int rl h1], hz, Af.now af rl rfl⟩
 | str z => cases h2; exact .inr ⟨z, by rw [rw1.str rl h1], Af.now af rl rfl⟩
 | _ => cases h2
theorem all_b : BfS Γ (rAllL Γ.K) .all := bf1 (fun _ _ => rfl) fun φ st H w v t u Q rl rw1 h1 h2 af => by
 cases t with
 | lst xs =>
  have bl : ∀ (xs : List T) (bs : List _), blsT xs = some bs → xs = bs.map T.bl := by
   intro xs
   induction xs with
   | nil => intro bs h; cases h; rfl
   | cons x xs ih =>
    intro bs h
    cases x with
    | bl b =>
     simp only [blsT] at h
     cases q : blsT xs with
     | none => rw [q] at h; cases h
     | some cs => rw [q] at h; cases h; rw [ih cs q]; rfl
    | _ => cases h
  change ((blsT xs).map fun bs => T.bl _) = _ at h2
  cases h3 : blsT xs with
  | none => rw [h3] at h2; cases h2
  | some bs =>
   rw [h3] at h2
   cases h2
   cases bl xs bs h3
   obtain ⟨a, vs, rfl, q1, r1⟩ := rw1.lst rl h1
   cases Rps.bls r1
   exact ⟨a, bs, rfl, q1, Af.now af rl rfl⟩
 | _ => cases h2
theorem intsT_is : ∀ {xs} {ns}, intsT xs = some ns → xs = ns.map T.int
 | [], ns, h => by cases h; rfl
 | x :: xs, ns, h => by
  cases x with
  | int i =>
   have h : (intsT xs).map _ = some ns := h
   cases q : intsT xs with
   | none => rw [q] at h; cases h
   | some ms => rw [q] at h; cases h; rw [intsT_is q]; rfl
  | _ => cases h
theorem Rps.ints_eq {K} {L} {H} : ∀ {ns : List _} {vs}, Rps K L H (ns.map T.int) vs → vs = ns.map V.int
 | [], _, r => r
 | n :: ns, _, r => by
  obtain ⟨v, rs, rfl, r1, r2⟩ := r
  rw [r1, Rps.ints_eq r2]; rfl
theorem min2_b : BfS Γ (fun xs H Q => ∃ i j, xs = [.int i, .int j] ∧ Q (.int (if j < i then j else i)) H) .min2 := bf2 (fun _ => rfl) fun φ st H w v t w' v' t' u Q rl rw1 h1 rw2 h2 h3 af => by
 cases t with
 | int i =>
  cases t' with
  | int j =>
   cases h3
   exact ⟨i, j, by rw [rw1.int rl h1, rw2.int rl h2], Af.now af rl rfl⟩
  | _ => cases h3
 | _ => cases h3
theorem max2_b : BfS Γ (fun xs H Q => ∃ i j, xs = [.int i, .int j] ∧ Q (.int (if j > i then j else i)) H) .max2 := bf2 (fun _ => rfl) fun φ st H w v t w' v' t' u Q rl rw1 h1 rw2 h2 h3 af => by
 cases t with
 | int i =>
  cases t' with
  | int j =>
   cases h3
   exact ⟨i, j, by rw [rw1.int rl h1, rw2.int rl h2], Af.now af rl rfl⟩
  | _ => cases h3
 | _ => cases h3
end
end I
end
section
namespace I
open PySem L2 PySem.Spec PyProof.Rows
section
variable {Γ : Gm} {F : FT} {X : Cx}
def MtS (Γ : Gm) (r : V → List V → Hp → VK → Prop) (m : Mt) : Prop := ∀ (φ : List Addr) (st : Sto) (H : Hp) (k : Nat) (a : Addr) (xs ys ts : List T) (t : T) (vs us : List V) (Q : VK), Rl Γ φ st H → φ[k]? = some a → st[k]? = some (some xs) → H a = some (.lst vs) → Rps Γ.K (Live φ st) H xs vs → Rps Γ.K (Live φ st) H ts us →
 mtL m xs ts = some (ys, t) → Af Γ φ st H (.ok (.d t) (st.set k (some ys))) Q → r (.ref a) us H Q
theorem Af.write {st} {H} {k} {a} {xs ys} {ws} {t} {v} {Q} (af : Af Γ φ st H (.ok (.d t) (st.set k (some ys))) Q) (rl : Rl Γ φ st H) (e1 : φ[k]? = some a) (e2 : st[k]? = some (some xs)) (r : Rps Γ.K (Live φ st) H ys ws)
 (rt : Rp Γ.K (Live φ (st.set k (some ys))) (upd H a (.lst ws)) t v) : Q v (upd H a (.lst ws)) := af v _ φ rt (rl.write (vs := []) e1 e2 r)
theorem append_m : MtS Γ rAppend .append := fun φ st H k a xs ys ts t vs us Q rl e1 e2 h r rs hm af => by
 match ts, hm with
 | [x], hm =>
  obtain ⟨hz, e⟩ := opt_if hm
  cases e
  obtain ⟨u, rr, rfl, ru, rn⟩ := rs
  cases rn
  exact ⟨a, vs, u, rfl, rfl, h, by rw [r.length]; exact Nat.lt_of_lt_of_le hz lim_line, af.write rl e1 e2 (r.append (.one ru)) rfl⟩
 | [], hm => cases hm
 | _ :: _ :: _, hm => cases hm
theorem reverse_m : MtS Γ rReverse .reverse := fun φ st H k a xs ys ts t vs us Q rl e1 e2 h r rs hm af => by
 match ts, hm with
 | [], hm =>
  cases hm
  cases rs
  exact ⟨a, vs, rfl, rfl, h, af.write rl e1 e2 r.reverse rfl⟩
 | _ :: _, hm => cases hm
theorem insert_m : MtS Γ rInsert .insert := fun φ st H k a xs ys ts t vs us Q rl e1 e2 h r rs hm af => by
 match ts, hm with
 | [.int i, x], hm =>
  obtain ⟨⟨h0, h1, hz⟩, e⟩ := opt_if hm
  cases e
  obtain ⟨u, rr, rfl, ru, w, rr2, rfl, rw', rn⟩ := rs
  cases rn
  cases ru
  refine ⟨a, vs, i, w, rfl, rfl, h, h0, by rw [r.length]; exact h1, by rw [r.length]; exact Nat.lt_of_lt_of_le hz lim_line, af.write rl e1 e2 ((r.take _).append (.cons rw' (r.drop _))) rfl⟩
 | [], hm => cases hm
 | [.int _], hm => cases hm
 | .int _ :: _ :: _ :: _, hm => cases hm
 | .non :: _, hm => cases hm
 | .bl _ :: _, hm => cases hm
 | .str _ :: _, hm => cases hm
 | .tup _ :: _, hm => cases hm
 | .lst _ :: _, hm => cases hm
theorem mtL_imp {r : V → List V → Hp → VK → Prop} {m : Mt} {o : E} {es : List E} (hm : MtS Γ r m) (hj : ∀ t ts, mtT m t ts = none) : ∀ σ H Q, tE Γ F (.meth m o es) σ H Q → tBM Γ.K "list" r (tE Γ F o) (tD Γ F es) σ H Q := by
 rintro σ H Q ⟨φ, st, ρ, en, rl, af⟩
 simp only [evE] at af
 refine ⟨φ, st, ρ, en, rl, af.bind.mono fun v H1 ⟨w, st1, φ1, rw1, pt, af1⟩ => ?_⟩
 split at af1
 · exact af1.elim
 rename_i hl
 cases w with
 | d t =>
  cases h2 : evTs F Γ.G es ρ st1 with
  | ok ts st2 => rw [h2] at af1; simp only [Res.bind, hj] at af1; exact af1.elim
  | _ => rw [h2] at af1; exact af1.elim
 | ref k =>
  cases h1 : look (.ref k) st1 with
  | none => simp_all
  | some t =>
   have : ∃ xs, t = .lst xs := by
    unfold look at h1
    simp only at h1
    split at h1
    · cases h1; exact ⟨_, rfl⟩
    · cases h1
   obtain ⟨xs0, rfl⟩ := this
   obtain ⟨a, vs, rfl, q1, r1⟩ := rw1.lst pt.rl h1
   refine ⟨.inl ⟨rfl, vs, q1⟩, φ1, st1, ρ, en.step pt, pt.rl, ?_⟩
   cases h2 : evTs F Γ.G es ρ st1 with
   | ok ts st2 =>
    rw [h2] at af1
    intro us H2 φ2 rs pt2
    have af2 := Af.re af1 pt2
    simp only [Res.bind] at af2
    cases h3 : st2[k]? with
    | none => simp only [h3] at af2; exact af2.elim
    | some o =>
     cases o with
     | none => simp only [h3] at af2; exact af2.elim
     | some xs =>
      simp only [h3] at af2
      cases h4 : mtL m xs ts with
      | none => simp only [h4] at af2; exact af2.elim
      | some p =>
       obtain ⟨ys, t⟩ := p
       simp only [h4] at af2
       obtain ⟨b, e, eb⟩ := rw1
       cases eb
       have e2 := pt2.pre k a e
       obtain ⟨ws, h5, r5⟩ := pt2.rl.at_ k xs a e2 h3
       exact hm φ2 st2 H2 k a xs ys ts t ws us Q pt2.rl e2 h3 h5 r5 rs h4 af2
   | _ => rw [h2] at af1; exact af1.elim
theorem mtL0_imp (hm : MtS Γ r m) (hj : ∀ t ts, mtT m t ts = none) : ∀ σ H Q, tE Γ F (.meth m o []) σ H Q → tBM0 Γ.K "list" r (tE Γ F o) σ H Q := by
 rintro σ H Q ⟨φ, st, ρ, en, rl, af⟩
 refine ⟨φ, st, ρ, en, rl, af.bind.mono fun v H1 ⟨w, st1, φ1, rw1, pt, af1⟩ => ?_⟩
 split at af1
 · exact af1.elim
 simp only [evTs, Res.bind] at af1
 cases w with
 | d t => simp only [hj] at af1; exact af1.elim
 | ref k =>
  cases h3 : st1[k]? with
  | none => simp only [h3] at af1; exact af1.elim
  | some o =>
   cases o with
   | none => simp only [h3] at af1; exact af1.elim
   | some xs =>
    simp only [h3] at af1
    cases h4 : mtL m xs [] with
    | none => simp only [h4] at af1; exact af1.elim
    | some p =>
     obtain ⟨ys, t⟩ := p
     simp only [h4] at af1
     obtain ⟨a, e, rfl⟩ := rw1
     obtain ⟨ws, h5, r5⟩ := pt.rl.at_ k xs a e h3
     exact ⟨.inl ⟨rfl, ws, SqL.of h5⟩, hm _ _ H1 k a xs ys [] t ws [] Q pt.rl e h3 h5 r5 .nil h4 af1⟩
theorem strsT_eq : ∀ {xs} {ys}, strsT xs = some ys → xs = ys.map T.str
 | [], _, h => by cases h; rfl
 | .str x :: xs, ys, h => by
  simp only [strsT] at h
  cases q : strsT xs with
  | none => rw [q] at h; cases h
  | some zs => rw [q] at h; cases h; rw [strsT_eq q]; rfl
 | .non :: _, _, h => by cases h
 | .bl _ :: _, _, h => by cases h
 | .int _ :: _, _, h => by cases h
 | .tup _ :: _, _, h => by cases h
 | .lst _ :: _, _, h => by cases h
def rJoinK (K : PySem.W.Frag) : V → List V → Hp → VK → Prop := fun x vs H Q => rJoin K x vs H Q ∨ rJoinT K x vs H Q
theorem join_c (hK : X.K = Γ.K) : MtR X "str.join" (rJoinK Γ.K) := by rw [← hK]; exact mt_join.or mt_joinT
theorem mtT_join (h3 : mtT .join t ts = some u) : ∃ sep zs ys, t = .str sep ∧ (ts = [.lst zs] ∨ ts = [.tup zs]) ∧ strsT zs = some ys ∧ (ys.map (·.length)).sum + ys.length * sep.length ≤ LIM ∧ u = .str (Txt.join sep ys) := by
 cases t with
 | str sep =>
  match ts, h3 with
  | [.lst zs], h3 =>
   simp only [mtT] at h3
   cases q : strsT zs with
   | none => simp_all
   | some ys => simp_all
  | [.tup zs], h3 =>
   simp only [mtT] at h3
   cases q : strsT zs with
   | none => simp_all
   | some ys => simp_all
  | [], h3 => cases h3
  | [.non], h3 => cases h3
  | [.bl _], h3 => cases h3
  | [.int _], h3 => cases h3
  | [.str _], h3 => cases h3
  | .non :: _ :: _, h3 => cases h3
  | .bl _ :: _ :: _, h3 => cases h3
  | .int _ :: _ :: _, h3 => cases h3
  | .str _ :: _ :: _, h3 => cases h3
  | .tup _ :: _ :: _, h3 => cases h3
  | .lst _ :: _ :: _, h3 => cases h3
 | _ => cases h3
theorem join_imp : ∀ σ H Q, tE Γ F (.meth .join o [e]) σ H Q → tBM Γ.K "str" (rJoinK Γ.K) (tE Γ F o) (tD Γ F [e]) σ H Q := by
 rintro σ H Q ⟨φ, st, ρ, en, rl, af⟩
 refine ⟨φ, st, ρ, en, rl, af.bind.mono fun v H1 ⟨w, st1, φ1, rw1, pt, af1⟩ => ?_⟩
 split at af1
 · exact af1.elim
 cases h2 : evTs F _ _ ρ _ with
 | ok ts st2 =>
  rw [h2] at af1
  simp only [Res.bind] at af1
  cases w with
  | ref k =>
   cases h3 : st2[k]? with
   | none => simp only [h3] at af1; exact af1.elim
   | some o =>
    cases o with
    | none => simp only [h3] at af1; exact af1.elim
    | some xs => simp only [h3] at af1; cases ts <;> exact af1.elim
  | d t =>
   cases h3 : mtT .join t ts with
   | none => simp only [h3] at af1; exact af1.elim
   | some u =>
    simp only [h3] at af1
    obtain ⟨sep, zs, ys, rfl, hk, hs, hz, rfl⟩ := mtT_join h3
    cases rw1
    have hL : LIM ≤ 16777216 := by decide
    refine ⟨rfl, φ1, st1, ρ, en.step pt, pt.rl, ?_⟩
    rw [h2]
    intro vs H2 φ2 rs pt2
    have af2 := Af.re af1 pt2
    cases strsT_eq hs
    rcases hk with rfl | rfl
    · obtain ⟨u, rr, rfl, ru, rn⟩ := rs
      cases show rr = [] from rn
      obtain ⟨a, us, rfl, h5, h6⟩ := ru
      cases Rps.strs h6
      exact .inl ⟨sep, a, ys, rfl, rfl, h5.sq, Nat.le_trans hz hL, af2.now pt2.rl rfl⟩
    · obtain ⟨u, rr, rfl, ru, rn⟩ := rs
      cases show rr = [] from rn
      obtain ⟨a, us, rfl, h5, h6⟩ := ru
      cases Rps.strs h6
      exact .inr ⟨sep, a, ys, rfl, rfl, h5.sq, Nat.le_trans hz hL, af2.now pt2.rl rfl⟩
 | _ => rw [h2] at af1; exact af1.elim
theorem mtT_split {t : T} {ts : List T} {u : T} (h3 : mtT .split t ts = some u) : ∃ z y, t = .str z ∧ ts = [.str y] ∧ z.length ≤ LIM ∧ y.length = 1 ∧ u = .lst ((Txt.split z y).map .str) := by
 cases t with
 | str z =>
  rcases ts with _ | ⟨a, _ | ⟨_, _⟩⟩
  · cases h3
  · cases a with
    | str y =>
     simp only [mtT] at h3
     obtain ⟨⟨a, c⟩, b⟩ := opt_if h3
     exact ⟨z, y, rfl, rfl, a, c, b.symm⟩
    | _ => cases h3
  · cases a <;> cases h3
 | _ => cases h3
theorem split_imp {o e : E} : ∀ σ H Q, tE Γ F (.meth .split o [e]) σ H Q → tBM Γ.K "str" rSplit (tE Γ F o) (tD Γ F [e]) σ H Q := by
 rintro σ H Q ⟨φ, st, ρ, en, rl, af⟩
 simp only [evE] at af
 refine ⟨φ, st, ρ, en, rl, af.bind.mono fun v H1 ⟨w, st1, φ1, rw1, pt, af1⟩ => ?_⟩
 split at af1
 · exact af1.elim
 cases h2 : evTs F Γ.G [e] ρ st1 with
 | ok ts st2 =>
  rw [h2] at af1
  simp only [Res.bind] at af1
  cases w with
  | ref k =>
   simp only at af1
   cases h3 : st2[k]? with
   | none => simp only [h3] at af1; exact af1.elim
   | some o =>
    cases o with
    | none => simp only [h3] at af1; exact af1.elim
    | some xs => simp only [h3] at af1; cases ts <;> exact af1.elim
  | d t =>
   simp only at af1
   cases h3 : mtT .split t ts with
   | none => simp only [h3] at af1; exact af1.elim
   | some u =>
    simp only [h3] at af1
    obtain ⟨z, y, rfl, rfl, hz, hy, rfl⟩ := mtT_split h3
    cases (show v = .str z from rw1)
    refine ⟨rfl, φ1, st1, ρ, en.step pt, pt.rl, ?_⟩
    rw [h2]
    intro vs H2 φ2 rs pt2
    have af2 := Af.re af1 pt2
    obtain ⟨u, rr, rfl, ru, rn⟩ := rs
    cases (show rr = [] from rn)
    cases (show u = .str y from ru)
    exact ⟨z, y, rfl, rfl, hz, hy, Af.lst af2 pt2.rl (Rps.ofStrs _)⟩
 | _ => rw [h2] at af1; exact af1.elim
def tF (Γ : Gm) (F : FT) (es : List E) : TT := fun σ H Q => ∃ φ st ρ, En Γ φ st H ρ σ ∧ Rl Γ φ st H ∧ AfB Γ φ st H (evIfs F Γ.G es ρ st) Q
theorem _root_.L2.PF.imp (h : PF X es t) (i : ∀ σ H Q, u σ H Q → t σ H Q) : PF X es u := fun pins s σ H Q I q => h _ s σ H Q I (i σ H Q q)
theorem f_nil : PF X [] (tF Γ F []) := L2.PF.imp pf_nil fun σ H Q ⟨φ, st, ρ, en, rl, af⟩ => af.now rl
theorem evIfs_cons {ρ} {st} : evIfs F G (e :: es) ρ st = (evB F G e ρ st).bind fun c st => if c then evIfs F G es ρ st else .ok false st := by
 unfold evB
 simp only [evIfs]
 cases evE F G e ρ st with
 | ok w st' =>
  simp only [Res.bind]
  cases h : truW w _ with
  | none => rfl
  | some c => cases c <;> rfl
 | _ => rfl
theorem f_cons {e} {es} (h : PT X x (tT Γ F e)) (hs : PF X xs (tF Γ F es)) : PF X (x :: xs) (tF Γ F (e :: es)) := by
 refine L2.PF.imp (pf_cons h hs) ?_
 rintro σ H Q ⟨φ, st, ρ, en, rl, af⟩
 rw [evIfs_cons] at af
 refine ⟨φ, st, ρ, en, rl, af.bindB.mono fun c H1 ⟨st1, φ1, pt, af1⟩ => ?_⟩
 cases c with
 | true => exact ⟨φ1, st1, ρ, en.step pt, pt.rl, af1⟩
 | false => exact af1.now pt.rl
def Tg.slots : Tg → List Nat
 | .nm i => [i]
 | .tp is => is
 | .nt i is => i :: is
def tGc (Γ : Gm) (t : Tg) : TG := fun v σ H Q => ∃ φ st ρ w ρ', En Γ φ st H ρ σ ∧ Rl Γ φ st H ∧ RW Γ φ st H w v ∧ bindW t w ρ = some ρ' ∧ (∀ i ∈ t.slots, σ[i]? = some none) ∧ t.slots.Nodup ∧ ∀ σ', En Γ φ st H ρ' σ' → L2.Sub σ σ' → Q σ' H
theorem gc_name (hN : X.N.Nodup) (hi : X.N[i]? = some x) (hx : Loc X.env.scope x) (hf : X.fn x = true ∨ X.env.scope.names.lookup x = some .local) : PG X (.Name x pos) (tGc Γ (.nm i)) := by
 refine L2.PG.imp (pg_name hN hi hx hf) ?_
 rintro v σ H Q ⟨φ, st, ρ, w, ρ', en, rl, rw1, hb, hs, _, q⟩
 obtain ⟨_, rfl⟩ := opt_if hb
 exact q _ (en.set rw1) (Sub.set (hs i (List.mem_singleton.mpr rfl)))
theorem names_setc {st} {H} {Q} : ∀ {is} {xs} {vs} {ρ} {σ}, is.length = xs.length → Rps Γ.K (Live φ st) H xs vs → En Γ φ st H ρ σ → (∀ i ∈ is, σ[i]? = some none) → is.Nodup →
 (∀ σ', En Γ φ st H ((is.zip xs).foldl (fun ρ p => ρ.set p.1 (some (.d p.2))) ρ) σ' → L2.Sub σ σ' → Q σ' H) → gNames is vs σ H Q
 | [], [], vs, ρ, σ, _, r, en, _, _, q => ⟨r, q σ en (L2.Sub.refl _)⟩
 | i :: is, x :: xs, vs, ρ, σ, hl, r, en, hs, hn, q => by
  obtain ⟨v, rs, rfl, r1, r2⟩ := r
  refine ⟨v, rs, rfl, ?_⟩
  have s1 : L2.Sub σ (σ.set i (some v)) := Sub.set (hs i List.mem_cons_self)
  refine names_setc (by simpa using hl) r2 (en.set (w := .d x) r1) (fun j hj => ?_) (List.nodup_cons.mp hn).2 fun σ' en' s' => q _ en' (s1.trans s')
  grind
 | [], _ :: _, _, _, _, hl, _, _, _, _, _ => by simp at hl
 | _ :: _, [], _, _, _, hl, _, _, _, _, _ => by simp at hl
theorem gc_tup {pos} (hK : X.K = Γ.K) (hc : X.calm = true) (hN : X.N.Nodup) (h : nmsOk X is es) : PG X (.Tuple es k pos) (tGc Γ (.tp is)) := by
 obtain ⟨a, b, c⟩ := gs_names hN h
 refine L2.PG.imp (pgK_tup hK hc a b c) ?_
 rintro v σ H Q ⟨φ, st, ρ, w, ρ', en, rl, rw1, hb, hs, hn, q⟩
 cases w with
 | ref k => cases hb
 | d t =>
  cases t with
  | tup xs =>
   obtain ⟨⟨h1, h2⟩, rfl⟩ := opt_if hb
   obtain ⟨p, vs, rfl, h3, h4⟩ := rw1
   exact ⟨p, vs, rfl, h3.sq, by rw [h4.length, h1], names_setc h1 h4 en hs hn q⟩
  | _ => cases hb
theorem En.pick {st} {H} {ρ} {σ} (ix : List _) (en : En Γ φ st H ρ σ) : En Γ φ st H (pickW ix ρ) (L2.pick ix σ) := by
 refine ⟨by simp [pickW, L2.pick], fun i w h => ?_⟩
 unfold pickW at h
 unfold L2.pick
 rw [List.getElem?_map] at h ⊢
 cases q : ix[i]? with
 | none => rw [q] at h; cases h
 | some o =>
  rw [q] at h
  cases o with
  | none => cases h
  | some j =>
   simp only [Option.map_some, Option.some.injEq] at h ⊢
   cases q2 : ρ[j]? with
   | none => rw [q2] at h; cases h
   | some o2 =>
    rw [q2] at h
    subst h
    obtain ⟨v, e, r⟩ := en.at_ j w q2
    simp_all
def stepE (F : FT) (G : List T) (ix : List (Option Nat)) (tg : Tg) (ifs : List E) (el : E) (ρ : Rho) : T → Sto → Res (Option T) := fun x st => match bindW tg (.d x) (pickW ix ρ) with
 | some ρ' => (evIfs F G ifs ρ' st).bind fun b st' => if b then (evE F G el ρ' st').bind fun w st' => (frzTo st.length w st').bind fun t st => .ok (some t) st else .ok none (st'.take st.length)
 | none => .bad
theorem turn_ok {ix : List (Option Nat)} {tg : Tg} {ifs : List E} {el : E} {ρ : Rho} {σ : L2.St} {φ} {st} {H} {x} {v} {N : Option V → Hp → Prop} {o} {st'} (en : En Γ φ st H ρ σ) (rl : Rl Γ φ st H) (rx : Rp Γ.K (Live φ st) H x v)
 (hs : ∀ i ∈ tg.slots, ix[i]? = some none) (hn : tg.slots.Nodup) (hstep : stepE F Γ.G ix tg ifs el ρ x st = .ok o st')
 (h : match o with
  | some t => ∀ u H' φ', Rp Γ.K (Live φ' st') H' t u → Pt Γ φ st H φ' st' H' → N (some u) H'
  | none => ∀ H' φ', Pt Γ φ st H φ' st' H' → N none H') :
 tGc Γ tg v (L2.pick ix σ) H fun σ2 H3 => L2.Sub (L2.pick ix σ) σ2 ∧ tF Γ F ifs σ2 H3 fun ok H4 => if ok = true then tE Γ F el σ2 H4 fun y H5 => N (some y) H5 else N none H4 := by
 unfold stepE at hstep
 cases hb : bindW tg _ _ with
 | none => rw [hb] at hstep; cases hstep
 | some ρ' =>
  rw [hb] at hstep
  simp only at hstep
  refine ⟨φ, st, _, .d x, ρ', en.pick ix, rl, rx, hb, fun i hi => ?_, hn, fun σ2 en2 sub => ⟨sub, φ, st, ρ', en2, rl, ?_⟩⟩
  · unfold L2.pick
    simp_all
  · cases h1 : evIfs F _ _ _ st with
    | ok b st1 =>
     rw [h1] at hstep
     simp only [Res.bind] at hstep
     intro H4 φ4 pt4
     cases b with
     | true =>
      refine ⟨φ4, st1, ρ', en2.step pt4, pt4.rl, ?_⟩
      cases h2 : evE F _ el _ _ with
      | ok w st2 =>
       rw [h2] at hstep
       simp only at hstep
       intro u H5 φ5 rw5 pt5
       cases h3 : frzTo _ w _ with
       | ok t st3 =>
        rw [h3] at hstep
        cases hstep
        obtain ⟨φ6, p6, r6⟩ := frz_ok rl.len (pt4.trans pt5) rw5 h3
        exact h u H5 _ r6 p6
       | _ => simp_all
      | _ => simp_all
     | false =>
      cases hstep
      exact h H4 _ (pt4.cut rl.len)
    | _ => rw [h1] at hstep; cases hstep
theorem evComp_px {step} : ∀ {xs acc ts} {st st'}, evComp gs step xs acc st = .ok ts st' → acc <+: ts
 | [], acc, ts, st, st', h => by
  simp only [evComp] at h
  grind
 | x :: xs, acc, ts, st, st', h => by
  simp only [evComp] at h
  split at h
  · cases hs : step x st with
    | ok o st2 =>
     rw [hs] at h
     cases o with
     | none => exact evComp_px h
     | some t => exact (List.prefix_append _ _).trans (evComp_px h)
    | exc c fs st2 => rw [hs] at h; cases h
    | bad => rw [hs] at h; cases h
  · cases h
theorem compWL_ok {OkL : List V → Prop} {ix : List (Option Nat)} {tg : Tg} {ifs : List E} {el : E} {ρ : Rho} {σ : L2.St} {φ1 : List Addr} {st1 : Sto} {H1 : Hp} {J : L2.It} {xs : List T} {gs : List (Nat × List T)} {ts acc0 : List T} {vs0 : List V} {st' : Sto} {Q : List V → Hp → Prop} (en : En Γ φ1 st1 H1 ρ σ) (rl : Rl Γ φ1 st1 H1) (wk : Wk Γ J xs gs φ1 st1 H1) (r0 : Rps Γ.K (Live φ1 st1) H1 acc0 vs0)
 (hs : ∀ i ∈ tg.slots, ix[i]? = some none) (hn : tg.slots.Nodup) (hz : xs.length + acc0.length ≤ LIM) (hc : evComp gs (stepE F Γ.G ix tg ifs el ρ) xs acc0 st1 = .ok ts st')
 (hQ : ∀ vs H' φ', Rps Γ.K (Live φ' st') H' ts vs → Pt Γ φ1 st1 H1 φ' st' H' → Q vs H')
 (hO : ∀ acc ys φ st H, acc <+: ts → Rps Γ.K (Live φ st) H acc ys → OkL ys) :
 CompG OkL (fun ys => ys.length ≤ sizeLine) (fun ys => ys.length < sizeLine) (emL (tE Γ F el)) vs0 J (L2.pick ix σ) (tGc Γ tg) (tF Γ F ifs) Q H1 := by
 have hL := lim_line
 have l0 := r0.length
 refine ⟨fun i m ys H => m = xs.length - i ∧ i ≤ xs.length ∧ ys.length ≤ acc0.length + i ∧ ∃ φ st acc, Pt Γ φ1 st1 H1 φ st H ∧ Rps Γ.K (Live φ st) H acc ys ∧ evComp gs (stepE F Γ.G ix tg ifs el ρ) (xs.drop i) acc st = .ok ts st', ⟨xs.length, by simp, Nat.zero_le _, by omega, φ1, st1, acc0, Pt.refl rl, r0, by simpa using hc⟩, (fun i m ys H w => by obtain ⟨_, _, _, φ, st, acc, _, r, hev⟩ := w; exact hO acc ys φ st H (evComp_px hev) r), ?_⟩
 rintro i m ys H ⟨rfl, hi, hy, φ, st, acc, pt, r, hev⟩
 by_cases hlt : i < xs.length
 · rw [List.drop_eq_getElem_cons hlt] at hev
   simp only [evComp] at hev
   split at hev
   · rename_i hst
     obtain ⟨go, _⟩ := wk φ st H pt hst
     obtain ⟨g1, g2⟩ := go i xs[i] (List.getElem?_eq_getElem hlt)
     refine .inr ⟨g1, by omega, fun ys' H' => ys'.length ≤ acc0.length + (i + 1) ∧ ∃ φ' st2 acc', Pt Γ φ1 st1 H1 φ' st2 H' ∧ Rps Γ.K (Live φ' st2) H' acc' ys' ∧ evComp gs (stepE F Γ.G ix tg ifs el ρ) (xs.drop (i + 1)) acc' st2 = .ok ts st', fun ys' H' h' => ⟨xs.length - (i + 1), by omega, rfl, hlt, h'.1, h'.2⟩, fun v H3 y => ?_⟩
     obtain ⟨pt3, r3⟩ := g2 v H3 y
     cases hstep : stepE F Γ.G ix tg ifs el ρ xs[i] st with
     | ok o st2 =>
      rw [hstep] at hev
      refine turn_ok (N := fun o H' => match o with
       | some y => (ys ++ [y]).length ≤ acc0.length + (i + 1) ∧ ∃ φ' st2 acc', Pt Γ φ1 st1 H1 φ' st2 H' ∧ Rps Γ.K (Live φ' st2) H' acc' (ys ++ [y]) ∧ evComp gs (stepE F Γ.G ix tg ifs el ρ) (xs.drop _) acc' st2 = .ok ts _
       | none => ys.length ≤ acc0.length + i + 1 ∧ ∃ φ' st2 acc', Pt Γ _ _ H1 φ' st2 H' ∧ Rps _ (Live φ' st2) H' acc' ys ∧ evComp gs _ _ acc' st2 = .ok ts _) ((en.step pt).step pt3) pt3.rl r3 hs hn hstep ?_
      cases o with
      | some t =>
       intro u H' φ' ru p'
       exact ⟨by simp; omega, φ', st2, _, (pt.trans pt3).trans p', (r.step (pt3.trans p').stp).append (.one ru), hev⟩
      | none =>
       intro H' φ' p'
       exact ⟨by omega, φ', st2, acc, (pt.trans pt3).trans p', r.step (pt3.trans p').stp, hev⟩
     | _ => rw [hstep] at hev; cases hev
   · cases hev
 · have ei : i = xs.length := by omega
   subst ei
   rw [List.drop_length] at hev
   simp only [evComp] at hev
   split at hev
   · rename_i hst
     cases hev
     obtain ⟨_, stop⟩ := wk φ _ H pt hst
     exact .inl ⟨stop, by omega, hQ ys H φ r pt⟩
   · cases hev
theorem compW_ok {el} {ρ} {σ} {φ1} {st1} {H1} {J} {xs} {gs} {ts} {st'} {Q} (en : En Γ φ1 st1 H1 ρ σ) (rl : Rl Γ φ1 st1 H1) (wk : Wk Γ J xs gs φ1 st1 H1)
 (hs : ∀ i ∈ tg.slots, ix[i]? = some none) (hn : tg.slots.Nodup) (hz : xs.length ≤ LIM) (hc : evComp gs (stepE F Γ.G ix tg ifs el ρ) xs [] st1 = .ok ts st')
 (hQ : ∀ vs H' φ', Rps Γ.K (Live φ' st') H' ts vs → Pt Γ φ1 st1 H1 φ' st' H' → Q vs H') :
 CompW J (L2.pick ix σ) (tGc Γ tg) (tF Γ F ifs) (tE Γ F el) Q H1 :=
 compWL_ok en rl wk .nil hs hn hz hc hQ fun _ _ _ _ _ _ _ => trivial
theorem ti_of {src} {ρ} {c : List T → Prop} [∀ xs, Decidable (c xs)] {ev : List T → List _ → Sto → Res α} {f} {σ} {φ} {st} {H} {Q} {R} (en : En Γ φ st H ρ σ) (rl : Rl Γ φ st H)
 (af : Af Γ φ st H ((evEs F Γ.G src ρ st).bind fun ws st => match items k ws st with | some (xs, gs) => if c xs then (ev xs gs st).bind f else .bad | none => .bad) Q)
 (h : ∀ {xs gs st1 φ1 H1 J ts st'}, Pt Γ φ st H φ1 st1 H1 → Wk Γ J xs gs φ1 st1 H1 → c xs → ev xs gs st1 = .ok ts st' → Af Γ φ1 st1 H1 (f ts st') Q → R J H1) : tI Γ F k src σ H R := by
 refine ⟨φ, st, ρ, en, rl, ?_⟩
 unfold AfI
 cases h1 : evEs F _ _ ρ st with
 | ok ws st1 =>
  rw [h1] at af
  simp only [Res.bind] at af ⊢
  cases h2 : items k ws _ with
  | none => simp only [h2] at af; exact af.elim
  | some q =>
   obtain ⟨xs, gs⟩ := q
   simp only [h2] at af ⊢
   split at af
   · intro J H1 φ1 pt wk
     have af := Af.re af pt
     cases hc : ev xs gs _ with
     | ok ts st' => rw [hc] at af; exact h pt wk ‹_› hc af
     | _ => rw [hc] at af; exact af.elim
   · exact af.elim
 | _ => rw [h1] at af; exact af.elim
theorem comp_imp {ix} {tg} {k} {src ifs} {el} (hs : ∀ i ∈ tg.slots, ix[i]? = some none) (hn : tg.slots.Nodup) : ∀ σ H Q, tE Γ F (.comp N' ix tg k src ifs el) σ H Q → tComp ix (tI Γ F k src) (tGc Γ tg) (tF Γ F ifs) (tE Γ F el) σ H Q := by
 rintro σ H Q ⟨φ, st, ρ, en, rl, af⟩
 exact ti_of en rl af fun pt wk hz hc af => compW_ok (en.step pt) pt.rl wk hs hn hz hc fun vs H' φ' r p => Af.lst (Af.re af p) p.rl r
theorem s_setx {o i x : Expr} {eo ei e : E} {p pos : Pos} (ho : PE X o (tE Γ F eo)) (hi : PE X i (tE Γ F ei)) (h : PE X x (tE Γ F e)) (hpl : ∀ v, assign (.Subscript o i p) X.env v = (do
 let ov ← holding [v] (eval o X.env)
 let iv ← holding [v, ov] (eval i X.env)
 standAt p
 holding [v, ov, iv] (setItem ov iv v)
 release [v, ov, iv] [])) (hs : swapsWithSole [.Subscript o i p] x pos.line X.env = pure false) (hw : swappedStores [.Subscript o i p] x X.env = pure none)
 (h1 : (assignEach [.Subscript o i p] X.env).map (·.2) = [assign (.Subscript o i p) X.env]) : PS X (.Assign [.Subscript o i p] x pos) (tS Γ F (.setx eo ei e)) := by
 refine L2.PS.imp (ps_asg h (pg_sub ho hi set_list hpl) hs hw h1) ?_
 rintro D σ H ⟨φ, st, ρ, en, rl, af⟩
 simp only [evS] at af
 refine ⟨φ, st, ρ, en, rl, ?_⟩
 cases q1 : evE F Γ.G e ρ st with
 | ok w st1 =>
  rw [q1] at af
  intro v H1 φ1 rw1 pt
  simp only [Res.bind] at af
  cases q2 : frzTo st.length w st1 with
  | ok t st2 =>
   rw [q2] at af
   simp only at af
   obtain ⟨φ2, p2, r2⟩ := frz_ok rl.len pt rw1 q2
   refine ⟨φ2, st2, ρ, en.step p2, p2.rl, ?_⟩
   have af := AfS.re af p2
   cases q3 : evE F _ eo ρ _ with
   | ok x3 st3 =>
    rw [q3] at af
    intro u H3 φ3 rw3 p3
    simp only at af
    refine ⟨φ3, st3, ρ, (en.step p2).step p3, p3.rl, ?_⟩
    have af := AfS.re af p3
    cases q4 : evE F _ ei ρ _ with
    | ok y4 st4 =>
     rw [q4] at af
     intro z H4 φ4 rw4 p4
     simp only at af
     have af := AfS.re af p4
     cases x3 with
     | d _ => cases q5 : look y4 st4 <;> exact af.elim
     | ref k =>
      cases q5 : look y4 _ with
      | none => rw [q5] at af; exact af.elim
      | some ty =>
       rw [q5] at af
       cases ty with
       | int n =>
        cases q6 : st4[k]? with
        | none => simp only [q6] at af; exact af.elim
        | some oo =>
         cases oo with
         | none => simp only [q6] at af; exact af.elim
         | some xs =>
          simp only [q6] at af
          cases q7 : ixN xs.length n with
          | none => simp only [q7] at af; exact af.elim
          | some j =>
           simp only [q7] at af
           obtain ⟨a, e3, rfl⟩ := rw3
           have e4 := p4.pre k a e3
           obtain ⟨vs, h5, r5⟩ := p4.rl.at_ k xs a e4 q6
           refine ⟨a, vs, n, j, rfl, rw4.int p4.rl q5, h5, by rw [r5.length]; exact q7, ?_⟩
           have rt := Rp.step (p3.trans p4).stp r2
           have pw := p4.rl.write (vs := []) e4 q6 (r5.set rt j)
           exact af σ _ _ ((((en.step p2).step p3).step p4).step pw) pw
       | _ => exact af.elim
    | _ => rw [q4] at af; exact af.elim
   | _ => rw [q3] at af; exact af.elim
  | _ => rw [q2] at af; exact af.elim
 | _ => rw [q1] at af; exact af.elim
end
end I
end
section
namespace L2
end L2
namespace I
open PySem L2 PySem.Spec PyProof.Rows
end I
end
section
namespace I
open PySem L2 PySem.Spec PyProof.Rows
end I
end
section
namespace I
open PySem L2 PySem.Spec PyProof.Rows
end I
end
section
namespace I
open PySem L2 PySem.Spec PyProof.Rows
section
variable {Γ : Gm} {F : FT}
theorem genW_ok {d b : Bool} {ix : List (Option Nat)} {tg : Tg} {ifs : List E} {el : E} {ρ : Rho} {σ : L2.St} {φ1 : List Addr} {st1 : Sto} {H1 : Hp} {J : L2.It} {xs : List T} {gs : List (Nat × List T)} {st' : Sto} {Q : VK} (en : En Γ φ1 st1 H1 ρ σ) (rl : Rl Γ φ1 st1 H1) (wk : Wk Γ J xs gs φ1 st1 H1)
 (hs : ∀ i ∈ tg.slots, ix[i]? = some none) (hn : tg.slots.Nodup) (hc : evAll d gs (stepE F Γ.G ix tg ifs el ρ) xs st1 = .ok b st')
 (hQ : ∀ H' φ', Pt Γ φ1 st1 H1 φ' st' H' → Q (.bl b) H') :
 GenW d J (L2.pick ix σ) (tGc Γ tg) (tF Γ F ifs) (tE Γ F el) Q H1 := by
 refine ⟨fun i m H => m = xs.length - i ∧ i ≤ xs.length ∧ ∃ φ st, Pt Γ φ1 st1 H1 φ st H ∧ evAll d gs (stepE F Γ.G ix tg ifs el ρ) (xs.drop i) st = .ok b st', ⟨xs.length, by simp, Nat.zero_le _, φ1, st1, Pt.refl rl, by simpa using hc⟩, ?_⟩
 rintro i m H ⟨rfl, hi, φ, st, pt, hev⟩
 by_cases hlt : i < xs.length
 · rw [List.drop_eq_getElem_cons hlt] at hev
   simp only [evAll] at hev
   split at hev
   · rename_i hst
     obtain ⟨go, _⟩ := wk φ st H pt hst
     obtain ⟨g1, g2⟩ := go i xs[i] (List.getElem?_eq_getElem hlt)
     refine .inr ⟨g1, fun H' => ∃ φ' st2, Pt Γ φ1 st1 H1 φ' st2 H' ∧ evAll d gs (stepE F Γ.G ix tg ifs el ρ) (xs.drop (i + 1)) st2 = .ok b st', fun H' h' => ⟨xs.length - (i + 1), by omega, rfl, hlt, h'⟩, fun v H3 y => ?_⟩
     obtain ⟨pt3, r3⟩ := g2 v H3 y
     cases hstep : stepE F Γ.G ix tg ifs el ρ xs[i] st with
     | ok o st2 =>
      rw [hstep] at hev
      simp only [Res.bind] at hev
      refine turn_ok (N := fun o H' => match o with
       | some y => ∃ c, y = .bl c ∧ (if c = d then ∃ φ' st2, Pt Γ φ1 st1 H1 φ' st2 H' ∧ evAll d gs (stepE F Γ.G ix tg ifs el ρ) (xs.drop (i + 1)) st2 = .ok b st' else Q (.bl c) H')
       | none => ∃ φ' st2, Pt Γ φ1 st1 H1 φ' st2 H' ∧ evAll d gs (stepE F Γ.G ix tg ifs el ρ) (xs.drop (i + 1)) st2 = .ok b st') ((en.step pt).step pt3) pt3.rl r3 hs hn hstep ?_
      cases o with
      | some t =>
       intro u H' φ' ru p'
       cases t with
       | bl c =>
        cases (show u = .bl c from ru)
        refine ⟨c, rfl, ?_⟩
        simp only at hev
        by_cases hcd : c = d
        · rw [if_pos hcd]
          rw [if_pos (by simpa using hcd)] at hev
          exact ⟨φ', st2, (pt.trans pt3).trans p', hev⟩
        · rw [if_neg hcd]
          rw [if_neg (by simpa using hcd)] at hev
          cases hev
          rw [show c = !d by cases c <;> cases d <;> simp_all]
          exact hQ H' φ' ((pt.trans pt3).trans p')
       | _ => cases hev
      | none =>
       intro H' φ' p'
       exact ⟨φ', st2, (pt.trans pt3).trans p', hev⟩
     | _ => rw [hstep] at hev; cases hev
   · cases hev
 · have ei : i = xs.length := by omega
   subst ei
   rw [List.drop_length] at hev
   simp only [evAll] at hev
   split at hev
   · rename_i hst
     cases hev
     obtain ⟨_, stop⟩ := wk φ _ H pt hst
     exact .inl ⟨stop, hQ H φ pt⟩
   · cases hev
def gqB : Bool → Gq
 | true => .all
 | false => .any
theorem gen_impA {d : Bool} {N' : List Str} {ix : List (Option Nat)} {tg : Tg} {k : Ik} {src ifs : List E} {el : E} {P : Addr} (hP : P ∈ Γ.tabs) (hs : ∀ i ∈ tg.slots, ix[i]? = some none) (hn : tg.slots.Nodup) : ∀ σ H Q, tE Γ F (.gen (gqB d) N' ix tg k src ifs el) σ H Q → tGen d P ix (tI Γ F k src) (tGc Γ tg) (tF Γ F ifs) (tE Γ F el) σ H Q := by
 rintro σ H Q ⟨φ, st, ρ, en, rl, af⟩
 exact ti_of (c := (·.length ≤ LIM)) (ev := fun xs gs => evAll d gs (stepE F Γ.G ix tg ifs el ρ) xs) (f := fun b st => .ok (.d (.bl b)) st) en rl (by cases d <;> exact af) fun pt wk _ hc af => ⟨pt.rl.tab P hP, genW_ok (en.step pt) pt.rl wk hs hn hc fun H' φ' p => Af.now (Af.re af p) p.rl rfl⟩
end
end I
end
section
namespace I
open PySem L2 PySem.Spec PyProof.Rows
section
variable {Γ : Gm} {F : FT} {X : Cx}
theorem trg_ok {a} {p1 p2 q1 q2} (hr : X.A.handled = none) (hg1 : Gl X "tuple") (hg2 : Gl X "range") (hm1 : X.mg "tuple" = none) (hm2 : X.mg "range" = none) (hx : starEach [x] X.env = [(false, eval x X.env)]) (h : PE X x (tE Γ F a)) : PE X (.Call (.Name "tuple" p1) [.Call (.Name "range" p2) [x] [] q2] [] q1) (tE Γ F (.trg a)) := by
 refine L2.PE.imp (pe_tupR hr hg1 hg2 hm1 hm2 h hx) ?_
 rintro σ H Q ⟨φ, st, ρ, en, rl, af⟩
 refine ⟨φ, st, ρ, en, rl, af.bind.mono fun v H1 hh => ?_⟩
 obtain ⟨w, st1, φ1, rw1, pt, af1⟩ := hh
 unfold trgW at af1
 cases h2 : look w _ with
 | none => rw [h2] at af1; exact af1.elim
 | some t =>
  rw [h2] at af1
  cases t with
  | int n =>
   have af2 : Af Γ _ _ H1 (if 0 ≤ n ∧ n ≤ 1000 then .ok _ _ else .bad) Q := af1
   by_cases hz : 0 ≤ n ∧ n ≤ 1000
   · rw [if_pos hz] at af2
     obtain ⟨m, rfl⟩ : ∃ m : Nat, n = m := ⟨n.toNat, by omega⟩
     have e1 : rng 0 (m : Int).toNat = ((List.range m).map fun (i : Nat) => (i : Int)).map T.int := by
      rw [List.map_map]
      exact List.map_congr_left fun i _ => by rw [Int.zero_add]; rfl
     have e2 : ((List.range m).map fun (i : Nat) => V.int i) = ((List.range m).map fun (i : Nat) => (i : Int)).map V.int := by rw [List.map_map]; rfl
     rw [e1] at af2
     exact ⟨m, rw1.int pt.rl h2, by omega, e2 ▸ Af.tup af2 pt.rl (Rps.ofInts _)⟩
   · rw [if_neg hz] at af2
     exact af2.elim
  | _ => exact af1.elim
end
end I
end
section
namespace L2
end L2
namespace I
open PySem L2 PySem.Spec PyProof.Rows
end I
end
section
namespace L2
end L2
end
section
namespace I
open PySem L2 PySem.Spec PyProof.Rows
end I
end
section
namespace I
open PySem L2 PySem.Spec PyProof.Rows
def sumL (ys : List Str) : Nat := (ys.map (·.length)).sum
section
variable {Γ : Gm} {F : FT} {X : Cx}
def AfJ (Γ : Gm) (φ : List Addr) (st : Sto) (H : Hp) (acc : Str) (r : Res (List T)) (Q : VK) : Prop :=
 match r with
 | .ok ts st' => match fmtsT ts with
  | some ys => acc.length + sumL ys ≤ LIM ∧ ∀ H' φ', Pt Γ φ st H φ' st' H' → Q (.str (ys.foldl (· ++ ·) acc)) H'
  | none => False
 | _ => False
def tJ (Γ : Gm) (F : FT) (es : List E) : TJ := fun acc σ H Q => ∃ φ st ρ, En Γ φ st H ρ σ ∧ Rl Γ φ st H ∧ AfJ Γ φ st H acc (evTs F Γ.G es ρ st) Q
theorem _root_.L2.PJ.imp {X : Cx} {ps : List Expr} {t u : TJ} (h : PJ X ps t) (i : ∀ acc σ H Q, u acc σ H Q → t acc σ H Q) : PJ X ps u := fun pins s σ H acc Q I q => h pins s σ H acc Q I (i acc σ H Q q)
theorem j_nil : PJ X [] (tJ Γ F []) := L2.PJ.imp pj_nil fun acc σ H Q ⟨φ, st, ρ, en, rl, af⟩ => by
 have af : acc.length + sumL [] ≤ LIM ∧ ∀ H' φ', Pt Γ φ st H φ' st H' → Q (.str acc) H' := af
 exact ⟨Nat.le_trans af.1 lim_line, af.2 H φ (Pt.refl rl)⟩
theorem fmts_cons {t : T} {ts : List T} {zs : List Str} (h : fmtsT (t :: ts) = some zs) : ∃ y ys, fmtT t = some y ∧ fmtsT ts = some ys ∧ zs = y :: ys := by
 have h : (match fmtT t, fmtsT ts with | some y, some ys => some (y :: ys) | _, _ => none) = some zs := h
 cases h1 : fmtT t with
 | none => rw [h1] at h; cases h
 | some y =>
  cases h2 : fmtsT ts with
  | none => rw [h1, h2] at h; cases h
  | some ys => rw [h1, h2] at h; cases h; exact ⟨y, ys, rfl, rfl, rfl⟩
theorem fmt_v {L : Addr → Prop} {H : Hp} {t : T} {v : V} {y : Str} (r : Rp Γ.K L H t v) (h : fmtT t = some y) : FmtV v y := by
 cases t with
 | str z =>
  obtain ⟨hz, rfl⟩ := opt_if (show (if z.length ≤ LIM then some z else none) = some y from h)
  cases (show v = .str z from r)
  exact ⟨rfl, Nat.le_trans hz lim_line⟩
 | int i =>
  obtain ⟨hz, rfl⟩ := opt_if (show (if i.natAbs.log2 < 1920 then some (Str.ofString (toString i)) else none) = some y from h)
  cases (show v = .int i from r)
  exact ⟨rfl, hz⟩
 | _ => cases h
theorem sum_cons (y : Str) (ys : List Str) : sumL (y :: ys) = y.length + sumL ys := by unfold sumL; rw [List.map_cons, List.sum_cons]
theorem j_fmt {x : Expr} {xs : List Expr} {e : E} {es : List E} {pos : Pos} (h : PE X x (tE Γ F e)) (hs : PJ X xs (tJ Γ F es)) : PJ X (.FormattedValue x (-1) none pos :: xs) (tJ Γ F (e :: es)) := by
 refine L2.PJ.imp (pj_fmt h hs) ?_
 rintro acc σ H Q ⟨φ, st, ρ, en, rl, af⟩
 have af : AfJ Γ φ st H acc ((evE F Γ.G e ρ st).bind fun w st' => (frzTo st.length w st').bind fun t st => (evTs F Γ.G es ρ st).bind fun ts st => .ok (t :: ts) st) Q := af
 refine ⟨φ, st, ρ, en, rl, ?_⟩
 cases h1 : evE F Γ.G e ρ st with
 | ok w st1 =>
  rw [h1] at af
  intro v H1 φ1 rw1 pt
  have af : AfJ Γ φ st H acc ((frzTo st.length w st1).bind fun t st => (evTs F Γ.G es ρ st).bind fun ts st => .ok (t :: ts) st) Q := af
  cases h2 : frzTo st.length w st1 with
  | ok t st2 =>
   rw [h2] at af
   have af : AfJ Γ φ st H acc ((evTs F Γ.G es ρ st2).bind fun ts st => .ok (t :: ts) st) Q := af
   obtain ⟨φ2, p2, r2⟩ := frz_ok rl.len pt rw1 h2
   cases h3 : evTs F Γ.G es ρ st2 with
   | ok ts st3 =>
    rw [h3] at af
    have af : (match fmtsT (t :: ts) with | some ys => acc.length + sumL ys ≤ LIM ∧ ∀ H' φ', Pt Γ φ st H φ' st3 H' → Q (.str (ys.foldl (· ++ ·) acc)) H' | none => False) := af
    cases h4 : fmtsT (t :: ts) with
    | none => rw [h4] at af; exact af.elim
    | some zs =>
     rw [h4] at af
     obtain ⟨hz, q⟩ := af
     obtain ⟨y, ys, f1, f2, rfl⟩ := fmts_cons h4
     rw [sum_cons] at hz
     have hl := Str.length_append acc y
     refine ⟨y, fmt_v r2 f1, Nat.le_trans (by omega) lim_line, φ2, st2, ρ, en.step p2, p2.rl, ?_⟩
     rw [h3]
     show (match fmtsT ts with | some ys => (acc ++ y).length + sumL ys ≤ LIM ∧ ∀ H' φ', Pt Γ φ2 st2 H1 φ' st3 H' → Q (.str (ys.foldl (· ++ ·) (acc ++ y))) H' | none => False)
     rw [f2]
     exact ⟨by omega, fun H' φ' p => q H' φ' (p2.trans p)⟩
   | _ => rw [h3] at af; exact af.elim
  | _ => rw [h2] at af; exact af.elim
 | _ => rw [h1] at af; exact af.elim
theorem j_txt {y : Str} {k : Nat} {pos : Pos} {xs : List Expr} {es : List E} (hs : PJ X xs (tJ Γ F es)) : PJ X (.Constant (.str y) k pos :: xs) (tJ Γ F (.c (.str y) :: es)) := by
 refine L2.PJ.imp (pj_txt pe_str hs) ?_
 rintro acc σ H Q ⟨φ, st, ρ, en, rl, af⟩
 have af : AfJ Γ φ st H acc ((evTs F Γ.G es ρ (st.take st.length)).bind fun ts st => .ok (.str y :: ts) st) Q := af
 rw [List.take_length] at af
 cases h3 : evTs F Γ.G es ρ st with
 | ok ts st3 =>
  rw [h3] at af
  have af : (match fmtsT (.str y :: ts) with | some ys => acc.length + sumL ys ≤ LIM ∧ ∀ H' φ', Pt Γ φ st H φ' st3 H' → Q (.str (ys.foldl (· ++ ·) acc)) H' | none => False) := af
  cases h4 : fmtsT (.str y :: ts) with
  | none => rw [h4] at af; exact af.elim
  | some zs =>
   rw [h4] at af
   obtain ⟨hz, q⟩ := af
   obtain ⟨y', ys, f1, f2, rfl⟩ := fmts_cons h4
   obtain ⟨hy, rfl⟩ := opt_if (show (if y.length ≤ LIM then some y else none) = some y' from f1)
   rw [sum_cons] at hz
   have hl := Str.length_append acc y
   refine ⟨Nat.le_trans (by omega) lim_line, φ, st, ρ, en, rl, ?_⟩
   rw [h3]
   show (match fmtsT ts with | some ys => (acc ++ y).length + sumL ys ≤ LIM ∧ ∀ H' φ', Pt Γ φ st H φ' st3 H' → Q (.str (ys.foldl (· ++ ·) (acc ++ y))) H' | none => False)
   rw [f2]
   exact ⟨by omega, q⟩
 | _ => rw [h3] at af; exact af.elim
theorem fst_imp {es : List E} : ∀ σ H Q, tE Γ F (.fst es) σ H Q → tJ Γ F es Str.empty σ H Q := by
 rintro σ H Q ⟨φ, st, ρ, en, rl, af⟩
 have af : Af Γ φ st H ((evTs F Γ.G es ρ st).bind fun ts st => match fmtsT ts with
  | some ys => if (ys.map (·.length)).sum ≤ LIM then .ok (.d (.str (ys.foldl (· ++ ·) Str.empty))) st else .bad
  | none => .bad) Q := af
 refine ⟨φ, st, ρ, en, rl, ?_⟩
 cases h3 : evTs F Γ.G es ρ st with
 | ok ts st3 =>
  rw [h3] at af
  have af : Af Γ φ st H (match fmtsT ts with
   | some ys => if (ys.map (·.length)).sum ≤ LIM then .ok (.d (.str (ys.foldl (· ++ ·) Str.empty))) st3 else .bad
   | none => .bad) Q := af
  show (match fmtsT ts with | some ys => Str.empty.length + sumL ys ≤ LIM ∧ ∀ H' φ', Pt Γ φ st H φ' st3 H' → Q (.str (ys.foldl (· ++ ·) Str.empty)) H' | none => False)
  cases h4 : fmtsT ts with
  | none => rw [h4] at af; exact af.elim
  | some ys =>
   rw [h4] at af
   have af : Af Γ φ st H (if (ys.map (·.length)).sum ≤ LIM then .ok (.d (.str (ys.foldl (· ++ ·) Str.empty))) st3 else .bad) Q := af
   split at af
   · rename_i hz
     exact ⟨by show 0 + sumL ys ≤ LIM; unfold sumL; omega, fun H' φ' p => af _ H' φ' rfl p⟩
   · exact af.elim
 | _ => rw [h3] at af; exact af.elim
theorem gc_nt {i : Nat} {is : List Nat} {x : Str} {es : List Expr} {k k2 : Nat} {p p2 pos : Pos} (hK : X.K = Γ.K) (hc : X.calm = true) (hN : X.N.Nodup) (h0 : X.N[i]? = some x ∧ Loc X.env.scope x ∧ (X.fn x = true ∨ X.env.scope.names.lookup x = some .local)) (h : nmsOk X is es) : PG X (.Tuple [.Name x p, .Tuple es k2 p2] k pos) (tGc Γ (.nt i is)) := by
 obtain ⟨a, b, c⟩ := gs_names hN h
 refine L2.PG.imp (pgK_tup (n := 2) hK hc (pgs_cons (pg_name hN h0.1 h0.2.1 h0.2.2) (pgs_cons (pgK_tup hK hc a b c) pgs_nil rfl) rfl) rfl rfl) ?_
 rintro v σ H Q ⟨φ, st, ρ, w, ρ', en, rl, rw1, hb, hs, hn, q⟩
 cases w with
 | ref k => cases hb
 | d t =>
  match t, hb with
  | .tup [u, .tup ys], hb =>
   obtain ⟨⟨h1, h2⟩, rfl⟩ := opt_if (show (if is.length = ys.length ∧ (i :: is).all (· < ρ.length) = true then some _ else none) = some ρ' from hb)
   obtain ⟨a1, vs, rfl, h3, v1, r1, rfl, r2, v2, r3, rfl, r4, r5⟩ := rw1
   cases (show r3 = [] from r5)
   obtain ⟨a2, us, rfl, h5, h6⟩ := r4
   have s1 : L2.Sub σ (σ.set i (some v1)) := Sub.set (hs i List.mem_cons_self)
   have hn' : i ∉ is ∧ is.Nodup := List.nodup_cons.mp hn
   refine ⟨a1, _, rfl, h3.sq, rfl, v1, _, rfl, .ref a2, _, rfl, a2, us, rfl, h5.sq, by rw [h6.length, h1], names_setc h1 h6 (en.set (w := .d u) r2) (fun j hj => ?_) hn'.2 fun σ' en' s' => ⟨rfl, q σ' en' (s1.trans s')⟩⟩
   have : i ≠ j := fun z => hn'.1 (z ▸ hj)
   rw [List.getElem?_set_ne this]
   exact hs j (List.mem_cons_of_mem _ hj)
end
end I
end
section
namespace I
open PySem L2 PySem.Spec PyProof.Rows
theorem andB {a b : Bool} (h : (a && b) = true) : a = true ∧ b = true := Bool.and_eq_true_iff.mp h
structure Sg where
 gn : Nat → Option Str
 fns : Nat → Option (Str × List Str)
 mth : Nat → Option (Str × Str × List Str)
 cls : Str → Bool
 sub : Str → Str → Bool → Bool
set_option genInjectivity false in
structure Ck where
 N : List Str
 sc : Scope
 own : Bool
 gx : Bool
def vis (sc : Scope) (x : Str) : Bool := match sc.names.lookup x with
 | some .local => true
 | some .cell => true
 | some .free => true
 | _ => false
def glb (sc : Scope) (x : Str) : Bool := sc.names.lookup x == some .globalImplicit
def locOk (C : Ck) (x : Str) : Bool := match C.sc.names.lookup x with
 | some .local => true
 | some .cell => C.own
 | _ => false
def noStar : Expr → Bool
 | .Starred _ _ => false
 | _ => true
def plainT : Expr → Bool
 | .UnaryOp .Not _ _ => false
 | .BoolOp _ _ _ => false
 | .IfExp _ _ _ _ => false
 | .Compare _ _ _ _ => false
 | _ => true
def plainIx : Expr → Bool
 | .Slice _ _ _ _ => false
 | _ => true
def noSet : Expr → Bool
 | .Set _ _ _ => false
 | _ => true
def noLst : Expr → Bool
 | .List _ _ => false
 | .Set _ _ _ => false
 | _ => true
def genOk (sc : Scope) : Bool := !sc.isCoroutine && sc.names.lookup (".0" : Str) == some .local
def noComp : Expr → Bool
 | .ListComp _ _ _ _ => false
 | .SetComp _ _ _ _ => false
 | .DictComp _ _ _ _ _ => false
 | _ => true
def isLc : Expr → Bool
 | .ListComp _ _ _ _ => true
 | _ => false
def isTupE : Expr → Bool
 | .Tuple _ _ _ => true
 | _ => false
def plainB : Expr → Bool
 | .Call (.Name x _) [] [] _ => !(x == ("super" : Str))
 | _ => true
def constOk : T → Const → Bool
 | .int i, .int j => i == j
 | .str x, .str y => x == y
 | .bl a, .bool b => a == b
 | .non, .none => true
 | _, _ => false
def tyName : Ty → String
 | .int => "int"
 | .bool => "bool"
 | .str => "str"
 | .tuple => "tuple"
 | .list => "list"
def bfName : Bf → Option Str
 | .len => some "len"
 | .tuple => some "tuple"
 | .list => some "list"
 | .int => some "int"
 | .str => some "str"
 | .min2 => some "min"
 | .max2 => some "max"
 | .all => some "all"
 | _ => none
def mtName : Mt → Option Str
 | .append => some "append"
 | .reverse => some "reverse"
 | .join => some "join"
 | .insert => some "insert"
 | .split => some "split"
 | _ => none
def mtAr : Mt → List Expr → Bool
 | .append, [_] => true
 | .reverse, [] => true
 | .clear, [] => true
 | .join, [_] => true
 | .insert, [_, _] => true
 | .remove, [_] => true
 | .split, [_] => true
 | _, _ => false
theorem mtAr_few {m : Mt} {ys : List Expr} (h : mtAr m ys = true) : ys.length < 30 := by
 unfold mtAr at h
 split at h <;> first | (cases h; done) | simp
def callA (f : Str) (n : Nat) (it : Expr) : Option (List Expr) := match it with
 | .Call (.Name g _) ys [] _ => if g == f && ys.length == n then some ys else none
 | _ => none
theorem callA_is {ys} (h : callA f n it = some ys) : ∃ p pos, it = .Call (.Name f p) ys [] pos ∧ ys.length = n := by
 cases it <;> first | (cases h) | skip
 rename_i fn zs kw pos
 cases fn <;> first | (cases h) | skip
 cases kw with
 | cons _ _ => cases h
 | nil =>
  obtain ⟨h1, rfl⟩ := opt_if h
  simp_all
def itArgs (k : Ik) (it : Expr) : Option (List Expr) := match k with
 | .seq => some [it]
 | .rng1 => callA "range" 1 it
 | .rng2 => none
 | .enm => callA "enumerate" 1 it
 | .zp => callA "zip" 2 it
def itName : Ik → Option Str
 | .seq => none
 | .rng1 => some "range"
 | .rng2 => some "range"
 | .enm => some "enumerate"
 | .zp => some "zip"
def itTg : Ik → Expr → Bool
 | .enm, t => isTupE t
 | .zp, t => isTupE t
 | _, _ => true
def nmOk (C : Ck) (i : Nat) (x : Str) : Bool := C.N[i]? == some x && locOk C x
def nmsOkB (C : Ck) : List Nat → List Expr → Bool
 | [], [] => true
 | i :: is, .Name x _ :: es => nmOk C i x && nmsOkB C is es
 | _, _ => false
def gqOk : Gq → Str → Bool
 | .tuple, f => f == ("tuple" : Str)
 | .sum, f => f == ("sum" : Str)
 | .all, f => f == ("all" : Str)
 | .any, f => f == ("any" : Str)
 | _, _ => false
def tgOk (C : Ck) : Tg → Expr → Bool
 | .nm i, .Name x _ => nmOk C i x
 | .tp is, .Tuple es _ _ => nmsOkB C is es
 | .nt i is, .Tuple [.Name x _, .Tuple es _ _] _ _ => nmOk C i x && nmsOkB C is es
 | _, _ => false
def rlb (scope sc : Scope) : Scope := { scope with names := scope.names.map fun (n, k) => if (k == .free && sc.kind == .function && sc.names.lookup n == some .cell) then (n, .cell) else (n, k) }
def namesOk (N : List Str) : Bool := N.all fun x => !(x == ("__debug__" : Str)) && !(x == ("__classdict__" : Str))
def slotsFree (ix : List (Option Nat)) (t : Tg) : Bool := t.slots.all (fun i => ix[i]? == some none) && decide t.slots.Nodup
def blkOk (C : Ck) (scope : Scope) (N' : List Str) (ix : List (Option Nat)) (t : Tg) : Bool := compOk C.sc C.N scope N' ix && decide N'.Nodup && namesOk N' && slotsFree ix t
theorem free_is {ix : List (Option Nat)} {t : Tg} (h : slotsFree ix t = true) : (∀ i ∈ t.slots, ix[i]? = some none) ∧ t.slots.Nodup :=
 have h := andB h
 ⟨fun i hi => eq_of_beq (List.all_eq_true.mp h.1 i hi), of_decide_eq_true h.2⟩
theorem blk_is {C : Ck} {scope : Scope} {N' : List Str} {ix : List (Option Nat)} {t : Tg} (h : blkOk C scope N' ix t = true) : compOk C.sc C.N scope N' ix = true ∧ decide N'.Nodup = true ∧ namesOk N' = true ∧ (∀ i ∈ t.slots, ix[i]? = some none) ∧ t.slots.Nodup :=
 have h := andB h
 have h1 := andB h.1
 have h2 := andB h1.1
 ⟨h2.1, h2.2, h1.2, free_is h.2⟩
def constOk' (e : E) (z : Str) : Bool := match e with
 | .c (.str y) => y == z
 | _ => false
theorem constOk'_is {e : E} {z : Str} (h : constOk' e z = true) : e = .c (.str z) := by
 cases e <;> first | (cases h; done) | skip
 rename_i t
 cases t <;> first | (cases h; done) | skip
 rename_i y
 rw [eq_of_beq (show (y == z) = true from h)]
section
variable (S : Sg)
mutual
def okE : E → Ck → Expr → Bool
 | .v i, C, .Name x _ => C.N[i]? == some x && vis C.sc x
 | .c t, _, .Constant c _ _ => constOk t c
 | .c t, _, .UnaryOp .USub (.Constant (.int j) _ _) _ => constOk t (.int (-j))
 | .g j, C, .Name x _ => S.gn j == some x && glb C.sc x && !(x == ("__debug__" : Str))
 | .bin o a b, C, .BinOp x op y _ => bopOf op == some o && okE a C x && okE b C y
 | .cmp o a b, C, .Compare x [op] [y] _ => copOf op == some o && !behindInMarks op y && okE a C x && okE b C y
 | .isN a, C, .Compare x [.Is] [.Constant .none _ _] _ => okE a C x
 | .notN a, C, .Compare x [.IsNot] [.Constant .none _ _] _ => okE a C x
 | .and a b, C, .BoolOp .And (x :: y :: r) pos => okE a C x && okE b C (match r with | [] => y | _ :: _ => .BoolOp .And (y :: r) pos)
 | .or a b, C, .BoolOp .Or (x :: y :: r) pos => okE a C x && okE b C (match r with | [] => y | _ :: _ => .BoolOp .Or (y :: r) pos)
 | .not a, C, .UnaryOp .Not x _ => okE a C x
 | .tup es, C, .Tuple xs _ _ => okEs es C xs
 | .lst es, C, .List xs _ => okEs es C xs
 | .ix a b, C, .Subscript x y _ => plainIx y && okE a C x && okE b C y
 | .sl a lo hi, C, .Subscript x (.Slice l h none _) _ => okE a C x && okO lo C l && okO hi C h
 | .trg a, C, .Call (.Name f _) [.Call (.Name g _) [x] [] _] [] _ => f == ("tuple" : Str) && g == ("range" : Str) && glb C.sc f && glb C.sc g && noStar x && okE a C x
 | .fst ps, C, .JoinedStr (x :: y :: xs) _ => okFs ps C (x :: y :: xs)
 | .call f es, C, .Call (.Name x _) (y :: ys) [] _ => (match S.fns f with
  | some (z, ps) => x == z && ps.length == es.length
  | none => false) && glb C.sc x && !(x == ("__debug__" : Str)) && okEs es C (y :: ys)
 | .call f es, C, .Call (.Name x _) [] [] _ => es.isEmpty && (match S.fns f with
  | some (z, ps) => x == z && ps.length == 0
  | none => false) && glb C.sc x && !(x == ("__debug__" : Str))
 | .bf f es, C, .Call (.Name x _) (y :: ys) [] _ => bfName f == some x && glb C.sc x && okEs es C (y :: ys)
 | .meth m o es, C, .Call (.Attribute x a ap) ys [] cp => mtName m == some a && plainB x && ap.endLine == cp.line && mtAr m ys && okE o C x && okEs es C ys
 | .isi t a, C, .Call (.Name f _) [x, .Name y _] [] _ => f == ("isinstance" : Str) && y == Str.ofString (tyName t) && glb C.sc f && glb C.sc y && noStar x && okE a C x
 | .frz e, C, x => okE e C x
 | .tr e, C, x => okE e C x
 | .comp N' ix t k src ifs el, C, .ListComp x [⟨tg, it, fs, n⟩] scope _ => n == 0 && blkOk C scope N' ix t && noSet it && itTg k tg && (match itName k with | some f => glb C.sc f | none => true) && (match itArgs k it with
  | some ys => okEs src C ys
  | none => false) && tgOk ⟨N', rlb scope C.sc, false, false⟩ t tg && okEs ifs ⟨N', rlb scope C.sc, false, false⟩ fs && okE el ⟨N', rlb scope C.sc, false, false⟩ x
 | .gen q N' ix t k src ifs el, C, .Call (.Name f _) [.GeneratorExp x [⟨tg, it, fs, n⟩] scope _] [] _ => gqOk q f && C.gx && glb C.sc f && n == 0 && blkOk C scope N' ix t && genOk scope && noLst it && itTg k tg && (match itName k with | some f => glb C.sc f | none => true) && (match itArgs k it with
  | some ys => okEs src C ys
  | none => false) && tgOk ⟨N', scope, false, false⟩ t tg && okEs ifs ⟨N', scope, false, false⟩ fs && okE el ⟨N', scope, false, false⟩ x
 | _, _, _ => false
def okEs : List E → Ck → List Expr → Bool
 | [], _, [] => true
 | e :: es, C, x :: xs => noStar x && okE e C x && okEs es C xs
 | _, _, _ => false
def okFs : List E → Ck → List Expr → Bool
 | [], _, [] => true
 | e :: es, C, .Constant (.str z) _ _ :: xs => constOk' e z && okFs es C xs
 | e :: es, C, .FormattedValue x q none _ :: xs => q == -1 && okE e C x && okFs es C xs
 | _, _, _ => false
def okO : Option E → Ck → Option Expr → Bool
 | none, _, none => true
 | some e, C, some x => okE e C x
 | _, _, _ => false
end
end
structure Gd (Γ : Gm) (n : Nat) (C : Ck) (X : Cx) : Prop where
 prog : X.prog = Γ.P
 w : X.w = Γ.w
 K : X.K = Γ.K
 mg : X.mg = Γ.mg
 base : X.base = Γ.base
 calm : X.calm = true
 N : X.N = C.N
 sc : X.env.scope = C.sc
 room : Room (2 * n) X.A
 nd : C.N.Nodup
 nm : namesOk C.N = true
 own : C.own = true → ∀ x, X.fn x = true
 xe : X.xe = fun _ _ => False
 cd : C.gx = true → Bm X.mg X.base ∧ Room (2 * n + 1) X.A ∧ ∃ c P, X.env.code = .ref c ∧ PySem.W.CodeHd X.base c P ∧ P ∈ Γ.tabs
structure Fk (Γ : Gm) (S : Sg) (n : Nat) (F : FT) : Prop where
 gn : S.gn = Γ.gn
 has : ∀ (j : Nat) (x : Str) (ps : List Str), S.fns j = some (x, ps) → Has Γ.P Γ.w Γ.K Γ.mg Γ.base (2 * n) x ps (spF Γ F j ps.length)
 mth : ∀ (j : Nat) (q m : Str) (ps : List Str), S.mth j = some (q, m, ps) → ∃ C, ClsNm Γ.K C q ∧ Cls Γ.K C ∧ HasM Γ.P Γ.w Γ.K Γ.mg Γ.base (2 * n) C m ps (spF Γ F j ps.length)
 cls : ∀ q, S.cls q = true → ∃ C, ClsNm Γ.K C q ∧ Γ.mg q = some (.ref C) ∧ Mk0 Γ.K C
 sub : ∀ q q' b, S.sub q q' b = true → ∃ C C', ClsNm Γ.K C q ∧ Γ.mg q' = some (.ref C') ∧ Cls Γ.K C ∧ IsO Γ.K C C' b
 g : GOk Γ
 blt : ∀ x ∈ ([("len" : Str), "tuple", "list", "int", "str", "min", "max", "all", "range", "enumerate", "zip", "any", "sum", "sorted", "set", "isinstance", "bool", "reversed"] : List Str), Γ.mg x = none
theorem namesOk_at (h : namesOk N = true) {i : Nat} {x} (e : N[i]? = some x) : (x == "__debug__") = false ∧ (x == "__classdict__") = false := by
 have := List.all_eq_true.mp h x (List.mem_of_getElem? e)
 simpa using this
section
variable {Γ : Gm} {S : Sg} {n : Nat} {F : FT} {X : Cx} {C : Ck}
theorem vis_ok (h : vis C.sc x = true) (hs : X.env.scope = C.sc) : Vis X.env.scope x := by
 unfold vis at h
 unfold Vis
 split at h <;> simp_all
theorem glb_ok (h : glb C.sc x = true) (hs : X.env.scope = C.sc) : Gl X x := by
 unfold Gl Env.kindOf
 rw [hs]
 unfold glb at h
 simpa using h
theorem loc_ok (G : Gd Γ n C X) {i} {x} (h : nmOk C i x = true) : X.N[i]? = some x ∧ Loc X.env.scope x ∧ (X.fn x = true ∨ X.env.scope.names.lookup x = some .local) := by
 unfold nmOk at h
 simp only [Bool.and_eq_true, beq_iff_eq] at h
 obtain ⟨h1, h2⟩ := h
 rw [G.N, G.sc]
 refine ⟨h1, ?_⟩
 unfold locOk at h2
 unfold L2.Loc
 split at h2
 · simp_all
 · rename_i e; exact ⟨.inr e, .inl (G.own h2 x)⟩
 · cases h2
theorem nms_ok (G : Gd Γ n C X) : ∀ {is} {es}, nmsOkB C is es = true → nmsOk X is es
 | [], [], _ => trivial
 | i :: is, .Name x _ :: es, h => by
  have h := Bool.and_eq_true_iff.mp h
  exact ⟨loc_ok G h.1, nms_ok G h.2⟩
 | [], _ :: _, h => by cases h
 | _ :: _, [], h => by cases h
 | i :: is, .BoolOp .. :: es, h => by cases h
 | i :: is, .NamedExpr .. :: es, h => by cases h
 | i :: is, .BinOp .. :: es, h => by cases h
 | i :: is, .UnaryOp .. :: es, h => by cases h
 | i :: is, .Lambda .. :: es, h => by cases h
 | i :: is, .IfExp .. :: es, h => by cases h
 | i :: is, .Dict .. :: es, h => by cases h
 | i :: is, .Set .. :: es, h => by cases h
 | i :: is, .ListComp .. :: es, h => by cases h
 | i :: is, .SetComp .. :: es, h => by cases h
 | i :: is, .DictComp .. :: es, h => by cases h
 | i :: is, .GeneratorExp .. :: es, h => by cases h
 | i :: is, .Await .. :: es, h => by cases h
 | i :: is, .Yield .. :: es, h => by cases h
 | i :: is, .YieldFrom .. :: es, h => by cases h
 | i :: is, .Compare .. :: es, h => by cases h
 | i :: is, .Call .. :: es, h => by cases h
 | i :: is, .FormattedValue .. :: es, h => by cases h
 | i :: is, .JoinedStr .. :: es, h => by cases h
 | i :: is, .Constant .. :: es, h => by cases h
 | i :: is, .Attribute .. :: es, h => by cases h
 | i :: is, .Subscript .. :: es, h => by cases h
 | i :: is, .Starred .. :: es, h => by cases h
 | i :: is, .List .. :: es, h => by cases h
 | i :: is, .Tuple .. :: es, h => by cases h
 | i :: is, .Slice .. :: es, h => by cases h
theorem nt_is {C : Ck} {i : Nat} {is : List Nat} {x : Expr} (h : tgOk C (.nt i is) x = true) : ∃ y p es k2 p2 k pos, x = .Tuple [.Name y p, .Tuple es k2 p2] k pos ∧ nmOk C i y = true ∧ nmsOkB C is es = true := by
 cases x <;> first | (cases h; done) | skip
 rename_i l k pos
 rcases l with _ | ⟨a, l⟩
 · cases h
 cases a <;> first | (cases h; done) | skip
 rename_i y p
 rcases l with _ | ⟨b, l⟩
 · cases h
 cases b <;> first | (cases h; done) | skip
 rename_i es k2 p2
 rcases l with _ | ⟨c, l⟩
 · obtain ⟨h1, h2⟩ := Bool.and_eq_true_iff.mp h
   exact ⟨y, p, es, k2, p2, k, pos, rfl, h1, h2⟩
 · cases h
theorem tg_ok (G : Gd Γ n C X) {t : Tg} {x : Expr} (h : tgOk C t x = true) : PG X x (tG Γ t) := by
 cases t with
 | nm i =>
  cases x <;> first | (cases h; done) | skip
  obtain ⟨a, b, c⟩ := loc_ok G h
  exact g_name (by rw [G.N]; exact G.nd) a b c
 | tp is =>
  cases x <;> first | (cases h; done) | skip
  exact g_tup G.K G.calm (by rw [G.N]; exact G.nd) (nms_ok G h)
 | nt i is =>
  obtain ⟨y, p, es, k2, p2, k, pos, rfl, h1, h2⟩ := nt_is h
  exact g_nt G.K G.calm (by rw [G.N]; exact G.nd) (loc_ok G h1) (nms_ok G h2)
theorem tgc_ok (G : Gd Γ n C X) {t : Tg} {x : Expr} (h : tgOk C t x = true) : PG X x (tGc Γ t) := by
 cases t with
 | nm i =>
  cases x <;> first | (cases h; done) | skip
  obtain ⟨a, b, c⟩ := loc_ok G h
  exact gc_name (by rw [G.N]; exact G.nd) a b c
 | tp is =>
  cases x <;> first | (cases h; done) | skip
  exact gc_tup G.K G.calm (by rw [G.N]; exact G.nd) (nms_ok G h)
 | nt i is =>
  obtain ⟨y, p, es, k2, p2, k, pos, rfl, h1, h2⟩ := nt_is h
  exact gc_nt G.K G.calm (by rw [G.N]; exact G.nd) (loc_ok G h1) (nms_ok G h2)
theorem star_cons (h : noStar x = true) : starEach (x :: xs) env = (false, eval x env) :: starEach xs env := by
 cases x <;> first | rfl | cases h
theorem plainT_is (h : plainT x = true) : ∀ whole, isTrue x env whole = (do let v ← whole; standAt x.pos; holding [v] (truthy v)) := by
 intro whole
 cases x <;> first | rfl | (cases h) | skip
 rename_i op _ _
 cases op <;> first | rfl | (cases h)
theorem plainIx_is (h : plainIx x = true) : PlainIx x := by
 intro o i
 cases x <;> first | rfl | (cases h)
theorem noSet_is (h : noSet x = true) : ∀ v, foldedSetIterable x env v = pure v := by
 intro v
 cases x <;> first | rfl | (cases h)
theorem Gd.comp (G : Gd Γ n C X) {scope} {N'} (hn : decide N'.Nodup = true) (hm : namesOk N' = true) (cl : List _) (D : Addr) (ex : List _) (s : Shared) (H : Hp) : Gd Γ n ⟨N', rlb scope C.sc, false, false⟩ (cxComp X N' scope cl D ex s H) :=
 ⟨G.prog, G.w, G.K, G.mg, G.base, G.calm, rfl, by show relabel _ _ = rlb _ _; unfold relabel rlb Env.kindOf; rw [G.sc], G.room, of_decide_eq_true hn, hm, nofun, rfl, nofun⟩
theorem noLst_is (h : noLst x = true) : ∀ v, genFold x env v = pure v := by
 intro v
 cases x <;> first | rfl | (cases h)
theorem Gd.gen (hd4 : d ≤ 4) (G : Gd Γ n C X) (hx : C.gx = true) {scope} {N'} (hn : decide N'.Nodup = true) (hm : namesOk N' = true) (elt : Expr) (gs : List _) (pos : Pos) (cl : List _) (D : Addr) (code : Value) (it : Addr) (ex : List _) (s : Shared) (H : Hp) : Gd Γ n ⟨N', scope, false, false⟩ (cxGen4 d X N' elt gs scope pos cl D code it ex s H) :=
 ⟨G.prog, G.w, G.K, G.mg, G.base, G.calm, rfl, rfl, (G.cd hx).2.1.gen4 hd4, of_decide_eq_true hn, hm, nofun, rfl, nofun⟩
end
end I
end
section
namespace I
open PySem L2 PySem.Spec PyProof.Rows
theorem nof {P : Prop} (h : false = true) : P := nomatch h
section
variable {Γ : Gm} {S : Sg} {n : Nat} {F : FT} {X : Cx} {C : Ck}
theorem pw_of {t} (h : PT X (.BoolOp op vs pos) t) : PW X (.BoolOp op vs pos) t := by
 intro whole pins s σ H Q I q
 have := h _ s σ H Q I q
 exact this
def Ok (Γ : Gm) (F : FT) (X : Cx) (e : E) (x : Expr) : Prop := PE X x (tE Γ F e) ∧ PT X x (tT Γ F e)
theorem Ok.plain (hK : X.K = Γ.K) {e} {x} (h : PE X x (tE Γ F e)) (p : plainT x = true) : Ok Γ F X e x := ⟨h, test_of hK h (plainT_is p)⟩
def Oks (Γ : Gm) (F : FT) (X : Cx) (es : List E) (xs : List Expr) : Prop := PA X xs (tA Γ F es) ∧ PA X xs (tD Γ F es) ∧ PF X xs (tF Γ F es) ∧ xs.all noStar = true ∧ es.length = xs.length ∧ ∀ e x, es = [e] → xs = [x] → PE X x (tE Γ F e)
theorem any_star : ∀ {xs}, xs.all noStar = true → (backTo pos (starEach xs env)).any (·.1) = false
 | [], _ => rfl
 | x :: xs, h => by
  simp only [List.all_cons, Bool.and_eq_true] at h
  rw [star_cons h.1]
  show (false || (backTo _ _).any _) = false
  rw [any_star h.2]
  rfl
theorem all_star : ∀ {xs}, xs.all noStar = true → (backTo pos (starEach xs env)).all (fun x => !x.1) = true
 | [], _ => rfl
 | x :: xs, h => by
  simp only [List.all_cons, Bool.and_eq_true] at h
  rw [star_cons h.1]
  show (true && (backTo _ _).all _) = true
  rw [all_star h.2]
  rfl
theorem plainB_is (h : plainB x = true) : attributeBase x a env (eval x env) = eval x env := by
 unfold attributeBase
 split
 · have := by
    unfold plainB at h
    simpa using h
   simp [this]
 · rfl
theorem const_is {pos} (h : constOk t c = true) : PE X (.Constant c j pos) (tE Γ F (.c t)) := by
 cases t <;> cases c <;> first | (cases h; done) | skip
 · exact const_ok pe_non fun _ _ _ => rfl
 · have h := eq_of_beq h
   subst h
   exact const_ok pe_bl fun _ _ _ => rfl
 · have h := eq_of_beq h
   subst h
   exact const_ok pe_int fun _ _ _ => rfl
 · have h := eq_of_beq h
   subst h
   exact const_ok pe_str fun _ _ _ => rfl
theorem neg_is {p pos} (h : constOk t (.int (-i)) = true) : PE X (.UnaryOp .USub (.Constant (.int i) j p) pos) (tE Γ F (.c t)) := by
 cases t <;> first | (cases h) | skip
 have h := eq_of_beq h
 subst h
 refine L2.PE.imp (pe_un un_neg pe_int) ?_
 rintro σ H Q ⟨φ, st, ρ, en, rl, af⟩
 exact ⟨i, rfl, Af.now af rl rfl⟩
theorem bf_is (G : Gd Γ n C X) (hF : Fk Γ S n F) {f : Bf} {x : Str} {p pos : Pos} {y : Expr} {ys : List Expr} {es : List E} (hf : bfName f = some x) (hg : Gl X x) (hs : Oks Γ F X es (y :: ys)) : PE X (.Call (.Name x p) (y :: ys) [] pos) (tE Γ F (.bf f es)) := by
 obtain ⟨ha, _, _, st, _, one⟩ := hs
 have h1 : starEach (y :: ys) X.env = (false, eval y X.env) :: starEach ys X.env := star_cons (by simp only [List.all_cons, Bool.and_eq_true] at st; exact st.1)
 have h2 : (backTo pos (starEach ys X.env)).any (·.1) = false := any_star (by simp only [List.all_cons, Bool.and_eq_true] at st; exact st.2)
 have bm : ∀ {z : Str}, Γ.mg z = none → X.mg z = none := fun h => by rw [G.mg]; exact h
 cases f <;> first | (cases hf; done) | skip
 · cases hf; exact L2.PE.imp (pe_callB (len_c G.K) hg (bm (hF.blt "len" (by simp))) boot_len ha (by decide) (by decide) h1 h2) (bf_imp len_b)
 · cases hf; exact L2.PE.imp (pe_callTy (tupleK_of G.K) hg (bm (hF.blt "tuple" (by simp))) (by decide +kernel) ha (by decide) (by decide) h1 h2) (bf_imp tuple_b)
 · cases hf; exact L2.PE.imp (pe_callTy (listK_of G.K) hg (bm (hF.blt "list" (by simp))) boot_list ha (by decide) (by decide) h1 h2) (bf_imp list_b)
 · cases hf; exact L2.PE.imp (pe_callTy int_c hg (bm (hF.blt "int" (by simp))) (by decide +kernel) ha (by decide) (by decide) h1 h2) (bf_imp int_b)
 · cases hf; exact L2.PE.imp (pe_callTy str_c hg (bm (hF.blt "str" (by simp))) boot_str ha (by decide) (by decide) h1 h2) (bf_imp str_b)
 · cases hf; exact L2.PE.imp (pe_callB (call_min2 G.calm) hg (bm (hF.blt "min" (by simp))) boot_min ha (by decide) (by decide) h1 h2) (bf_imp min2_b)
 · cases hf; exact L2.PE.imp (pe_callB (call_max2 G.calm) hg (bm (hF.blt "max" (by simp))) boot_max ha (by decide) (by decide) h1 h2) (bf_imp max2_b)
 · cases hf; exact L2.PE.imp (pe_callB (allK G.K G.calm) hg (bm (hF.blt "all" (by simp))) boot_all ha (by decide) (by decide) h1 h2) (bf_imp all_b)
theorem it_is (G : Gd Γ n C X) (hF : Fk Γ S n F) {k : Ik} {tg it : Expr} {src : List E} (ht : itTg k tg = true) (hn : (match itName k with | some f => glb C.sc f | none => true) = true) (h5 : (match itArgs k it with | some ys => okEs S src C ys | none => false) = true) (hs : ∀ ys, okEs S src C ys = true → Oks Γ F X src ys) : PI X tg it (tI Γ F k src) := by
 obtain ⟨ys, ha, pa, _, _, st, hl, one⟩ : ∃ ys, itArgs k it = some ys ∧ Oks Γ F X src ys := by
  split at h5
  · exact ⟨_, ‹_›, hs _ h5⟩
  · cases h5
 have bm : ∀ {z : Str}, Γ.mg z = none → X.mg z = none := fun h => by rw [G.mg]; exact h
 cases k with
 | seq =>
  cases ha
  match src, hl with
  | [e], _ => exact i_seq G.K (one e _ rfl rfl)
 | rng1 =>
  obtain ⟨p, pos, rfl, hy⟩ := callA_is ha
  match ys, src, hl, hy with
  | [x], [e], _, _ =>
   simp only [List.all_cons, List.all_nil, Bool.and_true] at st
   exact i_rng1 (glb_ok hn G.sc) (bm (hF.blt "range" (by simp))) pa (by rw [star_cons st]; rfl)
 | rng2 => cases ha
 | enm =>
  obtain ⟨p, pos, rfl, hy⟩ := callA_is ha
  match ys, src, hl, hy with
  | [x], [e], _, _ =>
   simp only [List.all_cons, List.all_nil, Bool.and_true] at st
   cases tg <;> first | (cases ht; done) | skip
   exact i_enm G.K (glb_ok hn G.sc) (bm (hF.blt "enumerate" (by simp))) pa (by rw [star_cons st]; rfl)
 | zp =>
  obtain ⟨p, pos, rfl, hy⟩ := callA_is ha
  match ys, src, hl, hy with
  | [x, y], [e, e'], _, _ =>
   simp only [List.all_cons, List.all_nil, Bool.and_true, Bool.and_eq_true] at st
   cases tg <;> first | (cases ht; done) | skip
   exact i_zp G.K (glb_ok hn G.sc) (bm (hF.blt "zip" (by simp))) pa (star_cons st.1) (any_star (by simp [st.2]))
theorem gen_imp {N' : List Str} {ix : List (Option Nat)} {tg : Tg} {k : Ik} {src ifs : List E} {el : E} {P : Addr} (hP : P ∈ Γ.tabs) (hs : ∀ i ∈ tg.slots, ix[i]? = some none) (hn : tg.slots.Nodup) : ∀ σ H Q, tE Γ F (.gen .tuple N' ix tg k src ifs el) σ H Q → tGenT P ix (tI Γ F k src) (tGc Γ tg) (tF Γ F ifs) (tE Γ F el) σ H Q := by
 rintro σ H Q ⟨φ, st, ρ, en, rl, af⟩
 exact ti_of (c := (·.length ≤ LIM)) (ev := fun xs gs => evComp gs (stepE F Γ.G ix tg ifs el ρ) xs []) (f := fun ys st => .ok (.d (.tup ys)) st) en rl af fun pt wk hz hc af => ⟨pt.rl.tab P hP, compW_ok (en.step pt) pt.rl wk hs hn hz hc fun vs H' φ' r p => Af.tup (Af.re af p) p.rl r⟩
def sumW (ys : List T) (st : Sto) : Res W := match intsT ys with
 | some ns => .ok (.d (.int ns.sum)) st
 | none => .bad
theorem sumW_is (ys : List T) (st : Sto) : (match gqT .sum ys with | some t => Res.ok (W.d t) st | none => .bad) = sumW ys st := by
 show (match (intsT ys).map fun ns => T.int _ with | some t => Res.ok _ st | none => .bad) = _
 unfold sumW
 cases intsT ys <;> rfl
theorem gen_impS {N' : List Str} {ix : List (Option Nat)} {tg : Tg} {k : Ik} {src ifs : List E} {el : E} {P : Addr} (hP : P ∈ Γ.tabs) (hs : ∀ i ∈ tg.slots, ix[i]? = some none) (hn : tg.slots.Nodup) : ∀ σ H Q, tE Γ F (.gen .sum N' ix tg k src ifs el) σ H Q → tGenS P ix (tI Γ F k src) (tGc Γ tg) (tF Γ F ifs) (tE Γ F el) σ H Q := by
 rintro σ H Q ⟨φ, st, ρ, en, rl, af⟩
 have e : (fun (ys : List T) (st : Sto) => (match gqT .sum ys with | some t => Res.ok (W.d t) st | none => .bad)) = fun ys st => sumW ys st := by funext ys st; exact sumW_is ys st
 refine ti_of (c := (·.length ≤ LIM)) (ev := fun xs gs => evComp gs (stepE F Γ.G ix tg ifs el ρ) xs []) (f := fun ys st => sumW ys st) en rl (by rw [← e]; exact af) fun {xs gs st1 φ1 H1 J ts st'} pt wk hz hc af2 => ⟨pt.rl.tab P hP, ?_⟩
 unfold sumW at af2
 cases q2 : intsT ts with
 | none => rw [q2] at af2; exact af2.elim
 | some ns =>
  rw [q2] at af2
  cases intsT_is q2
  exact compWL_ok (OkL := AllI) (en.step pt) pt.rl wk .nil hs hn hz hc (fun vs H' φ' r p ms e => by
   cases Rps.ints_eq r
   cases (List.map_inj_right (f := V.int) fun a b h => V.int.inj h).mp e
   exact Af.now (Af.re af2 p) p.rl rfl) fun acc ys φ st H pr r => by
    rw [List.prefix_iff_eq_take, ← List.map_take] at pr
    rw [pr] at r
    cases Rps.ints_eq r
    exact ⟨_, rfl⟩
inductive TyS (K : PySem.W.Frag) (H : Hp) : V → String → Prop
 | non : TyS K H .non "NoneType"
 | bl (x : Bool) : TyS K H (.bl x) "bool"
 | int (i : Int) : TyS K H (.int i) "int"
 | str (x : Str) : TyS K H (.str x) "str"
 | lst {a : Addr} {xs : List V} (e : SqL K H a xs) : TyS K H (.ref a) "list"
 | tup {a : Addr} {xs : List V} (e : SqT K H a xs) : TyS K H (.ref a) "tuple"
def rIsS (K : PySem.W.Frag) : List V → Hp → VK → Prop := fun xs H Q => ∃ x n t b, xs = [x, .ty n] ∧ TyS K H x t ∧ PySem.W.kitOne K (.type t) (.type n) = some b ∧ Q (.bl b) H
theorem isi_c (hK : X.K = Γ.K) : CallR X (.builtin "isinstance") (rIsS Γ.K) := by
 rw [← hK]
 intro pins s σ H xs us Q I rv h
 obtain ⟨x, n, t, b, rfl, ty, e, q⟩ := h
 obtain ⟨u, v, rfl, ru, rv'⟩ := rv.two
 cases rv'
 have fin : ∀ tk, EP X _ σ Q _ _ := fun tk => ⟨.bl b, H, I.tok tk, rfl, q⟩
 cases ty with
 | non => exact isinst_ok I ru .non e fin
 | bl y => exact isinst_ok I ru (.bl y) e fin
 | int y => exact isinst_ok I ru (.int y) e fin
 | str y => exact isinst_ok I ru (.str y) e fin
 | @lst a xs ea =>
  cases show u = Value.ref a from ru
  obtain ⟨its, _, p, _⟩ := I.list ea
  obtain ⟨o, h1, h2, _⟩ := p.isList
  exact PySem.W.kia_one PySem.W.kitx_list I.kIn ⟨o, h1, h2⟩ e nofun fin
 | @tup a xs ea =>
  cases show u = Value.ref a from ru
  obtain ⟨its, _, p, _⟩ := I.tuple ea
  obtain ⟨o, h1, h2, _⟩ := p
  exact PySem.W.kia_one PySem.W.kitx_tuple I.kIn ⟨o, h1, h2⟩ e nofun fin
theorem isT_ok {st} {H} {w} {v} {t} {n} (hi : noIns t = true) (rl : Rl Γ φ st H) (r : RW Γ φ st H w v) (h : look w st = some t) : ∃ s, TyS Γ.K H v s ∧ PySem.W.kitOne Γ.K (.type s) (.type (tyName n)) = some (isT n t) := by
 cases t with
 | non =>
  rcases r.look rl h with z | ⟨_, _, _, _, _, e, _⟩
  · cases z; exact ⟨_, .non, by cases n <;> rfl⟩
  · cases e
 | bl b => rw [r.bl rl h]; exact ⟨_, .bl b, by cases n <;> rfl⟩
 | int b => rw [r.int rl h]; exact ⟨_, .int b, by cases n <;> rfl⟩
 | str b => rw [r.str rl h]; exact ⟨_, .str b, by cases n <;> rfl⟩
 | tup xs => obtain ⟨a, vs, rfl, q, _⟩ := r.tup rl h; exact ⟨_, .tup q, by cases n <;> rfl⟩
 | lst xs => obtain ⟨a, vs, rfl, q, _⟩ := r.lst rl h; exact ⟨_, .lst q, by cases n <;> rfl⟩
 | ins _ => cases hi
theorem ty_boot (n : Ty) : bootBuiltins (Str.ofString (tyName n)) = some (.type (tyName n)) := by cases n <;> decide +kernel
theorem isi_is (G : Gd Γ n C X) (hF : Fk Γ S n F) {t} {y} {a} {p pz pos} (hf : Gl X "isinstance") (hz : Gl X (Str.ofString (tyName t))) (hn : noStar y = true) (h : PE X y (tE Γ F a)) : PE X (.Call (.Name "isinstance" p) [y, .Name (Str.ofString (tyName t)) pz] [] pos) (tE Γ F (.isi t a)) := by
 have bm : ∀ {z}, Γ.mg z = none → X.mg z = none := fun h => by rw [G.mg]; exact h
 have ht : PE X (.Name _ pz) (tC (.ty _)) := pe_bltn hz (bm (hF.blt _ (by cases t <;> simp [tyName]))) (ty_boot t) rfl (by cases t <;> decide) (by cases t <;> decide)
 refine L2.PE.imp (pe_callB (isi_c G.K) hf (bm (hF.blt _ (by simp))) boot_isinstance (pa_cons h (pa_cons ht pa_nil rfl) (star_cons hn)) (by decide) rfl (star_cons hn) rfl) ?_
 rintro σ H Q ⟨φ, st, ρ, en, rl, af⟩
 refine ⟨φ, st, ρ, en, rl, af.bind.mono fun v H1 ⟨w, st1, φ1, rw1, pt, af1⟩ => ?_⟩
 cases h2 : look w _ with
 | none => rw [h2] at af1; exact af1.elim
 | some u =>
  simp only [h2] at af1
  split at af1
  · rename_i hi
    obtain ⟨s, e1, e2⟩ := isT_ok hi pt.rl rw1 h2
    exact ⟨v, _, s, _, rfl, e1, e2, af1.now pt.rl rfl⟩
  · exact af1.elim
theorem meth_is (G : Gd Γ n C X) {m : Mt} {x : Expr} {a : Str} {ap cp : Pos} {ys : List Expr} {o : E} {es : List E} (hm : mtName m = some a) (hb : plainB x = true) (hl : (ap.endLine == cp.line) = true) (har : mtAr m ys = true) (ho : PE X x (tE Γ F o)) (hs : Oks Γ F X es ys) : PE X (.Call (.Attribute x a ap) ys [] cp) (tE Γ F (.meth m o es)) := by
 obtain ⟨_, pd, _, st, hlen, one⟩ := hs
 have few : ∀ {y : Expr} {zs : List Expr}, ys = y :: zs → ((backTo cp (starEach (y :: zs) X.env)).all (fun x => !x.1) && (backToKw cp (keywordEach [] X.env)).all (fun x => x.1.isSome)
  && decide ((y :: zs).length + ([] : List Keyword).length + (if ([] : List Keyword).isEmpty then 0 else 1) < 30)) = true := fun {y zs} e => by
  rw [← e, all_star st]
  show (true && true && decide (ys.length + 0 + 0 < 30)) = true
  rw [decide_eq_true (show ys.length + 0 + 0 < 30 from mtAr_few har)]
  rfl
 have h1 : ∀ {y : Expr} {zs : List Expr}, ys = y :: zs → starEach (y :: zs) X.env = (false, eval y X.env) :: starEach zs X.env ∧ (backTo cp (starEach zs X.env)).any (·.1) = false := fun {y zs} e => by
  rw [e] at st
  simp only [List.all_cons, Bool.and_eq_true] at st
  exact ⟨star_cons st.1, any_star st.2⟩
 cases m <;> first | (cases hm; done) | skip
 · cases hm
   match ys, es, hlen with
   | [], [], _ => exact nof har
   | y :: zs, es, _ => exact L2.PE.imp (peK_bm (K := Γ.K) G.K PySem.F.plainAttrs_list PySem.F.slot_list_append PySem.F.type_list_append mt_append ho pd (plainB_is hb) (few rfl) hl (h1 rfl).1 (h1 rfl).2) (mtL_imp append_m fun _ _ => rfl)
 · cases hm
   match ys, es, hlen with
   | [], [], _ => exact L2.PE.imp (peK_bm0 (K := Γ.K) G.K PySem.F.plainAttrs_list PySem.F.slot_list_reverse PySem.F.type_list_reverse mt_reverse ho (plainB_is hb) hl) (mtL0_imp reverse_m fun _ _ => rfl)
   | y :: zs, es, _ => exact nof har
 · cases hm
   match ys, es, hlen with
   | [y], [e], _ => exact L2.PE.imp (peK_bm (K := Γ.K) G.K PySem.F.plainAttrs_str PySem.F.slot_str_join PySem.F.type_str_join (join_c G.K) ho pd (plainB_is hb) (few rfl) hl (h1 rfl).1 (h1 rfl).2) join_imp
   | [], [], _ => exact nof har
   | _ :: _ :: _, _ :: _ :: _, _ => exact nof har
 · cases hm
   match ys, es, hlen with
   | [], [], _ => exact nof har
   | y :: zs, es, _ => exact L2.PE.imp (peK_bm (K := Γ.K) G.K PySem.F.plainAttrs_list PySem.F.slot_list_insert PySem.F.type_list_insert mt_insert ho pd (plainB_is hb) (few rfl) hl (h1 rfl).1 (h1 rfl).2) (mtL_imp insert_m fun _ _ => rfl)
 · cases hm
   match ys, es, hlen with
   | [y], [e], _ => exact L2.PE.imp (peK_bm (K := Γ.K) G.K PySem.F.plainAttrs_str PySem.F.slot_str_split PySem.F.type_str_split mt_split ho pd (plainB_is hb) (few rfl) hl (h1 rfl).1 (h1 rfl).2) split_imp
   | [], [], _ => exact nof har
   | _ :: _ :: _, _ :: _ :: _, _ => exact nof har
end
mutual
theorem sndE {Γ : Gm} {S : Sg} {n : Nat} {F : FT} (hF : Fk Γ S n F) : ∀ (e : E) (C : Ck) (x : Expr) (X : Cx), okE S e C x = true → Gd Γ n C X → Ok Γ F X e x
 | .v i, C, x, X, h, G => by
  cases x <;> try exact nof h
  replace h := andB h
  simp only [Bool.and_eq_true, beq_iff_eq] at h
  obtain ⟨a, b⟩ := namesOk_at G.nm h.1
  exact .plain G.K (v_ok (by rw [G.N]; exact h.1) (vis_ok h.2 G.sc) a b) rfl
 | .c t, C, x, X, h, G => by
  cases x <;> try exact nof h
  · rename_i op e pos
    cases op <;> try exact nof h
    cases e <;> try exact nof h
    rename_i c j p
    cases c <;> try exact nof h
    exact .plain G.K (neg_is h) rfl
  · exact .plain G.K (const_is h) rfl
 | .g j, C, x, X, h, G => by
  cases x <;> try exact nof h
  replace h := andB h
  simp only [Bool.and_eq_true, beq_iff_eq, Bool.not_eq_true'] at h
  exact .plain G.K (g_ok hF.g G.mg (glb_ok h.1.2 G.sc) (by rw [← hF.gn]; exact h.1.1) h.2) rfl
 | .bin o a b, C, x, X, h, G => by
  cases x <;> try exact nof h
  replace h := andB h
  simp only [Bool.and_eq_true, beq_iff_eq] at h
  obtain ⟨r, h1, h2⟩ := bin_ok G.K h.1.1
  exact .plain G.K (L2.PE.imp (pe_op h1 (sndE hF a C _ X h.1.2 G).1 (sndE hF b C _ X h.2 G).1) (two (a := a) (b := b) (fun _ _ => by first | rfl | (simp only [evE]; rfl) | simp only [evE]) h2)) rfl
 | .cmp o a b, C, x, X, h, G => by
  cases x <;> try exact nof h
  rename_i l ops cs pos
  rcases ops with _ | ⟨op, _ | ⟨_, _⟩⟩ <;> rcases cs with _ | ⟨y, _ | ⟨_, _⟩⟩ <;> try exact nof h
  · skip
    replace h := andB h
    simp only [Bool.and_eq_true, beq_iff_eq, Bool.not_eq_true'] at h
    obtain ⟨⟨⟨h1, h2⟩, h3⟩, h4⟩ := h
    obtain ⟨r, k1, k2⟩ := cmp_ok G.K G.room.units h1
    have i := two (F := F) (e := .cmp o a b) (a := a) (b := b) (fun _ _ => by first | rfl | (simp only [evE]; rfl) | simp only [evE]) k2
    refine ⟨L2.PE.imp (pe_cmpR k1 (sndE hF a C _ X h3 G).1 (sndE hF b C _ X h4 G).1 h2) i, test_bl (pt_cmpR k1 (sndE hF a C _ X h3 G).1 (sndE hF b C _ X h4 G).1 h2) i fun ρ st w st' q => ?_⟩
    simp only [evE] at q
    cases q1 : evE F Γ.G a ρ st with
    | ok w1 st1 =>
     rw [q1] at q
     simp only [Res.bind] at q
     cases q2 : evE F Γ.G b ρ st1 with
     | ok w2 st2 => rw [q2] at q; exact let ⟨b, e, _⟩ := cmp_bl q; ⟨b, e⟩
     | _ => rw [q2] at q; cases q
    | _ => rw [q1] at q; cases q
 | .isN a, C, x, X, h, G => by
  cases x <;> try exact nof h
  rename_i l ops cs pos
  rcases ops with _ | ⟨op, _ | ⟨_, _⟩⟩ <;> (try exact nof h) <;> cases op <;> (try exact nof h) <;> rcases cs with _ | ⟨y, _ | ⟨_, _⟩⟩ <;> (try exact nof h) <;> cases y <;> (try exact nof h) <;> rename_i cn _ _ <;> cases cn <;> (try exact nof h)
  · skip
    have ih := (sndE hF a C _ X h G).1
    exact ⟨isN_ok ih, test_bl (pt_cmpR op_isN ih pe_non (nomark _)) isN_imp (bl_ok fun ρ st => ⟨a, _, by first | rfl | (simp only [evE]; rfl) | simp only [evE]⟩)⟩
 | .notN a, C, x, X, h, G => by
  cases x <;> try exact nof h
  rename_i l ops cs pos
  rcases ops with _ | ⟨op, _ | ⟨_, _⟩⟩ <;> (try exact nof h) <;> cases op <;> (try exact nof h) <;> rcases cs with _ | ⟨y, _ | ⟨_, _⟩⟩ <;> (try exact nof h) <;> cases y <;> (try exact nof h) <;> rename_i cn _ _ <;> cases cn <;> (try exact nof h)
  · skip
    have ih := (sndE hF a C _ X h G).1
    exact ⟨notN_ok ih, test_bl (pt_cmpR op_notN ih pe_non (nomark _)) notN_imp (bl_ok fun ρ st => ⟨a, _, by first | rfl | (simp only [evE]; rfl) | simp only [evE]⟩)⟩
 | .and a b, C, x, X, h, G => by
  cases x <;> try exact nof h
  rename_i op vs pos
  rcases vs with _ | ⟨y, _ | ⟨z, _ | ⟨w, r⟩⟩⟩ <;> cases op <;> try exact nof h
  · skip
    replace h := andB h
    have ha := sndE hF a C _ X h.1 G
    have hb := sndE hF b C _ X h.2 G
    refine ⟨L2.PE.imp (pe_andT ha.1 (pe_one hb.1)) fun σ H Q q => ?_, L2.PT.imp (PW.pt (pw_and ha.2 (pw_and1 hb.2))) tand⟩
    rw [G.K]
    exact and_imp σ H Q q
  · skip
    replace h := andB h
    have ha := sndE hF a C _ X h.1 G
    have hb := sndE hF b C _ X h.2 G
    refine ⟨L2.PE.imp (pe_andT ha.1 hb.1) fun σ H Q q => ?_, L2.PT.imp (PW.pt (pw_and ha.2 (pw_of hb.2))) tand⟩
    rw [G.K]
    exact and_imp σ H Q q
 | .or a b, C, x, X, h, G => by
  cases x <;> try exact nof h
  rename_i op vs pos
  rcases vs with _ | ⟨y, _ | ⟨z, _ | ⟨w, r⟩⟩⟩ <;> cases op <;> try exact nof h
  · skip
    replace h := andB h
    have ha := sndE hF a C _ X h.1 G
    have hb := sndE hF b C _ X h.2 G
    refine ⟨L2.PE.imp (pe_orT ha.1 (pe_one hb.1)) fun σ H Q q => ?_, L2.PT.imp (PW.pt (pw_or ha.2 (pw_or1 hb.2))) tor⟩
    rw [G.K]
    exact or_imp σ H Q q
  · skip
    replace h := andB h
    have ha := sndE hF a C _ X h.1 G
    have hb := sndE hF b C _ X h.2 G
    refine ⟨L2.PE.imp (pe_orT ha.1 hb.1) fun σ H Q q => ?_, L2.PT.imp (PW.pt (pw_or ha.2 (pw_of hb.2))) tor⟩
    rw [G.K]
    exact or_imp σ H Q q
 | .not a, C, x, X, h, G => by
  cases x <;> try exact nof h
  rename_i op y pos
  cases op <;> try exact nof h
  have ha := sndE hF a C _ X h G
  refine ⟨L2.PE.imp (pe_notT ha.1) fun σ H Q q => ?_, L2.PT.imp (pt_not ha.2) tnot⟩
  rw [G.K]
  exact not_imp σ H Q q
 | .tup es, C, x, X, h, G => by
  cases x <;> try exact nof h
  exact .plain G.K (tup_ok (sndEs hF es C _ X h G).2.1) rfl
 | .lst es, C, x, X, h, G => by
  cases x <;> try exact nof h
  exact .plain G.K (lst_ok (sndEs hF es C _ X h G).2.1) rfl
 | .ix a b, C, x, X, h, G => by
  cases x <;> try exact nof h
  replace h := andB h
  simp only [Bool.and_eq_true] at h
  exact .plain G.K (ix_okS G.K (sndE hF a C _ X h.1.2 G).1 (sndE hF b C _ X h.2 G).1 (plainIx_is h.1.1)) rfl
 | .sl a lo hi, C, x, X, h, G => by
  cases x <;> try exact nof h
  rename_i y z pos
  cases z <;> try exact nof h
  rename_i l u s p
  cases s with
  | some _ => exact nof h
  | none =>
   replace h := andB h
   simp only [Bool.and_eq_true] at h
   exact .plain G.K (sl_okS G.K (sndE hF a C _ X h.1.1 G).1 (sndO hF lo C _ X h.1.2 G) (sndO hF hi C _ X h.2 G)) rfl
 | .trg a, C, x, X, h, G => by
  cases x <;> try exact nof h
  rename_i fn ys kw pos
  cases fn <;> try exact nof h
  rename_i f p
  rcases ys with _ | ⟨y, tl⟩ <;> try exact nof h
  cases y <;> try exact nof h
  rename_i gn zs kw2 pos2
  cases gn <;> try exact nof h
  rename_i g p2
  rcases zs with _ | ⟨z, _ | ⟨_, _⟩⟩ <;> try exact nof h
  rcases kw2 with _ | ⟨_, _⟩ <;> rcases tl with _ | ⟨_, _⟩ <;> rcases kw with _ | ⟨_, _⟩ <;> try exact nof h
  · skip
    replace h := andB h
    simp only [Bool.and_eq_true, beq_iff_eq] at h
    obtain ⟨⟨⟨⟨⟨h1, h2⟩, h3⟩, h4⟩, h5⟩, h6⟩ := h
    subst h1 h2
    have bm : ∀ {z : Str}, Γ.mg z = none → X.mg z = none := fun h => by rw [G.mg]; exact h
    exact .plain G.K (trg_ok G.room.hd (glb_ok h3 G.sc) (glb_ok h4 G.sc) (bm (hF.blt "tuple" (by simp))) (bm (hF.blt "range" (by simp))) (star_cons h5) (sndE hF a C _ X h6 G).1) rfl
 | .ss _, C, x, X, h, G => by cases x <;> exact nof h
 | .call f es, C, x, X, h, G => by
  cases x <;> try exact nof h
  rename_i fn ys kw pos
  cases fn <;> try exact nof h
  rename_i x p
  rcases ys with _ | ⟨y, ys⟩ <;> rcases kw with _ | ⟨_, _⟩ <;> try exact nof h
  · skip
    replace h := andB h
    simp only [Bool.and_eq_true, Bool.not_eq_true', List.isEmpty_iff] at h
    obtain ⟨⟨⟨rfl, h1⟩, h2⟩, h3⟩ := h
    cases q : S.fns f with
    | none => rw [q] at h1; cases h1
    | some z =>
     obtain ⟨z, ps⟩ := z
     rw [q] at h1
     simp only [Bool.and_eq_true, beq_iff_eq] at h1
     obtain ⟨rfl, hl⟩ := h1
     obtain ⟨g, fd, Fn, hm, hk, hb⟩ := (hF.has f x ps q).ex
     rw [← G.prog, ← G.w, ← G.K, ← G.mg, ← G.base] at *
     exact .plain G.K (L2.PE.imp (pe_call0 Fn G.room (glb_ok h2 G.sc) hm hk hb .nil pass0 h3) fun σ H Q z => by
      obtain ⟨φ, st, ρ, en, rl, af⟩ := call_imp (n := 0) rfl trivial σ H Q z
      rw [hl]
      exact af [] H φ rfl (Pt.refl rl)) rfl
  · skip
    replace h := andB h
    simp only [Bool.and_eq_true, Bool.not_eq_true'] at h
    obtain ⟨⟨⟨h1, h2⟩, h3⟩, h4⟩ := h
    cases q : S.fns f with
    | none => rw [q] at h1; cases h1
    | some z =>
     obtain ⟨z, ps⟩ := z
     rw [q] at h1
     simp only [Bool.and_eq_true, beq_iff_eq] at h1
     obtain ⟨rfl, hl⟩ := h1
     have hs := sndEs hF es C _ X h4 G
     have st := hs.2.2.2.1
     simp only [List.all_cons, Bool.and_eq_true] at st
     have hh := hF.has f x ps q
     rw [← G.prog, ← G.w, ← G.K, ← G.mg, ← G.base] at hh
     exact .plain G.K (L2.PE.imp (pe_own hh G.room (glb_ok h2 G.sc) hs.1 h3 (star_cons st.1) (any_star st.2)) (call_imp hl.symm trivial)) rfl
 | .bf f es, C, x, X, h, G => by
  cases x <;> try exact nof h
  rename_i fn ys kw pos
  cases fn <;> try exact nof h
  rename_i x p
  rcases ys with _ | ⟨y, ys⟩ <;> rcases kw with _ | ⟨_, _⟩ <;> try exact nof h
  · skip
    replace h := andB h
    simp only [Bool.and_eq_true, beq_iff_eq] at h
    exact .plain G.K (bf_is G hF h.1.1 (glb_ok h.1.2 G.sc) (sndEs hF es C _ X h.2 G)) rfl
 | .meth m o es, C, x, X, h, G => by
  cases x <;> try exact nof h
  rename_i fn ys kw pos
  cases fn <;> try exact nof h
  rename_i x a ap
  rcases kw with _ | ⟨_, _⟩ <;> try exact nof h
  · skip
    replace h := andB h
    simp only [Bool.and_eq_true, beq_iff_eq] at h
    obtain ⟨⟨⟨⟨⟨h1, h2⟩, h3⟩, h4⟩, h5⟩, h6⟩ := h
    exact .plain G.K (meth_is G h1 h2 (by simpa using h3) h4 (sndE hF o C _ X h5 G).1 (sndEs hF es C _ X h6 G)) rfl
 | .isi t a, C, x, X, h, G => by
  cases x <;> try exact nof h
  rename_i fn ys kw pos
  cases fn <;> try exact nof h
  rename_i f p
  rcases ys with _ | ⟨y, _ | ⟨y2, _ | ⟨_, _⟩⟩⟩ <;> try exact nof h
  rotate_left
  · cases y2 <;> first | exact nof h | (rcases kw with _ | ⟨_, _⟩ <;> exact nof h)
  cases y2 <;> try exact nof h
  rename_i z pz
  rcases kw with _ | ⟨_, _⟩ <;> try exact nof h
  · skip
    replace h := andB h
    simp only [Bool.and_eq_true, beq_iff_eq] at h
    obtain ⟨⟨⟨⟨⟨h1, h2⟩, h3⟩, h4⟩, h5⟩, h6⟩ := h
    subst h1 h2
    exact .plain G.K (isi_is G hF (glb_ok h3 G.sc) (glb_ok h4 G.sc) h5 (sndE hF a C y X h6 G).1) rfl
 | .frz e, C, x, X, h, G => by
  have ih := sndE hF e C x X h G
  refine ⟨L2.PE.imp ih.1 fun σ H Q ⟨φ, st, ρ, en, rl, af⟩ => ⟨φ, st, ρ, en, rl, by simp only [evE] at af; exact af.frz rl⟩, L2.PT.imp ih.2 fun σ H Q ⟨φ, st, ρ, en, rl, af⟩ => ⟨φ, st, ρ, en, rl, ?_⟩⟩
  unfold evB at af ⊢
  simp only [evE] at af
  cases h1 : evE F Γ.G e ρ st with
  | ok w st1 =>
   rw [h1] at af
   simp only [Res.bind] at af ⊢
   cases h2 : frzTo st.length w st1 with
   | ok t st2 =>
    rw [h2] at af
    simp only at af
    have ht : truW w st1 = truW (.d t) st2 := by
     cases w with
     | d u => cases h2; rfl
     | ref k =>
      cases q : st1[k]? with
      | none => simp [frzTo, q] at h2
      | some o =>
       cases o with
       | none => simp [frzTo, q] at h2
       | some xs =>
        simp only [frzTo, q, Res.ok.injEq] at h2
        obtain ⟨rfl, _⟩ := h2
        simp [truW, look, q]
    rw [ht]
    cases h3 : truW (.d t) st2 with
    | none => rw [h3] at af; exact af.elim
    | some b =>
     rw [h3] at af
     intro H1 φ1 pt
     have : ∃ φ2, Pt Γ φ st H φ2 st2 H1 := by
      cases w with
      | d u => cases h2; exact ⟨_, pt.cut rl.len⟩
      | ref k =>
       cases q : st1[k]? with
       | none => simp [frzTo, q] at h2
       | some o =>
        cases o with
        | none => simp [frzTo, q] at h2
        | some xs =>
         have hk := (List.getElem?_eq_some_iff.mp q).1
         rw [← pt.rl.len] at hk
         obtain ⟨φ2, p2, _⟩ := frz_ok (w := .ref k) rl.len pt ⟨φ1[k], List.getElem?_eq_getElem hk, rfl⟩ h2
         exact ⟨φ2, p2⟩
     obtain ⟨φ2, p2⟩ := this
     exact af H1 φ2 p2
   | _ => rw [h2] at af; exact af.elim
  | _ => rw [h1] at af; exact af.elim
 | .tr e, C, x, X, h, G => by
  have ih := sndE hF e C x X h G
  refine ⟨L2.PE.imp ih.1 fun σ H Q ⟨φ, st, ρ, en, rl, af⟩ => ⟨φ, st, ρ, en, rl, by simp only [evE] at af; exact af.tr rl⟩, L2.PT.imp ih.2 fun σ H Q ⟨φ, st, ρ, en, rl, af⟩ => ⟨φ, st, ρ, en, rl, ?_⟩⟩
  unfold evB at af ⊢
  simp only [evE] at af
  cases h1 : evE F Γ.G e ρ st with
  | ok w st1 =>
   rw [h1] at af
   simp only [Res.bind] at af ⊢
   cases w with
   | d u =>
    simp only [trTo] at af
    have ht : truW (.d u) (st1.take st.length) = truW (.d u) st1 := rfl
    rw [ht] at af
    cases h3 : truW (.d u) st1 with
    | none => rw [h3] at af; exact af.elim
    | some b => rw [h3] at af; exact fun H1 φ1 pt => af H1 _ (pt.cut rl.len)
   | ref k =>
    cases h2 : trTo st.length (.ref k) st1 with
    | ok w' st2 =>
     rw [h2] at af
     simp only at af
     have ht : ∀ b, truW w' st2 = some b → truW (.ref k) st1 = some b := by
      intro b hb
      by_cases hk : k < st.length
      · simp only [trTo, if_pos hk, Res.ok.injEq] at h2
        obtain ⟨rfl, rfl⟩ := h2
        simpa [truW, look, List.getElem?_take, hk] using hb
      · cases q : st1[k]? with
        | none => simp [trTo, hk, q] at h2
        | some o =>
         cases o with
         | none => simp [trTo, hk, q] at h2
         | some xs =>
          simp only [trTo, if_neg hk, q, Res.ok.injEq] at h2
          obtain ⟨rfl, rfl⟩ := h2
          have e1 : (st1.take st.length ++ [some xs])[(st1.take st.length).length]? = some (some xs) := by
           rw [List.getElem?_append_right (Nat.le_refl _), Nat.sub_self]; rfl
          simp only [truW, look, e1, Option.bind_some] at hb
          simp only [truW, look, q, Option.bind_some]
          exact hb
     cases h3 : truW w' st2 with
     | none => rw [h3] at af; exact af.elim
     | some b =>
      rw [h3] at af
      rw [ht b h3]
      intro H1 φ1 pt
      have hk : k < φ1.length := by
       rw [pt.rl.len]
       cases q : st1[k]? with
       | none =>
        have := ht b h3
        simp [truW, look, q] at this
       | some o => exact (List.getElem?_eq_some_iff.mp q).1
      obtain ⟨φ2, p2, _⟩ := tr_ok rl.len pt (w := .ref k) ⟨φ1[k], List.getElem?_eq_getElem hk, rfl⟩ h2
      exact af H1 φ2 p2
    | _ => rw [h2] at af; exact af.elim
  | _ => rw [h1] at af; exact af.elim
 | .comp N' ix t k src ifs el, C, x, X, h, G => by
  cases x <;> try exact nof h
  rename_i elt gs scope pos
  rcases gs with _ | ⟨⟨tg, it, fs, m⟩, _ | ⟨_, _⟩⟩ <;> try exact nof h
  · skip
    replace h := andB h
    simp only [Bool.and_eq_true, beq_iff_eq] at h
    obtain ⟨⟨⟨⟨⟨⟨⟨⟨h0, hb⟩, h2⟩, h3⟩, h4⟩, h5⟩, h6⟩, h7⟩, h8⟩ := h
    subst h0
    obtain ⟨b1, b2, b3, hs, b4⟩ := blk_is hb
    have hi : PI X tg it (tI Γ F k src) := it_is G hF h3 h4 h5 fun ys h => sndEs hF src C ys X h G
    refine .plain G.K (L2.PE.imp (pe_comp (N' := N') (ix := ix) G.calm hi (fun _ _ _ _ _ => tgc_ok (G.comp b2 b3 ..) h6) (fun _ _ _ _ _ => (sndEs hF ifs _ fs _ h7 (G.comp b2 b3 ..)).2.2.1) (fun _ _ _ _ _ => (sndE hF el _ elt _ h8 (G.comp b2 b3 ..)).1) (by rw [G.sc, G.N]; exact b1) (noSet_is h2)) (comp_imp hs b4)) rfl
 | .gen q N' ix t k src ifs el, C, x, X, h, G => by
  cases x <;> try exact nof h
  rename_i fn ys kw pos
  cases fn <;> try exact nof h
  rename_i f p
  rcases ys with _ | ⟨y, _ | ⟨_, _⟩⟩ <;> try exact nof h
  rotate_left
  · cases y <;> first | exact nof h | (rename_i gs _ _; rcases gs with _ | ⟨⟨_, _, _, _⟩, _ | ⟨_, _⟩⟩ <;> exact nof h)
  cases y <;> try exact nof h
  rename_i elt gs scope gpos
  rcases gs with _ | ⟨⟨tg, it, fs, m⟩, _ | ⟨_, _⟩⟩ <;> try exact nof h
  rcases kw with _ | ⟨_, _⟩ <;> try exact nof h
  · skip
    replace h := andB h
    simp only [Bool.and_eq_true, beq_iff_eq] at h
    obtain ⟨⟨⟨⟨⟨⟨⟨⟨⟨⟨⟨⟨hf, hx⟩, hgl⟩, h0⟩, hb⟩, hgo⟩, h2⟩, h3⟩, h4⟩, h5⟩, h6⟩, h7⟩, h8⟩ := h
    subst h0
    obtain ⟨b1, b2, b3, hs, b4⟩ := blk_is hb
    unfold genOk at hgo
    simp only [Bool.and_eq_true, Bool.not_eq_true', beq_iff_eq] at hgo
    obtain ⟨B, hr, c, P, hc, hd, hP⟩ := G.cd hx
    have hi : PI X tg it (tI Γ F k src) := it_is G hF h3 h4 h5 fun ys h => sndEs hF src C ys X h G
    cases q with
    | tuple =>
     cases eq_of_beq (show (f == ("tuple" : Str)) = true from hf)
     exact .plain G.K (L2.PE.imp (pe_tupG (N' := N') (ix := ix) G.calm hr (glb_ok hgl G.sc) (by rw [G.mg]; exact hF.blt "tuple" (by simp)) B hd hc hi (fun _ _ _ _ _ _ _ => tgc_ok (G.gen (by decide) hx b2 b3 ..) h6) (fun _ _ _ _ _ _ _ => (sndEs hF ifs _ fs _ h7 (G.gen (by decide) hx b2 b3 ..)).2.2.1) (fun _ _ _ _ _ _ _ => (sndE hF el _ elt _ h8 (G.gen (by decide) hx b2 b3 ..)).1) (by rw [G.sc, G.N]; exact b1) hgo.1 hgo.2 (noLst_is h2)) (gen_imp hP hs b4)) rfl
    | sum =>
     cases eq_of_beq (show (f == ("sum" : Str)) = true from hf)
     exact .plain G.K (L2.PE.imp (pe_sumG (N' := N') (ix := ix) G.calm hr (glb_ok hgl G.sc) (by rw [G.mg]; exact hF.blt "sum" (by simp)) B hd hc hi (fun _ _ _ _ _ _ _ => tgc_ok (G.gen (by decide) hx b2 b3 ..) h6) (fun _ _ _ _ _ _ _ => (sndEs hF ifs _ fs _ h7 (G.gen (by decide) hx b2 b3 ..)).2.2.1) (fun _ _ _ _ _ _ _ => (sndE hF el _ elt _ h8 (G.gen (by decide) hx b2 b3 ..)).1) (by rw [G.sc, G.N]; exact b1) hgo.1 hgo.2 (noLst_is h2)) (gen_impS hP hs b4)) rfl
    | all =>
     cases eq_of_beq (show (f == ("all" : Str)) = true from hf)
     exact .plain G.K (L2.PE.imp (pe_all (N' := N') (ix := ix) G.calm hr (glb_ok hgl G.sc) (by rw [G.mg]; exact hF.blt "all" (by simp)) B hd hc hi (fun cl D co it ex s H => tgc_ok (G.gen (d := 2) (by decide) hx b2 b3 _ _ _ cl D co it ex s H) h6) (fun cl D co it ex s H => (sndEs hF ifs _ fs _ h7 (G.gen (d := 2) (by decide) hx b2 b3 _ _ _ cl D co it ex s H)).2.2.1) (fun cl D co it ex s H => (sndE hF el _ elt _ h8 (G.gen (d := 2) (by decide) hx b2 b3 _ _ _ cl D co it ex s H)).1) (by rw [G.sc, G.N]; exact b1) hgo.1 hgo.2 (noLst_is h2)) (gen_impA (d := true) hP hs b4)) rfl
    | any =>
     cases eq_of_beq (show (f == ("any" : Str)) = true from hf)
     exact .plain G.K (L2.PE.imp (pe_any (N' := N') (ix := ix) G.calm hr (glb_ok hgl G.sc) (by rw [G.mg]; exact hF.blt "any" (by simp)) B hd hc hi (fun cl D co it ex s H => tgc_ok (G.gen (d := 2) (by decide) hx b2 b3 _ _ _ cl D co it ex s H) h6) (fun cl D co it ex s H => (sndEs hF ifs _ fs _ h7 (G.gen (d := 2) (by decide) hx b2 b3 _ _ _ cl D co it ex s H)).2.2.1) (fun cl D co it ex s H => (sndE hF el _ elt _ h8 (G.gen (d := 2) (by decide) hx b2 b3 _ _ _ cl D co it ex s H)).1) (by rw [G.sc, G.N]; exact b1) hgo.1 hgo.2 (noLst_is h2)) (gen_impA (d := false) hP hs b4)) rfl
    | _ => cases hf
 | .fst ps, C, x, X, h, G => by
  cases x <;> try exact nof h
  rename_i xs pos
  rcases xs with _ | ⟨x, _ | ⟨y, xs⟩⟩ <;> try exact nof h
  · have h : okFs S ps C (x :: y :: xs) = true := h
    exact .plain G.K (L2.PE.imp (pe_join (sndFs hF ps C _ X h G)) fst_imp) rfl
theorem sndFs {Γ : Gm} {S : Sg} {n : Nat} {F : FT} (hF : Fk Γ S n F) : ∀ (es : List E) (C : Ck) (xs : List Expr) (X : Cx), okFs S es C xs = true → Gd Γ n C X → PJ X xs (tJ Γ F es)
 | [], C, xs, X, h, G => by
  cases xs with
  | nil => exact j_nil
  | cons _ _ => exact nof h
 | e :: es, C, xs, X, h, G => by
  rcases xs with _ | ⟨x, xs⟩
  · exact nof h
  cases x <;> try exact nof h
  · rename_i x q f pos
    rcases f with _ | f
    · have h : (q == -1 && okE S e C x && okFs S es C xs) = true := h
      obtain ⟨h1, h2⟩ := Bool.and_eq_true_iff.mp h
      obtain ⟨h0, h1⟩ := Bool.and_eq_true_iff.mp h1
      cases eq_of_beq h0
      exact j_fmt (sndE hF e C x X h1 G).1 (sndFs hF es C xs X h2 G)
    · exact nof h
  · rename_i c k pos
    cases c <;> try exact nof h
    rename_i z
    have h : (constOk' e z && okFs S es C xs) = true := h
    obtain ⟨h1, h2⟩ := Bool.and_eq_true_iff.mp h
    rw [constOk'_is h1]
    exact j_txt (sndFs hF es C xs X h2 G)
theorem sndEs {Γ : Gm} {S : Sg} {n : Nat} {F : FT} (hF : Fk Γ S n F) : ∀ (es : List E) (C : Ck) (xs : List Expr) (X : Cx), okEs S es C xs = true → Gd Γ n C X → Oks Γ F X es xs
 | [], C, xs, X, h, G => by
  cases xs with
  | nil => exact ⟨pa_nilS, pd_nilS, f_nil, rfl, rfl, nofun⟩
  | cons => exact nof h
 | e :: es, C, xs, X, h, G => by
  cases xs with
  | nil => exact nof h
  | cons x xs =>
   replace h := andB h
   simp only [Bool.and_eq_true] at h
   have h1 := sndE hF e C x X h.1.2 G
   have h2 := sndEs hF es C xs X h.2 G
   exact ⟨pa_consS h1.1 h2.1 (star_cons h.1.1), pd_consS h1.1 h2.2.1 (star_cons h.1.1), f_cons h1.2 h2.2.2.1, by simp only [List.all_cons, h.1.1, h2.2.2.2.1, Bool.and_self], by rw [List.length_cons, List.length_cons, h2.2.2.2.2.1], fun _ _ a b => by cases a; cases b; exact h1.1⟩
theorem sndO {Γ : Gm} {S : Sg} {n : Nat} {F : FT} (hF : Fk Γ S n F) : ∀ (e : Option E) (C : Ck) (x : Option Expr) (X : Cx), okO S e C x = true → Gd Γ n C X → PO X x (tO Γ F e)
 | none, C, x, X, h, G => by
  cases x with
  | none => exact po_noneS
  | some _ => exact nof h
 | some e, C, x, X, h, G => by
  cases x with
  | none => exact nof h
  | some x =>
   exact po_someS (sndE hF e C x X h G).1
end
end I
end
section
namespace L2
end L2
namespace I
open PySem L2 PySem.Spec PyProof.Rows
section
variable (sg : Sg)
def asgOk (C : Ck) (t : Tg) (tg x : Expr) (e : E) : Bool :=
 match tg, x with
 | .Name _ _, .ListComp _ _ _ _ => match e with
  | .comp _ _ _ _ _ _ _ => true
  | .frz (.comp _ _ _ _ _ _ _) => true
  | _ => false
 | .Name _ _, x => noComp x
 | .Tuple ts _ _, .Tuple vs _ _ => match e with
  | _ => false
 | .Tuple _ _ _, x => noComp x
 | _, _ => false
mutual
def okS : I.S → Ck → Stmt → Bool
 | .asg t e, C, .Assign [tg] x _ => asgOk C t tg x e && tgOk C t tg && okE sg e C x
 | .setx o i e, C, .Assign [.Subscript x y _] z _ => noComp z && plainIx y && okE sg o C x && okE sg i C y && okE sg e C z
 | .aug i o e, C, .AugAssign (.Name x _) op y _ => nmOk C i x && bopOf op == some o && okE sg e C y
 | .ex e, C, .Expr x _ => noComp x && okE sg e C x
 | .ret e, C, .Return (some x) _ => okE sg e C x
 | .retN, _, .Return none _ => true
 | .pass, _, .Pass _ => true
 | .pass, _, .Expr (.Constant (.str _) _ _) _ => true
 | .brk, _, .Break _ => true
 | .cnt, _, .Continue _ => true
 | .bad, _, _ => true
 | .ifs c a b, C, .If x y z _ => okE sg c C x && okSs a C y && okSs b C z
 | .for t k src body, C, .For tg it bd [] _ => noSet it && itTg k tg && (match itName k with | some f => glb C.sc f | none => true) && (match itArgs k it with
  | some ys => okEs sg src C ys
  | none => false) && tgOk C t tg && okSs body C bd
 | _, _, _ => false
def okSs : List I.S → Ck → List Stmt → Bool
 | [], _, [] => true
 | s :: ss, C, x :: xs => okS s C x && okSs ss C xs
 | _, _, _ => false
end
end
section
variable {Γ : Gm} {S : Sg} {n : Nat} {F : FT} {X : Cx} {C : Ck}
theorem noComp_is {env} (h : noComp x = true) : swapsWith x t l env = pure false := by
 cases x <;> first | rfl | (cases h)
theorem noComp_sole (h : noComp x = true) : swapsWithSole [t] x l env = pure false := noComp_is h
theorem aug_ok {op : Operator} {o : Bop} (h : bopOf op = some o) (hx : o = .add ∨ o = .sub ∨ o = .mul) : ∃ C g, PIp X op (rI C fun i j => .int (g i j)) ∧ ((o = .add ∧ g = fun i j => i + j) ∨ (o = .sub ∧ g = fun i j => i - j) ∨ (o = .mul ∧ g = fun i j => i * j)) ∧ ∀ i j, (o ≠ .mul ∨ small i = true ∨ small j = true) → C i j := by
 cases op <;> first | (cases h; done) | skip
 all_goals cases h
 all_goals first | (rcases hx with z | z | z <;> cases z; done) | skip
 · exact ⟨fun _ _ => True, _, fun pins s σ H x y v u Q I rx ry ⟨i, j, a, b, _, q⟩ => iop_add pins s σ H x y v u Q I rx ry ⟨i, j, a, b, q⟩, .inl ⟨rfl, rfl⟩, fun _ _ _ => trivial⟩
 · exact ⟨fun _ _ => True, _, fun pins s σ H x y v u Q I rx ry ⟨i, j, a, b, _, q⟩ => iop_sub pins s σ H x y v u Q I rx ry ⟨i, j, a, b, q⟩, .inr (.inl ⟨rfl, rfl⟩), fun _ _ _ => trivial⟩
 · refine ⟨CMul, _, iop_mul, .inr (.inr ⟨rfl, rfl⟩), fun i j hh => ?_⟩
   rcases hh with z | z | z
   · exact absurd rfl z
   · exact .inl (small_ok z)
   · exact .inr (small_ok z)
def augR (i : Nat) (o : Bop) (ρ : Rho) (a : T) (w : W) (st : Sto) : Res (Fl × Rho) := match a, look w st with
 | .int x, some (.int y) => (match augI o x y with
  | some z => .ok (.nx, ρ.set i (some (.d (.int z)))) st
  | none => .bad)
 | _, _ => .bad
theorem af_aug {φ : List Addr} {st : Sto} {H : Hp} {D : Ends} {ρ : Rho} {i : Nat} {o : Bop} {e : E} (af : AfS Γ φ st H (evS F Γ.G (.aug i o e) ρ st) D) : ∃ t, ρ[i]? = some (some (.d t)) ∧ AfS Γ φ st H ((evE F Γ.G e ρ st).bind fun w st => augR i o ρ t w st) D := by
 have af : AfS Γ φ st H (match ρ[i]? with | some (some (.d a)) => (evE F Γ.G e ρ st).bind fun w st => augR i o ρ a w st | _ => .bad) D := af
 cases h1 : ρ[i]? with
 | none => rw [h1] at af; exact af.elim
 | some w0 =>
  cases w0 with
  | none => rw [h1] at af; exact af.elim
  | some w0 =>
   rw [h1] at af
   cases w0 with
   | ref k => exact af.elim
   | d t => exact ⟨t, rfl, af⟩
theorem af_aug2 {φ : List Addr} {st st1 : Sto} {H : Hp} {D : Ends} {ρ : Rho} {i : Nat} {o : Bop} {t : T} {w : W} (af : AfS Γ φ st H (augR i o ρ t w st1) D) : ∃ x y z, t = .int x ∧ look w st1 = some (.int y) ∧ augI o x y = some z ∧ AfS Γ φ st H (.ok (.nx, ρ.set i (some (.d (.int z)))) st1) D := by
 unfold augR at af
 cases t with
 | int x =>
  cases h : look w st1 with
  | none => rw [h] at af; exact af.elim
  | some u =>
   rw [h] at af
   cases u with
   | int y =>
    have af : AfS Γ φ st H (match augI o x y with | some z => .ok (.nx, ρ.set i (some (.d (.int z)))) st1 | none => .bad) D := af
    cases hz : augI o x y with
    | none => rw [hz] at af; exact af.elim
    | some z => rw [hz] at af; exact ⟨x, y, z, rfl, rfl, hz, af⟩
   | _ => exact af.elim
 | _ => exact af.elim
theorem s_aug (G : Gd Γ n C X) {i : Nat} {x : Str} {p pos : Pos} {y : Expr} {op : Operator} {o : Bop} {e : E} (hi : nmOk C i x = true) (ho : bopOf op = some o) (h : PE X y (tE Γ F e)) : PS X (.AugAssign (.Name x p) op y pos) (tS Γ F (.aug i o e)) := by
 obtain ⟨a, b, c⟩ := loc_ok G hi
 by_cases hx : o = .add ∨ o = .sub ∨ o = .mul
 · obtain ⟨Cc, g, hp, hg, hc⟩ := aug_ok (X := X) ho hx
   refine L2.PS.imp (ps_aug (by rw [G.N]; exact G.nd) a b h hp c) ?_
   rintro D σ H ⟨φ, st, ρ, en, rl, af⟩
   obtain ⟨t, h1, af⟩ := af_aug af
   obtain ⟨v, ev, rv⟩ := en.at_ i _ h1
   refine ⟨v, ev, φ, st, ρ, en, rl, af.bind.mono fun u H1 hh => ?_⟩
   obtain ⟨w, st1, φ1, rw1, pt, af1⟩ := hh
   obtain ⟨i0, j0, z, rfl, h2, hz, af1⟩ := af_aug2 af1
   cases (show v = .int i0 from rv)
   have fin : D.nx (σ.set i (some (.int z))) H1 := af1 _ H1 φ1 ((en.step pt).set (w := .d (.int z)) rfl) (Pt.refl pt.rl)
   rcases hg with ⟨rfl, rfl⟩ | ⟨rfl, rfl⟩ | ⟨rfl, rfl⟩
   · cases hz; exact ⟨i0, j0, rfl, rw1.int pt.rl h2, hc i0 j0 (.inl nofun), fin⟩
   · cases hz; exact ⟨i0, j0, rfl, rw1.int pt.rl h2, hc i0 j0 (.inl nofun), fin⟩
   · obtain ⟨hs, rfl⟩ := opt_if (show (if (small i0 || small j0) = true then some _ else none) = some z from hz)
     exact ⟨i0, j0, rfl, rw1.int pt.rl h2, hc i0 j0 (.inr ((Bool.or_eq_true _ _).mp hs)), fin⟩
 · rintro pins s σ H D I ⟨φ, st, ρ, en, rl, af⟩
   exfalso
   obtain ⟨t, h1, af⟩ := af_aug af
   cases h2 : evE F Γ.G e ρ st with
   | ok w st1 =>
    rw [h2] at af
    obtain ⟨i0, j0, z, rfl, h2, hz, af1⟩ := af_aug2 (show AfS Γ φ st H (augR i o ρ t w st1) D from af)
    cases o <;> first | (cases hz; done) | exact hx (.inl rfl) | exact hx (.inr (.inl rfl)) | exact hx (.inr (.inr rfl))
   | _ => rw [h2] at af; exact af
theorem s_asgC (hF : Fk Γ S n F) (G : Gd Γ n C X) {i : Nat} {y : Str} {py pos spos : Pos} {elt : Expr} {gs : List Comprehension} {scope : Scope} {N' : List Str} {ix : List (Option Nat)} {t : Tg} {k : Ik} {src ifs : List E} {el e : E} (hi : nmOk C i y = true) (he : ∀ σ H Q, tE Γ F e σ H Q → tE Γ F (.comp N' ix t k src ifs el) σ H Q)
 (h : okE S (.comp N' ix t k src ifs el) C (.ListComp elt gs scope pos) = true) : PS X (.Assign [.Name y py] (.ListComp elt gs scope pos) spos) (tS Γ F (.asg (.nm i) e)) := by
 obtain ⟨a, b, c⟩ := loc_ok G hi
 rcases gs with _ | ⟨⟨tg, it, fs, m⟩, _ | ⟨_, _⟩⟩ <;> try exact nof h
 · replace h := andB h
   simp only [Bool.and_eq_true, beq_iff_eq] at h
   obtain ⟨⟨⟨⟨⟨⟨⟨⟨h0, hb⟩, h2⟩, h3⟩, h4⟩, h5⟩, h6⟩, h7⟩, h8⟩ := h
   subst h0
   obtain ⟨b1, b2, b3, hs, b4⟩ := blk_is hb
   have hI : PI X tg it (tI Γ F k src) := it_is G hF h3 h4 h5 fun ys h => sndEs hF src C ys X h G
   have imp : ∀ D σ H, tS Γ F (.asg (.nm i) e) D σ H → tAsg (tComp ix (tI Γ F k src) (tGc Γ t) (tF Γ F ifs) (tE Γ F el)) (gName i) D σ H := by
    rintro D σ H ⟨φ, st, ρ, en, rl, af⟩
    simp only [evS] at af
    refine comp_imp (N' := N') hs b4 σ H _ (he σ H _ ⟨φ, st, ρ, en, rl, af.bind.mono fun v H1 ⟨w, st1, φ1, rw1, pt, af1⟩ => ?_⟩)
    cases hbd : bindW (.nm i) w ρ with
    | none => rw [hbd] at af1; exact af1.elim
    | some ρ' =>
     rw [hbd] at af1
     unfold bindW at hbd
     obtain ⟨_, rfl⟩ := opt_if hbd
     exact af1 _ H1 φ1 ((en.step pt).set rw1) (Pt.refl pt.rl)
   have nd : X.N.Nodup := by rw [G.N]; exact G.nd
   have hok : compOk X.env.scope X.N scope N' ix = true := by rw [G.sc, G.N]; exact b1
   have pg := fun cl D ex s H => tgc_ok (G.comp (scope := scope) b2 b3 cl D ex s H) h6
   have pf := fun cl D ex s H => (sndEs hF ifs _ fs _ h7 (G.comp (scope := scope) b2 b3 cl D ex s H)).2.2.1
   have pe := fun cl D ex s H => (sndE hF el _ elt _ h8 (G.comp (scope := scope) b2 b3 cl D ex s H)).1
   have hsw : swapsWith (.ListComp elt [⟨tg, it, fs, 0⟩] scope pos) (some (.Name y py)) spos.line X.env = pure (X.env.blockKind == .function && X.env.kindOf y == some .local && py.line == (Expr.ListComp elt [⟨tg, it, fs, 0⟩] scope pos).pos.line
    && !(scope.names.any fun (n, k) => n == y && (k == .local || k == .cell))) := rfl
   refine L2.PS.imp (t := tAsg (tComp ix (tI Γ F k src) (tGc Γ t) (tF Γ F ifs) (tE Γ F el)) (gName i)) ?_ imp
   cases hq : (X.env.blockKind == .function && X.env.kindOf y == some .local && py.line == (Expr.ListComp elt [⟨tg, it, fs, 0⟩] scope pos).pos.line
    && !(scope.names.any fun (n, k) => n == y && (k == .local || k == .cell))) with
   | true =>
    rw [hq] at hsw
    simp only [Bool.and_eq_true, beq_iff_eq] at hq
    exact ps_setC nd a hq.1.1.2 G.calm hI pg pf pe hok hsw (noSet_is h2)
   | false =>
    rw [hq] at hsw
    exact ps_asg (pe_comp G.calm hI pg pf pe hok (noSet_is h2)) (pg_name nd a b c) hsw rfl rfl
end
mutual
theorem sndS {Γ : Gm} {sg : Sg} {n : Nat} {F : FT} (hF : Fk Γ sg n F) : ∀ (s : I.S) (C : Ck) (x : Stmt) (X : Cx), okS sg s C x = true → Gd Γ n C X → PS X x (tS Γ F s)
 | .asg t e, C, x, X, h, G => by
  cases x <;> try exact nof h
  rename_i tgs v pos
  rcases tgs with _ | ⟨tg, _ | ⟨_, _⟩⟩ <;> try exact nof h
  · replace h := andB h
    simp only [Bool.and_eq_true] at h
    obtain ⟨⟨h1, h2⟩, h3⟩ := h
    cases tg <;> try exact nof h1
    · -- a name
      rename_i y py
      cases t with
      | tp is => cases h2
      | nt i is => cases h2
      | nm i =>
       by_cases hl : isLc v = true
       · cases v <;> first | (cases hl; done) | skip
         cases e <;> try exact nof h1
         · rename_i e'
           cases e' <;> try exact nof h1
           exact s_asgC hF G h2 (fun σ H Q ⟨φ, st, ρ, en, rl, af⟩ => ⟨φ, st, ρ, en, rl, by simp only [evE] at af; exact af.frz rl⟩) h3
         · exact s_asgC hF G h2 (fun _ _ _ q => q) h3
       · have hn : noComp v = true := by
          cases v <;> first | (exact h1) | (exact absurd rfl hl)
         exact s_asg (sndE hF e C v X h3 G).1 (tg_ok G h2) (noComp_sole hn) rfl rfl
    · -- a tuple
      rename_i ts kt p
      by_cases hl : isTupE v = true
      · cases v <;> first | (cases hl; done) | skip
        cases e <;> exact nof h1
      · have hn : noComp v = true := by
         cases v <;> first | (exact h1) | (exact absurd rfl hl)
        have hw : swappedStores [.Tuple ts kt p] v X.env = pure none := by
         cases v <;> first | rfl | exact absurd rfl hl
        exact s_asg (sndE hF e C v X h3 G).1 (tg_ok G h2) (noComp_sole hn) hw rfl
 | .setx o i e, C, x, X, h, G => by
  cases x <;> try exact nof h
  rename_i tgs v pos
  rcases tgs with _ | ⟨tg, _ | ⟨_, _⟩⟩ <;> try exact nof h
  rotate_left
  · cases tg <;> exact nof h
  cases tg <;> try exact nof h
  rename_i a b p
  · replace h := andB h
    simp only [Bool.and_eq_true] at h
    obtain ⟨⟨⟨⟨h1, h2⟩, h3⟩, h4⟩, h5⟩ := h
    refine s_setx (sndE hF o C a X h3 G).1 (sndE hF i C b X h4 G).1 (sndE hF e C v X h5 G).1 (fun w => ?_) (noComp_sole h1) (by rfl) rfl
    cases b <;> first | rfl | (cases h2; done)
 | .aug i o e, C, x, X, h, G => by
  cases x <;> try exact nof h
  rename_i tg op v pos
  cases tg <;> try exact nof h
  replace h := andB h
  simp only [Bool.and_eq_true, beq_iff_eq] at h
  exact s_aug G h.1.1 h.1.2 (sndE hF e C v X h.2 G).1
 | .ex e, C, x, X, h, G => by
  cases x <;> try exact nof h
  replace h := andB h
  exact s_ex (sndE hF e C _ X h.2 G).1 (noComp_is h.1)
 | .ret e, C, x, X, h, G => by
  cases x <;> try exact nof h
  rename_i v pos
  cases v with
  | none => exact nof h
  | some v => exact s_ret (sndE hF e C v X h G).1
 | .retN, C, x, X, h, G => by
  cases x <;> try exact nof h
  rename_i v pos
  cases v with
  | none => exact s_retN
  | some v => exact nof h
 | .pass, C, x, X, h, G => by
  cases x <;> first | exact nof h | exact s_pass | skip
  rename_i v pos
  cases v <;> try exact nof h
  rename_i c k p
  cases c <;> first | exact nof h | exact s_doc
 | .brk, C, x, X, h, G => by
  cases x <;> first | exact nof h | exact s_brk
 | .cnt, C, x, X, h, G => by
  cases x <;> first | exact nof h | exact s_cnt
 | .bad, C, x, X, h, G => fun pins s σ H D I ⟨φ, st, ρ, en, rl, af⟩ => False.elim af
 | .ifs c a b, C, x, X, h, G => by
  cases x <;> try exact nof h
  replace h := andB h
  simp only [Bool.and_eq_true] at h
  exact s_if (sndE hF c C _ X h.1.1 G).2 (sndSs hF a C _ X h.1.2 G) (sndSs hF b C _ X h.2 G)
 | .for t k src body, C, x, X, h, G => by
  cases x <;> try exact nof h
  rename_i tg it bd el pos
  cases el with
  | cons => exact nof h
  | nil =>
   replace h := andB h
   simp only [Bool.and_eq_true] at h
   obtain ⟨⟨⟨⟨⟨h1, h2⟩, h3⟩, h4⟩, h5⟩, h6⟩ := h
   exact s_for (by rw [G.xe]; exact PassesOwn.never) G.calm (it_is G hF h2 h3 h4 fun ys h => sndEs hF src C ys X h G) (tg_ok G h5) (sndSs hF body C bd X h6 G) (noSet_is h1)
theorem sndSs {Γ : Gm} {sg : Sg} {n : Nat} {F : FT} (hF : Fk Γ sg n F) : ∀ (ss : List I.S) (C : Ck) (xs : List Stmt) (X : Cx), okSs sg ss C xs = true → Gd Γ n C X → PSs X xs (tSs Γ F ss)
 | [], C, xs, X, h, G => by
  cases xs with
  | nil => exact s_nil
  | cons => exact nof h
 | s :: ss, C, xs, X, h, G => by
  cases xs with
  | nil => exact nof h
  | cons x xs =>
   replace h := andB h
   exact s_cons (sndS hF s C x X h.1 G) (sndSs hF ss C xs X h.2 G)
end
end I
end
section
namespace I
open PySem L2 PySem.Spec PyProof.Rows
structure Fm (Γ : Gm) (sg : Sg) (D : Dfn) (q m y : Str) (ps : List Str) (st : Stmt) (N : List Str) : Prop where
 df : ∃ C, ClsNm Γ.K C q ∧ Cls Γ.K C ∧ DfM Γ.K C m y st
 sc : FnScope N ps (defScope st)
 hb : ∀ (kV doc pm : Value) (an : Option Addr) (cdv ct : Value) (us : List Value), us.length = ps.length → bindArgs (PySem.W.fnOf m y (defArgs st) (defBody st) (defScope st) .none kV doc pm an cdv ct) ⟨us, []⟩ = pure (ps.zip us)
 nm : namesOk N = true
 ar : D.ar = ps.length
 sl : D.sl = N.length
 ok : okSs sg D.body ⟨N, defScope st, true, false⟩ (defBody st) = true
structure Fd (Γ : Gm) (sg : Sg) (D : Dfn) (x : Str) (ps : List Str) (st : Stmt) (N : List Str) (gx : Bool) : Prop where
 df : Df Γ.K Γ.mg x st
 sc : FnScope N ps (defScope st)
 hb : ∀ (kV doc pm : Value) (an : Option Addr) (cdv ct : Value) (us : List Value), us.length = ps.length → bindArgs (PySem.W.fnOf x x (defArgs st) (defBody st) (defScope st) .none kV doc pm an cdv ct) ⟨us, []⟩ = pure (ps.zip us)
 nm : namesOk N = true
 ar : D.ar = ps.length
 sl : D.sl = N.length
 ok : okSs sg D.body ⟨N, defScope st, true, gx⟩ (defBody st) = true
 tb : gx = true → ∃ P ∈ Γ.tabs, Tb Γ.K Γ.mg Γ.base x P
section
variable {Γ : Gm} {sg : Sg} {n : Nat} {F : FT}
theorem en_start {st} {H} {ws} {vs} {N} {k} (r : RWs Γ φ st H ws vs) (hk : k = N.length - ws.length) (hl : ws.length ≤ N.length) : En Γ φ st H (ws.map some ++ List.replicate k none) (start N vs) := by
 have hv := r.length
 unfold L2.start
 refine ⟨by simp; omega, fun i w h => ?_⟩
 by_cases hi : i < ws.length
 · rw [List.getElem?_append_left (by simpa using hi), List.getElem?_map, List.getElem?_eq_getElem hi] at h
   simp only [Option.map_some, Option.some.injEq] at h
   subst h
   obtain ⟨v, e, rv⟩ := r.get (List.getElem?_eq_getElem hi)
   exact ⟨v, by rw [List.getElem?_append_left (by simpa [hv] using hi), List.getElem?_map, e]; rfl, rv⟩
 · rw [List.getElem?_append_right (by simpa using hi), List.getElem?_replicate] at h
   split at h <;> cases h
theorem af_fin {st} {H} {Q} {r} (rl : Rl Γ φ st H) (af : Af Γ φ st H (fin st.length r) Q) : AfS Γ φ st H r { nx := fun _ H' => Q .non H', rt := Q } := by
 cases r with
 | ok p st1 =>
  obtain ⟨f, ρ'⟩ := p
  intro σ' H' φ' en pt
  cases f with
  | nx => exact af _ H' _ rfl (pt.cut rl.len)
  | bk => exact af.elim
  | ct => exact af.elim
  | rt w =>
   intro v rv
   have af : Af Γ φ st H (trTo _ w _) Q := af
   cases h : trTo _ w _ with
   | ok w' st2 =>
    rw [h] at af
    obtain ⟨φ2, p2, r2⟩ := tr_ok rl.len pt rv h
    exact af v H' _ r2 p2
   | _ => rw [h] at af; exact af.elim
 | _ => exact af
theorem body_ok (hF : Fk Γ sg n F) {D} {x} {ps} {st} {N} {gx} (d : Fd Γ sg D x ps st N gx) {j} (f : Addr) (cdv : Value) (hcd : gx = true → Bm Γ.mg Γ.base ∧ ∃ c P, cdv = .ref c ∧ PySem.W.CodeHd Γ.base c P ∧ P ∈ Γ.tabs) (A : Around) (outer : List _) (s : Shared) (H : Hp) (vs : List V) (Q : VK) (E : XK)
 (hr : Room (2 * n + 1) (A.deeper (envOfC x (defScope st) s.heap.objs.size f cdv))) (h : spF Γ (fun _ ws st => runF F Γ.G D ws st) j ps.length vs H Q E) :
 ∃ t, PSs (cxOf CX0 Γ.P Γ.w Γ.K Γ.mg Γ.base N x (defScope st) f cdv A outer s H E).nox (defBody st) t ∧ t { nx := fun _ H' => Q .non H', rt := Q } (start N vs) H := by
 refine ⟨_, sndSs hF _ _ _ _ d.ok ⟨rfl, rfl, rfl, rfl, rfl, rfl, rfl, rfl, hr.mono (Nat.le_succ _), d.sc.nd, d.nm, fun _ _ => rfl, rfl, fun h => ⟨(hcd h).1, hr, (hcd h).2⟩⟩, ?_⟩
 obtain ⟨φ, st0, ws, rl, rws, hl, af⟩ := h
 unfold runF at af
 have hn := by
  have := congrArg List.length d.sc.pre
  rw [List.length_take] at this
  omega
 simp only at af
 rw [if_pos (by rw [hl, d.ar])] at af
 exact ⟨φ, st0, _, en_start rws (by rw [d.sl, d.ar, hl]) (by omega), rl, af_fin rl af⟩
theorem bodym_ok (hF : Fk Γ sg n F) {D} {q m x y} {ps} {st} {N} (d : Fm Γ sg D q m y ps st N) {j} (f : Addr) (cdv : Value) (A : Around) (outer : List _) (s : Shared) (H : Hp) (vs : List V) (Q : VK) (E : XK)
 (hr : Room (2 * n + 1) (A.deeper (envOfC x (defScope st) s.heap.objs.size f cdv))) (h : spF Γ (fun _ ws st => runF F Γ.G D ws st) j ps.length vs H Q E) :
 ∃ t, PSs (cxOf CX0 Γ.P Γ.w Γ.K Γ.mg Γ.base N x (defScope st) f cdv A outer s H E).nox (defBody st) t ∧ t { nx := fun _ H' => Q .non H', rt := Q } (start N vs) H := by
 refine ⟨_, sndSs hF _ _ _ _ d.ok ⟨rfl, rfl, rfl, rfl, rfl, rfl, rfl, rfl, hr.mono (Nat.le_succ _), d.sc.nd, d.nm, fun _ _ => rfl, rfl, nofun⟩, ?_⟩
 obtain ⟨φ, st0, ws, rl, rws, hl, af⟩ := h
 unfold runF at af
 have hn := by
  have := congrArg List.length d.sc.pre
  rw [List.length_take] at this
  omega
 simp only at af
 rw [if_pos (by rw [hl, d.ar])] at af
 exact ⟨φ, st0, _, en_start rws (by rw [d.sl, d.ar, hl]) (by omega), rl, af_fin rl af⟩
end
structure Tx (Γ : Gm) (sg : Sg) (Ds : Nat → Option Dfn) : Prop where
 fd : ∀ (j : Nat) (x : Str) (ps : List Str), sg.fns j = some (x, ps) → ∃ D st N gx, Ds j = some D ∧ Fd Γ sg D x ps st N gx
 fm : ∀ (j : Nat) (q m : Str) (ps : List Str), sg.mth j = some (q, m, ps) → ∃ D y st N, Ds j = some D ∧ Fm Γ sg D q m y ps st N
 cls : ∀ q, sg.cls q = true → ∃ C, ClsNm Γ.K C q ∧ Γ.mg q = some (.ref C) ∧ Mk0 Γ.K C
 sub : ∀ q q' b, sg.sub q q' b = true → ∃ C C', ClsNm Γ.K C q ∧ Γ.mg q' = some (.ref C') ∧ Cls Γ.K C ∧ IsO Γ.K C C' b
 gn : sg.gn = Γ.gn
 g : GOk Γ
 blt : ∀ x ∈ ([("len" : Str), "tuple", "list", "int", "str", "min", "max", "all", "range", "enumerate", "zip", "any", "sum", "sorted", "set", "isinstance", "bool", "reversed"] : List Str), Γ.mg x = none
section
variable {Γ : Gm} {sg : Sg} {Ds : Nat → Option Dfn}
theorem fk_all (T : Tx Γ sg Ds) : ∀ n, Fk Γ sg n (run Γ.G Ds n)
 | 0 => ⟨T.gn, fun j x ps h => by
  obtain ⟨D, st, N, gx, _, d⟩ := T.fd j x ps h
  obtain ⟨f, fd, F, m⟩ := d.df.ex
  exact ⟨⟨f, fd, ⟨fun vs H Q E h => by obtain ⟨_, _, _, _, _, _, af⟩ := h; exact af.elim, fun A outer s H args us vs Q E _ _ _ _ h => by obtain ⟨_, _, _, _, _, _, af⟩ := h; exact af.elim⟩, m, F.kp, F.binds d.hb⟩⟩, fun j q m ps h => by
  obtain ⟨D, y, st, N, _, d⟩ := T.fm j q m ps h
  obtain ⟨C, hC, cl, dm⟩ := d.df
  obtain ⟨f, fd, F, mt⟩ := dm.ex
  exact ⟨C, hC, cl, ⟨⟨f, fd, ⟨fun vs H Q E h => by obtain ⟨_, _, _, _, _, _, af⟩ := h; exact af.elim, fun A outer s H args us vs Q E _ _ _ _ h => by obtain ⟨_, _, _, _, _, _, af⟩ := h; exact af.elim⟩, mt, F.binds d.hb⟩⟩⟩, T.cls, T.sub, T.g, T.blt⟩
 | n + 1 => ⟨T.gn, fun j x ps h => by
  obtain ⟨D, st, N, gx, hD, d⟩ := T.fd j x ps h
  have len : ∀ vs H Q E, spF Γ (run Γ.G Ds (n + 1)) j _ vs H Q E → vs.length = ps.length := fun vs H Q E h => by
   obtain ⟨_, _, ws, _, rws, hl, _⟩ := h
   rw [rws.length, hl]
  have go : ∀ {vs} {H} {Q} {E}, spF Γ (run Γ.G Ds (n + 1)) j ps.length vs H Q E → spF Γ (fun _ ws st => runF _ _ D ws st) j _ vs H Q E := fun h => by
   obtain ⟨φ, st0, ws, rl, rws, hl, af⟩ := h
   refine ⟨φ, st0, ws, rl, rws, hl, ?_⟩
   simp only [run, hD] at af
   exact af
  cases gx with
  | false => exact d.df.has d.sc d.hb len (fun f cdv A outer s H vs Q E hr h => body_ok (fk_all T n) d f _ nofun A _ s H vs Q E hr (go h))
  | true =>
   obtain ⟨P, hP, tb⟩ := d.tb rfl
   exact d.df.hasT tb d.sc d.hb len (fun f c A outer s H vs Q E hcd bm hr h => body_ok (fk_all T n) d f _ (fun _ => ⟨bm, c, P, rfl, hcd, hP⟩) A _ s H vs Q E hr (go h)), fun j q m ps h => by
  obtain ⟨D, y, st, N, hD, d⟩ := T.fm j q m ps h
  obtain ⟨C, hC, cl, dm⟩ := d.df
  have len : ∀ vs H Q E, spF Γ (run Γ.G Ds (n + 1)) j _ vs H Q E → vs.length = ps.length := fun vs H Q E h => by
   obtain ⟨_, _, ws, _, rws, hl, _⟩ := h
   rw [rws.length, hl]
  refine ⟨C, hC, cl, dm.has d.sc d.hb len fun f cdv A outer s H vs Q E hr h => bodym_ok (fk_all T n) d (j := j) f _ A _ s H vs Q E hr ?_⟩
  obtain ⟨φ, st0, ws, rl, rws, hl, af⟩ := h
  refine ⟨φ, st0, ws, rl, rws, hl, ?_⟩
  simp only [run, hD] at af
  exact af, T.cls, T.sub, T.g, T.blt⟩
theorem law_ok (T : Tx Γ sg Ds) {n} {D} {st} {N} {x} {f} {fd} (F : Fun Γ.K x x st f fd) (p : Str) (d : Fd Γ sg D x [p] st N false) (sp : Sp) (hsp : ∀ vs H Q E, sp vs H Q E → vs.length = 1 ∧ spF Γ (fun _ ws st => runF (run Γ.G Ds n) Γ.G D ws st) 0 1 vs H Q E) :
 FnOk Γ.P Γ.w Γ.K Γ.mg Γ.base CX0 (2 * n + 2) f fd [p] sp :=
 F.ok d.sc (fun vs H Q E h => (hsp vs H Q E h).1) fun cdv A outer s H vs Q E hr h => body_ok (fk_all T n) d f _ nofun A _ s H vs Q E hr (hsp vs H Q E h).2
theorem law_sp {a} {ns : List _} {H} {Q} {E} (hS : SqL Γ.K H a (ns.map V.int)) (ht : ∀ P ∈ Γ.tabs, H P = some (TabO P)) (hr : ∃ st', runF (run Γ.G Ds n) Γ.G D [.d (.lst (ns.map T.int))] [] = .ok (.d (.bl true)) st')
 (hq : ∀ H', (∀ P ∈ Γ.tabs, H' P = some (TabO P)) → Q (.bl true) H') : spF Γ (fun _ ws st => runF (run Γ.G Ds n) Γ.G D ws st) 0 1 [.ref a] H Q E := by
 obtain ⟨st', hr⟩ := hr
 have nl : ∀ b, ¬ Live [] [] b := by rintro b ⟨k, xs, e, _⟩; simp at e
 refine ⟨[], [], [.d (.lst _)], ⟨rfl, fun i j a xs ys e => by simp at e, fun k xs a e => by simp at e, ht⟩, ⟨_, [], rfl, ⟨a, _, rfl, hS.elim (fun x => .inl ⟨x, nl a⟩) .inr, Rps.ofInts ns⟩, rfl⟩, rfl, ?_⟩
 show Af Γ [] [] H (runF _ _ D _ []) Q
 rw [hr]
 intro v H' φ' rv pt
 cases rv
 exact hq H' pt.rl.tab
end
end I
end
section
namespace I
open PySem L2 PySem.Spec PyProof.Rows
theorem fm_ext {α β : Type} {f g : α → Option β} : ∀ {l : List α}, (∀ x ∈ l, f x = g x) → l.filterMap f = l.filterMap g
 | [], _ => rfl
 | x :: l, h => by rw [List.filterMap_cons, List.filterMap_cons, h x List.mem_cons_self, fm_ext fun y hy => h y (List.mem_cons_of_mem _ hy)]
theorem zip_look {α : Type} : ∀ {ps : List Str} {us : List α}, us.length = ps.length → ∀ n ∈ ps, ((ps.zip us).lookup n).isSome = true
 | [], _, _, n, h => by cases h
 | p :: ps, [], hl, n, h => by cases hl
 | p :: ps, u :: us, hl, n, h => by
  rw [List.zip_cons_cons, List.lookup_cons]
  cases e : n == p with
  | true => rfl
  | false =>
   rcases List.mem_cons.mp h with z | z
   · rw [z] at e; simp at e
   · exact zip_look (by simpa using hl) n z
theorem zip_back {α : Type} : ∀ {ps : List Str} {us : List α}, us.length = ps.length → ps.Nodup → (ps.filterMap fun n => ((ps.zip us).lookup n).map fun v => (n, v)) = ps.zip us
 | [], us, _, _ => rfl
 | p :: ps, [], hl, _ => by cases hl
 | p :: ps, u :: us, hl, nd => by
  rw [List.nodup_cons] at nd
  simp
  refine Eq.trans (fm_ext fun n hn => ?_) (zip_back (by simpa using hl) nd.2)
  rw [List.lookup_cons]
  have : (n == p) = false := by
   cases e : n == p with
   | false => rfl
   | true => grind
  rw [this]
theorem bind_plain (x y : Str) (as : List Arg) (body : List Stmt) (sc : Scope) (kV doc pm : Value) (an : Option Addr) (cdv ct : Value) (us : List Value) (hl : us.length = as.length) (nd : (as.map Arg.arg).Nodup) : bindArgs (PySem.W.fnOf x y ⟨[], as, none, [], [], none, []⟩ body sc .none kV doc pm an cdv ct) ⟨us, []⟩ = pure ((as.map Arg.arg).zip us) := by
 have hl' : us.length = (as.map Arg.arg).length := by simp_all
 have key : ∃ (A B : Sem (List (Str × Value))) (g : Str × Value → List (Str × Value) → Sem (ForInStep (List (Str × Value)))), bindArgs (PySem.W.fnOf x y ⟨[], as, none, [], [], none, []⟩ body sc .none kV doc pm an cdv ct) ⟨us, []⟩ =
  (if (decide (us.length > (as.map Arg.arg).length) && true) = true then A else if (!(((as.map Arg.arg).take ((as.map Arg.arg).length - (([] : List Value).drop (([] : List Value).length - (as.map Arg.arg).length)).length)).filter (fun n => (((as.map Arg.arg).zip us).lookup n).isNone)).isEmpty) = true then B
   else (forIn (((as.map Arg.arg).drop ((as.map Arg.arg).length - (([] : List Value).drop (([] : List Value).length - (as.map Arg.arg).length)).length)).zip (([]).drop (([]).length - (as.map Arg.arg).length))) ((as.map _).zip us) g >>= fun sl => pure ((as.map Arg.arg ++ []).filterMap fun n => (sl.lookup n).map fun v => (n, v)))) := ⟨_, _, _, rfl⟩
 obtain ⟨A, B, g, e⟩ := key
 rw [e]
 generalize as.map _ = ps at *
 have h1 : (ps.take ps.length).filter (fun n => ((ps.zip us).lookup n).isNone) = [] := by
  rw [List.take_length, List.filter_eq_nil_iff]
  intro n hn
  have := zip_look hl' n hn
  simp_all
 have h3 : (decide (us.length > ps.length) && true) = true ↔ False := by simp; omega
 rw [if_neg fun z => h3.mp z, List.drop_nil, List.length_nil, Nat.sub_zero, h1, List.zip_nil_right, List.append_nil]
 show (pure _ : Sem _) = _
 rw [zip_back hl' nd]
set_option genInjectivity false in
structure Rw where
 j : Nat
 x : Str
 ps : List Str
 D : Dfn
 st : Stmt
 N : List Str
 gx : Bool
 c : Option (Str × Str) := none
abbrev rw0 (j : Nat) (x : Str) (D : Dfn) (st : Stmt) (N : List Str) (gx : Bool := false) (c : Option (Str × Str) := none) : Rw := ⟨j, x, N.take D.ar, D, st, N, gx, c⟩
def AllL {α : Type} (P : α → Prop) : List α → Prop
 | [] => True
 | r :: l => P r ∧ AllL P l
theorem AllL.mem : ∀ {l}, AllL P l → ∀ r ∈ l, P r
 | [], _, r, h => by cases h
 | x :: l, a, r, h => by
  rcases List.mem_cons.mp h with z | z
  · rw [z]; exact a.1
  · exact AllL.mem a.2 r z
def fnOfR (r : Rw) : Option (Str × List Str) := match r.c with
 | none => some (r.x, r.ps)
 | some _ => none
def mtOfR (r : Rw) : Option (Str × Str × List Str) := match r.c with
 | none => none
 | some q => some (q.1, r.x, r.ps)
def sgOf (gn : Nat → Option Str) (tb : List Rw) (cs : List Str) (sb : List (Str × Str × Bool)) : Sg := ⟨gn, fun j => (tb.find? fun r => r.j == j).bind fnOfR, fun j => (tb.find? fun r => r.j == j).bind mtOfR, fun q => cs.contains q, fun q q' b => sb.contains (q, q', b)⟩
def dsOf (tb : List Rw) (j : Nat) : Option Dfn := (tb.find? fun r => r.j == j).map (·.D)
def plainAs (a : Arguments) : Bool := a.posonlyargs.isEmpty && a.vararg.isNone && a.kwonlyargs.isEmpty && a.kw_defaults.isEmpty && a.kwarg.isNone && a.defaults.isEmpty
def scOk (N ps : List Str) (sc : Scope) : Bool := sc.kind == .function && !sc.isCoroutine && !sc.isGenerator && decide N.Nodup && N.take ps.length == ps && ps.all (fun x => sc.names.lookup x == some .local || sc.names.lookup x == some .cell) && sc.names.all fun y => !(y.2 == .free)
theorem scOk_is (h : scOk N ps sc = true) : FnScope N ps sc := by
 unfold scOk at h
 simp only [Bool.and_eq_true, beq_iff_eq, Bool.not_eq_true', decide_eq_true_eq, List.all_eq_true, Bool.or_eq_true] at h
 obtain ⟨⟨⟨⟨⟨⟨h1, h2⟩, h3⟩, h4⟩, h5⟩, h6⟩, h7⟩ := h
 exact ⟨h1, h2, h3, h4, h5, h6, fun y hy z => by have := h7 y hy; grind⟩
def chk (S : Sg) (r : Rw) : Bool := scOk r.N r.ps (defScope r.st) && plainAs (defArgs r.st) && (defArgs r.st).args.map Arg.arg == r.ps && namesOk r.N && r.D.ar == r.ps.length && r.D.sl == r.N.length && okSs S r.D.body ⟨r.N, defScope r.st, true, r.gx⟩ (defBody r.st)
theorem chk_hb {S} {r} (h : chk S r = true) (y : Str) (kV doc pm : Value) (an : Option _) (cdv ct : Value) (us : List _) (hl : us.length = r.ps.length) : bindArgs (PySem.W.fnOf r.x y (defArgs r.st) (defBody r.st) (defScope r.st) .none kV doc pm an cdv ct) ⟨us, []⟩ = pure (r.ps.zip us) := by
 unfold chk at h
 simp only [Bool.and_eq_true, beq_iff_eq] at h
 obtain ⟨⟨⟨⟨⟨⟨h1, h2⟩, h3⟩, h4⟩, h5⟩, h6⟩, h7⟩ := h
 have sc := scOk_is h1
 have nd : r.ps.Nodup := by rw [← sc.pre]; exact sc.nd.sublist (List.take_sublist _ _)
 generalize defArgs _ = a at *
 obtain ⟨a1, as, a3, a4, a5, a6, a7⟩ := a
 unfold plainAs at h2
 simp only [Bool.and_eq_true, List.isEmpty_iff, Option.isNone_iff_eq_none] at h2
 obtain ⟨⟨⟨⟨⟨rfl, rfl⟩, rfl⟩, rfl⟩, rfl⟩, rfl⟩ := h2
 rw [← h3] at hl nd ⊢
 exact bind_plain _ _ _ _ _ _ _ _ _ _ _ _ (by simpa using hl) nd
theorem chk_ok {S} {r} (h : chk S r = true) (d : Df Γ.K Γ.mg r.x r.st) (ht : r.gx = true → ∃ P ∈ Γ.tabs, Tb Γ.K Γ.mg Γ.base r.x P) : Fd Γ S r.D r.x r.ps r.st r.N r.gx := by
 have hb := chk_hb h r.x
 unfold chk at h
 simp only [Bool.and_eq_true, beq_iff_eq] at h
 obtain ⟨⟨⟨⟨⟨⟨h1, h2⟩, h3⟩, h4⟩, h5⟩, h6⟩, h7⟩ := h
 exact ⟨d, scOk_is h1, hb, h4, h5, h6, h7, ht⟩
theorem chkm_ok {S} {r} {q y} (h : chk S r = true) (hx : r.gx = false) (d : ∃ C, ClsNm Γ.K C q ∧ Cls Γ.K C ∧ DfM Γ.K C r.x y r.st) : Fm Γ S r.D q r.x y r.ps r.st r.N := by
 have hb := chk_hb h y
 unfold chk at h
 simp only [Bool.and_eq_true, beq_iff_eq] at h
 obtain ⟨⟨⟨⟨⟨⟨h1, h2⟩, h3⟩, h4⟩, h5⟩, h6⟩, h7⟩ := h
 exact ⟨d, scOk_is h1, hb, h4, h5, h6, hx ▸ h7⟩
def RwOk (Γ : Gm) (r : Rw) : Prop := match r.c with
 | none => Df Γ.K Γ.mg r.x r.st
 | some q => r.gx = false ∧ ∃ C, ClsNm Γ.K C q.1 ∧ Cls Γ.K C ∧ DfM Γ.K C r.x q.2 r.st
theorem tx_of {Γ : Gm} {tb : List Rw} {gn : Nat → Option Str} {cs : List Str} {sb : List (Str × Str × Bool)} (hc : tb.all (chk (sgOf gn tb cs sb)) = true) (hd : AllL (RwOk Γ) tb) (ht : ∀ r ∈ tb, r.gx = true → ∃ P ∈ Γ.tabs, Tb Γ.K Γ.mg Γ.base r.x P)
 (hcs : ∀ q ∈ cs, ∃ C, ClsNm Γ.K C q ∧ Γ.mg q = some (.ref C) ∧ Mk0 Γ.K C) (hsb : ∀ z ∈ sb, ∃ C C', ClsNm Γ.K C z.1 ∧ Γ.mg z.2.1 = some (.ref C') ∧ Cls Γ.K C ∧ IsO Γ.K C C' z.2.2) (hn : gn = Γ.gn) (g : GOk Γ) (hb : ∀ x ∈ ([("len" : Str), "tuple", "list", "int", "str", "min", "max", "all", "range", "enumerate", "zip", "any", "sum", "sorted", "set", "isinstance", "bool", "reversed"] : List Str), Γ.mg x = none) : Tx Γ (sgOf gn tb cs sb) (dsOf tb) where
 fd := fun j x ps h => by
  have h : (tb.find? fun r => r.j == j).bind fnOfR = some (x, ps) := h
  cases e : tb.find? fun r => r.j == j with
  | none => rw [e] at h; cases h
  | some r =>
   rw [e, Option.bind_some] at h
   have hm := List.mem_of_find?_eq_some e
   have ok := hd.mem r hm
   unfold fnOfR at h
   unfold RwOk at ok
   cases q : r.c with
   | none =>
    simp only [q] at h ok
    cases h
    exact ⟨r.D, r.st, r.N, r.gx, by unfold dsOf; rw [e]; rfl, chk_ok (List.all_eq_true.mp hc r hm) ok (ht r hm)⟩
   | some _ => simp_all
 fm := fun j c x ps h => by
  have h : (tb.find? fun r => r.j == j).bind mtOfR = some (c, x, ps) := h
  cases e : tb.find? fun r => r.j == j with
  | none => rw [e] at h; cases h
  | some r =>
   rw [e, Option.bind_some] at h
   have hm := List.mem_of_find?_eq_some e
   have ok := hd.mem r hm
   unfold mtOfR at h
   unfold RwOk at ok
   cases q : r.c with
   | none => simp only [q] at h; cases h
   | some _ =>
    simp only [q] at h ok
    cases h
    exact ⟨r.D, _, r.st, r.N, by unfold dsOf; rw [e]; rfl, chkm_ok (List.all_eq_true.mp hc r hm) ok.1 ok.2⟩
 cls := fun q h => hcs q (by simpa [sgOf] using h)
 sub := fun q q' b h => hsb (q, q', b) (by simpa [sgOf] using h)
 gn := hn
 g := g
 blt := hb
def gnOf (gs : List (Nat × Str × Int)) (j : Nat) : Option Str := (gs.find? fun r => r.1 == j).map (·.2.1)
theorem gok_of {gs} (hg : Γ.gn = gnOf gs) (h : AllL (fun r => Γ.G[r.1]? = some (.int r.2.2) ∧ ∃ t, Γ.mg r.2.1 = some (.int r.2.2 t)) gs) : GOk Γ :=
 ⟨fun j x e => by
  rw [hg] at e
  unfold gnOf at e
  cases q : gs.find? fun r => r.1 == j with
  | none => rw [q] at e; cases e
  | some r =>
   rw [q] at e
   cases e
   have hj := by have := List.find?_some q; simpa using this
   obtain ⟨h1, t, h2⟩ := h.mem r (List.mem_of_find?_eq_some q)
   subst hj
   exact ⟨_, .int _, _, h2, ⟨t, rfl⟩, h1, fun _ _ => rfl⟩⟩
end I
end
section
namespace I
open PySem L2 PySem.Spec PyProof.Rows
structure Kf (K : PySem.W.Frag) (x : Str) (st : Stmt) : Prop where
 ex : ∃ (f : Addr) (od an : Option Addr) (sl : Array (Option Value)) (oc kV dc pm cd ct : Value), PySem.W.nsIn K mainGlobals x = some (some (.ref f)) ∧ K.lookup f = some ⟨oc, od, .func (PySem.W.fnOf x x (defArgs st) (defBody st) (defScope st) .none kV dc pm an cd ct), sl⟩ ∧ PySem.W.codeIn K cd x = true ∧ PySem.W.keepIn K (.ref f) = true
theorem kf_mk {K} {x} {st} {f} {od an} {sl} {oc kV dc pm cd ct} (a : PySem.W.nsIn K mainGlobals x = some (some (.ref f))) (l : K.lookup f = some ⟨oc, od, .func (PySem.W.fnOf x x (defArgs st) (defBody st) (defScope st) .none kV dc pm an cd ct), sl⟩) (c : PySem.W.codeIn K cd x = true) (k : PySem.W.keepIn K (.ref f) = true) : Kf K x st :=
 ⟨f, od, an, sl, oc, kV, dc, pm, cd, ct, a, l, c, k⟩
theorem Kf.df {K} {x} {st} {h} {mg} (d : Kf K x st) (X : K.In h) (G : h.Ns mainGlobals mg) : Df K mg x st := by
 obtain ⟨f, od, an, sl, oc, kV, dc, pm, cd, ct, a, l, c, k⟩ := d.ex
 exact ⟨⟨f, _, fun_mk l c k, PySem.W.mg_of X G a⟩⟩
def gmOf (P : Program) (w : World) (K : PySem.W.Frag) (mg : Str → Option Value) (base : Heap) (ts : List Addr) (gn : Nat → Option Str) (G : List T) : Gm := ⟨P, w, K, mg, base, ts, gn, G⟩
abbrev blts : List Str := ["len", "tuple", "list", "int", "str", "min", "max", "all", "range", "enumerate", "zip", "any", "sum", "sorted", "set", "isinstance", "bool", "reversed"]
theorem gs_of {G : List T} {gs : List (Nat × Str × Int)} {K} {h} {mg} (hG : gs.all (fun r => match G[r.1]? with | some (.int i) => i == r.2.2 | _ => false) = true) (hc : AllL (fun r => ∃ t, PySem.W.nsIn K mainGlobals r.2.1 = some (some (.int r.2.2 t))) gs) (X : K.In h) (N : h.Ns mainGlobals mg) : AllL (fun r => G[r.1]? = some (.int r.2.2) ∧ ∃ t, mg r.2.1 = some (.int r.2.2 t)) gs := by
 induction gs with
 | nil => trivial
 | cons r l ih =>
  rw [List.all_cons, Bool.and_eq_true] at hG
  obtain ⟨⟨t, e⟩, h2⟩ := hc
  refine ⟨⟨?_, t, PySem.W.mg_of X N e⟩, ih hG.2 h2⟩
  have h1 := hG.1
  split at h1
  · simp_all
  · cases h1
theorem nz_mk {K} {x} (h : PySem.W.nsIn K mainGlobals x = some none) : PySem.W.nsIn K mainGlobals x = some none := h
theorem ng_mk {K} {x} {v} {t} (h : PySem.W.nsIn K mainGlobals x = some (some (.int v t))) : ∃ t, PySem.W.nsIn K mainGlobals x = some (some (.int v t)) := ⟨t, h⟩
def TabsK (K : PySem.W.Frag) (tabs : List (Addr × Addr)) (r : Rw) : Prop := r.gx = true → ∃ q ∈ tabs, PySem.W.tabIn K r.x = some q
def spLawG (K : PySem.W.Frag) (tabs : List (Addr × Addr)) : Sp := fun vs H Q _ => ∃ (a : Addr) (ns : List Int), vs = [.ref a] ∧ SqL K H a (ns.map V.int) ∧ ns.length ≤ 63 ∧ (∀ q ∈ tabs, H q.2 = some (TabO q.2)) ∧ ∀ H', (∀ q ∈ tabs, H' q.2 = some (TabO q.2)) → Q (.bl true) H'
def LawFnG (l : PySem.W.OpenLaw) (w : World) (K : PySem.W.Frag) (mg : Str → Option Value) (fa : Addr) (h : Heap) (n : Nat) : Prop :=
 ∃ (fd : FuncData) (tabs : List (Addr × Addr)) (sp : Sp), (∀ (s : Shared) (u : Value), BindsTo s fd ⟨[u], []⟩ [("_law_script", u)]) ∧ PySem.W.TabsAt tabs h ∧
  (∀ base : Heap, K.In base → base.Ns mainGlobals mg → Bm mg base → (∀ q ∈ tabs, PySem.W.CodeHd base q.1 q.2) → FnOk l.prog w K mg base CX0 n fa fd ["_law_script"] sp) ∧
  ∀ (H : Hp) (a : Addr) (ns : List Int), ns.length ≤ 63 → SqL K H a (ns.map V.int) → (∀ q ∈ tabs, H q.2 = some (TabO q.2)) → sp [.ref a] H (fun v H' => v = .bl true ∧ ∀ q ∈ tabs, H' q.2 = some (TabO q.2)) fun _ _ _ => False
theorem lawFnG_of {l : PySem.W.OpenLaw} {w : World} {K : PySem.W.Frag} {h : Heap} {mg : Str → Option _} {fa} {n} {st} {tabs} (X : K.In h) (G : h.Ns mainGlobals mg) (hfa : mg "law" = some (.ref fa)) (hT : AllL (fun q => PySem.W.CodeHd h q.1 q.2 ∧ h.get? q.2 = some (PySem.W.tabObj #[])) tabs) (hl : Kf K "law" st)
 (hb : ∀ (kV doc pm : Value) (an : Option _) (cdv ct : Value) (us : List _), us.length = 1 → bindArgs (PySem.W.fnOf "law" "law" (defArgs st) (defBody st) (defScope st) .none kV doc pm an cdv ct) ⟨us, []⟩ = pure ([("_law_script" : Str)].zip us))
 (F : ∀ (base : Heap) (f : Addr) (fd : FuncData), K.In base → base.Ns mainGlobals mg → Bm mg base → (∀ q ∈ tabs, PySem.W.CodeHd base q.1 q.2) → Fun K "law" "law" st f fd → Df K mg "law" st → FnOk l.prog w K mg base CX0 n f fd ["_law_script"] (spLawG K tabs)) : LawFnG l w K mg fa h n := by
 have d := hl.df X G
 obtain ⟨f, od, an, sl, oc, kV, dc, pm, cd, ct, a, e, c, k⟩ := hl.ex
 have e2 := hfa.symm.trans (PySem.W.mg_of X G a)
 cases e2
 exact ⟨_, _, _, fun s v => .of_eq (hb _ _ _ _ _ _ _ rfl), fun q hq => hT.mem q hq, fun base kb nb bm hcd => F _ fa _ kb nb bm hcd (fun_mk e c k) d, fun H a ns hn hS hTb => ⟨a, ns, rfl, hS, hn, hTb, fun H' h' => ⟨rfl, h'⟩⟩⟩
theorem tb_of {K} {mg} {base} {tabs} (ht : AllL (TabsK K tabs) tb) (kb : K.In base) (nb : base.Ns mainGlobals mg) (bm : Bm mg base) (hcd : ∀ q ∈ tabs, PySem.W.CodeHd base q.1 q.2) : ∀ r ∈ tb, r.gx = true → ∃ P ∈ tabs.map Prod.snd, Tb K mg base r.x P := fun r hr z => by
 obtain ⟨q, hq, e⟩ := ht.mem r hr z
 exact ⟨q.2, List.mem_map_of_mem hq, ⟨⟨q.1, e, hcd q hq⟩, kb, nb, bm⟩⟩
theorem walkG {q} {loose} {XP} {YP} {d} {K : Params → PySem.W.Frag} {n} (hn : l.most = some 63) (hdf : d.params.defaults = []) (hr : n ≤ 130)
 (hY : ∀ (w : World) (h : Heap), YP w h → (K w.params).In h) (hnt : ∀ w : World, PySem.W.noTabs (K w.params) = true)
 (F : ∀ (w : World) (mg mb : Str → Option _) (fa : Addr) (h : Heap) (s₀ : Shared), PySem.W.Ground q loose [] XP w s₀ mg mb h → (K w.params).In h → h.Ns mainGlobals mg → mg d.name = some (.ref fa) → LawFnG l w (K w.params) mg fa h n) :
 PySem.W.WalkO q loose XP YP l.row.toRowW d [] fun f vs => PySem.call f vs :=
 L2.walk_ofT hn (by decide) hdf ((⟨rfl, by decide, by decide⟩ : Room _ _).mono hr) hY hnt F
structure Kc (K : PySem.W.Frag) (q : Str) : Prop where
 ex : ∃ C, ClsNm K C q ∧ Cls K C
structure Kn (K : PySem.W.Frag) (q : Str) : Prop where
 ex : ∃ C, PySem.W.nsIn K mainGlobals q = some (some (.ref C)) ∧ Mk0 K C
structure Ks (K : PySem.W.Frag) (z : Str × Str × Bool) : Prop where
 ex : ∃ C C', PySem.W.nsIn K mainGlobals z.1 = some (some (.ref C)) ∧ PySem.W.nsIn K mainGlobals z.2.1 = some (some (.ref C')) ∧ IsO K C C' z.2.2
structure Km (K : PySem.W.Frag) (q m y : Str) (st : Stmt) : Prop where
 ex : ∃ C, PySem.W.nsIn K mainGlobals q = some (some (.ref C)) ∧ DfM K C m y st
def RwK (K : PySem.W.Frag) (r : Rw) : Prop := match r.c with
 | none => Kf K r.x r.st
 | some q => Km K q.1 r.x q.2 r.st
def clsOk (tb : List Rw) (cs news : List Str) (sb : List (Str × Str × Bool)) : Bool := tb.all (fun r => match r.c with | none => true | some q => !r.gx && cs.contains q.1) && news.all cs.contains && sb.all fun z => cs.contains z.1
section
variable {K : PySem.W.Frag} {h : Heap} {mg : Str → Option Value} {tb : List Rw} {cs news : List Str} {sb : List (Str × Str × Bool)}
theorem rws_of (hc : clsOk tb cs news sb = true) (X : Γ.K.In h) (G : h.Ns mainGlobals Γ.mg) (k : AllL (Kc Γ.K) cs) : ∀ r ∈ tb, RwK Γ.K r → RwOk Γ r := by
 intro r hr a
 unfold clsOk at hc
 simp only [Bool.and_eq_true] at hc
 have h1 := List.all_eq_true.mp hc.1.1 r hr
 unfold RwK at a
 unfold RwOk
 cases e : r.c with
 | none => simp only [e] at a ⊢; exact a.df X G
 | some q =>
  simp only [e, Bool.and_eq_true, Bool.not_eq_true'] at a h1 ⊢
  obtain ⟨C, h2, h3⟩ := (k.mem _ (by simpa using h1.2)).ex
  obtain ⟨C', h4, h5⟩ := a.ex
  have := h2.2.symm.trans h4
  cases this
  exact ⟨h1.1, C, h2, h3, h5⟩
theorem news_of (hc : clsOk tb cs news sb = true) (X : K.In h) (G : h.Ns mainGlobals mg) (k : AllL (Kc K) cs) (n : AllL (Kn K) news) : ∀ q ∈ news, ∃ C, ClsNm K C q ∧ mg q = some (.ref C) ∧ Mk0 K C := by
 intro q hq
 unfold clsOk at hc
 simp only [Bool.and_eq_true] at hc
 have h1 := List.all_eq_true.mp hc.1.2 q hq
 obtain ⟨C, h2, h3⟩ := (k.mem q (by simpa using h1)).ex
 obtain ⟨C', h4, h5⟩ := (n.mem q hq).ex
 have := h2.2.symm.trans h4
 cases this
 exact ⟨C, h2, PySem.W.mg_of X G h4, h5⟩
theorem subs_of (hc : clsOk tb cs news sb = true) (X : K.In h) (G : h.Ns mainGlobals mg) (k : AllL (Kc K) cs) (n : AllL (Ks K) sb) : ∀ z ∈ sb, ∃ C C', ClsNm K C z.1 ∧ mg z.2.1 = some (.ref C') ∧ Cls K C ∧ IsO K C C' z.2.2 := by
 intro z hz
 unfold clsOk at hc
 simp only [Bool.and_eq_true] at hc
 have h1 := List.all_eq_true.mp hc.2 z hz
 obtain ⟨C, h2, h3⟩ := (k.mem _ (by simpa using h1)).ex
 obtain ⟨C', C'', h4, h5, h6⟩ := (n.mem z hz).ex
 have := h2.2.symm.trans h4
 cases this
 exact ⟨C, C'', h2, PySem.W.mg_of X G h5, h3, h6⟩
theorem AllL.of_mem : ∀ {l}, (∀ r ∈ l, P r) → AllL P l
 | [], _ => trivial
 | x :: l, h => ⟨h x List.mem_cons_self, AllL.of_mem fun r hr => h r (List.mem_cons_of_mem _ hr)⟩
end
end I
end
section
namespace I
open PySem L2
@[inline] def ws (s : String) : Array Lean.Name := ((s.splitOn " ").map String.toName).toArray
section
variable {F : FT} {G : List T} {st : Sto} {ρ : Rho}
theorem E_v {i : Nat} : evE F G (.v i) ρ st = (match ρ[i]? with
 | some (some w) => .ok w st
 | _ => .bad) := rfl
theorem E_c {t : T} : evE F G (.c t) ρ st = (.ok (.d t) st) := rfl
theorem E_g {j : Nat} : evE F G (.g j) ρ st = (match G[j]? with
 | some t => .ok (.d t) st
 | none => .bad) := rfl
theorem S_retN  : evS F G (.retN) ρ st = (.ok (.rt (.d .non), ρ) st) := rfl
theorem S_pass  : evS F G (.pass) ρ st = (.ok (.nx, ρ) st) := rfl
theorem S_brk  : evS F G (.brk) ρ st = (.ok (.bk, ρ) st) := rfl
theorem S_cnt  : evS F G (.cnt) ρ st = (.ok (.ct, ρ) st) := rfl
end
section
variable {F : FT} {G : List T} {st st' st1 : Sto} {ρ : Rho}
theorem bind_ok {f : α → Sto → Res β} : (Res.ok a st).bind f = f a st := rfl
theorem look_d {t : T} : look (.d t) st = some t := rfl
theorem frz_d {n : Nat} {t : T} : frzTo n (.d t) st = .ok t (st.take n) := rfl
theorem tr_d {n : Nat} {t : T} : trTo n (.d t) st = .ok (.d t) (st.take n) := rfl
theorem take_all (h : st.length = n) : st.take n = st := by subst h; exact List.take_length
theorem fresh_lst {xs : List T} : fresh (.lst xs) st = .ok (.ref st.length) (st ++ [some xs]) := rfl
theorem fresh_tup {xs : List T} : fresh (.tup xs) st = .ok (.d (.tup xs)) st := rfl
theorem fresh_int {i : Int} : fresh (.int i) st = .ok (.d (.int i)) st := rfl
theorem fresh_str {i : Str} : fresh (.str i) st = .ok (.d (.str i)) st := rfl
theorem fresh_bl {i : Bool} : fresh (.bl i) st = .ok (.d (.bl i)) st := rfl
theorem bin_w {x y} {a b t} (hx : look x st = some a) (hy : look y st = some b) (h : I.binT o a b = some t) : binW o x y st = I.fresh t st := by simp [binW, hx, hy, h]
theorem bin_d (h : I.binT o a b = some t) : binW o (.d a) (.d b) st = I.fresh t st := bin_w rfl rfl h
theorem mul_l (h : small a = true) : I.binT .mul (.int a) (.int b) = some (.int (a * b)) := by
 show (if (small a || small b) = true then some _ else none) = _
 simp_all
theorem mul_r {a b} (h : small b = true) : I.binT .mul (.int a) (.int b) = some (.int (a * b)) := by
 show (if (small a || small b) = true then some _ else none) = _
 simp_all
theorem fdiv_i {a b} (h : 0 < b) (h' : b < 2 ^ 1000) : I.binT .fdiv (.int a) (.int b) = some (.int (a / b)) := by show (if 0 < b ∧ b < 2 ^ 1000 then some _ else none) = _; rw [if_pos ⟨h, h'⟩]
theorem mod_i {a b} (h : 0 < b) : I.binT .mod (.int a) (.int b) = some (.int (a % b)) := by show (if 0 < b then some _ else none) = _; rw [if_pos h]
theorem add_st (h : a.length + b.length ≤ LIM) : I.binT .add (.str a) (.str b) = some (.str (a ++ b)) := by show (if a.length + b.length ≤ LIM then some _ else none) = _; rw [if_pos h]
theorem add_t (h : a.length + b.length ≤ LIM) : I.binT .add (.tup a) (.tup b) = some (.tup (a ++ b)) := by show (if a.length + b.length ≤ LIM then some _ else none) = _; rw [if_pos h]
theorem cmp_w {x y} {a b} {t} (hx : look x st = some a) (hy : look y st = some b) (h : cmpT o a b = some t) : cmpW o x y st = .ok (.d (.bl t)) st := by simp [cmpW, hx, hy, h]
theorem cmp_d (h : cmpT o a b = some t) : cmpW o (.d a) (.d b) st = .ok (.d (.bl t)) st := cmp_w rfl rfl h
theorem lt_i : cmpT .lt (.int a) (.int b) = some (decide (a < b)) := rfl
theorem le_i {a b : Int} : cmpT .le (.int a) (.int b) = some (decide (a ≤ b)) := rfl
theorem gt_i : cmpT .gt (.int a) (.int b) = some (decide (b < a)) := rfl
theorem ge_i {a b : Int} : cmpT .ge (.int a) (.int b) = some (decide (b ≤ a)) := rfl
theorem eq_i : cmpT .eq (.int a) (.int b) = some (decide (a = b)) := rfl
theorem eq_s : cmpT .eq (.str a) (.str b) = some (decide (a = b)) := rfl
theorem ne_i : cmpT .ne (.int a) (.int b) = some !decide (a = b) := rfl
theorem ne_s {a b : Str} : cmpT .ne (.str a) (.str b) = some (!decide (a = b)) := by
 show (if dep (.str a) ≤ 60 ∧ dep (.str b) ≤ 60 then some (!eqT (.str a) (.str b)) else none) = _
 rw [if_pos (by simp only [dep]; omega)]; show some (!(a == b)) = _; rw [Bool.beq_eq_decide_eq]
theorem at_nat {i} {t} (h0 : 0 ≤ i) (h : xs[i.toNat]? = some t) : atI xs i = some t := by
 have hl := (List.getElem?_eq_some_iff.mp h).1
 unfold atI ixN
 grind
theorem tru_bl {b : Bool} : truW (.d (.bl b)) st = some b := rfl
end
section
variable {F : FT} {G : List T} {st : Sto} {ρ : Rho}
def ixR (o : Option T) (st : Sto) : Res W := match o with
 | some t => .ok (.d t) st
 | none => .bad
theorem ixR_some {t : T} : ixR (some t) st = .ok (.d t) st := rfl
theorem w_ixt {xs : List T} {i : Int} : ixW (.d (.tup xs)) (.d (.int i)) st = ixR (atI xs i) st := rfl
theorem w_ixl {xs : List T} {i : Int} : ixW (.d (.lst xs)) (.d (.int i)) st = ixR (atI xs i) st := rfl
theorem w_ixr : ixW (.ref k) (.d (.int i)) st = match st[k]? with | some (some xs) => ixR (atI xs i) st | _ => .bad := by
 cases h : st[k]? with
 | none => simp [ixW, look, h]
 | some o =>
  cases o with
  | none => simp [ixW, look, h]
  | some xs => simp only [ixW, look, h]; rfl
theorem look_r {k : Nat} : look (.ref k) st = (match st[k]? with | some (some xs) => some (.lst xs) | _ => none) := rfl
theorem at_0 : atI (x :: r) 0 = some x := at_nat (by decide) rfl
theorem at_1 : atI (x :: y :: r) 1 = some y := at_nat (by decide) rfl
theorem at_2 {α : Type} {x y z : α} {r : List α} : atI (x :: y :: z :: r) 2 = some z := at_nat (by decide) rfl
theorem at_3 {α : Type} {x y z u : α} {r : List α} : atI (x :: y :: z :: u :: r) 3 = some u := at_nat (by decide) rfl
theorem at_4 {α : Type} {x y z u v : α} {r : List α} : atI (x :: y :: z :: u :: v :: r) 4 = some v := at_nat (by decide) rfl
theorem at_5 {α : Type} {x y z u v w : α} {r : List α} : atI (x :: y :: z :: u :: v :: w :: r) 5 = some w := at_nat (by decide) rfl
theorem n_20 : ixN 2 0 = some 0 := rfl
theorem n_21 : ixN 2 1 = some 1 := rfl
theorem w_add {a b : Int} : binW .add (.d (.int a)) (.d (.int b)) st = .ok (.d (.int (a + b))) st := rfl
theorem w_sub {a b : Int} : binW .sub (.d (.int a)) (.d (.int b)) st = .ok (.d (.int (a - b))) st := rfl
theorem w_mull (h : small a = true) : binW .mul (.d (.int a)) (.d (.int b)) st = .ok (.d (.int (a * b))) st := bin_d (mul_l h)
theorem w_mulr {a b} (h : small b = true) : binW .mul (.d (.int a)) (.d (.int b)) st = .ok (.d (.int (a * b))) st := bin_d (mul_r h)
theorem w_fdiv {a b} (h : 0 < b) (h' : b < 2 ^ 1000) : binW .fdiv (.d (.int a)) (.d (.int b)) st = .ok (.d (.int (a / b))) st := bin_d (fdiv_i h h')
theorem w_mod {a b} (h : 0 < b) : binW .mod (.d (.int a)) (.d (.int b)) st = .ok (.d (.int (a % b))) st := bin_d (mod_i h)
theorem pow_i {a b} (h : 0 ≤ b ∧ b ≤ 1000000 ∧ a.natAbs < 2 ^ 64) : I.binT .pow (.int a) (.int b) = some (.int (a ^ b.toNat)) := by show (if 0 ≤ b ∧ b ≤ 1000000 ∧ a.natAbs < 2 ^ 64 then some _ else none) = _; rw [if_pos h]
theorem w_pow {a b} (h : 0 ≤ b ∧ b ≤ 1000000 ∧ a.natAbs < 2 ^ 64) : binW .pow (.d (.int a)) (.d (.int b)) st = .ok (.d (.int (a ^ b.toNat))) st := bin_d (pow_i h)
theorem w_p6 : binW .pow (.d (.int 10)) (.d (.int 6)) st = .ok (.d (.int (10 ^ 6))) st := w_pow (by decide)
theorem w_p9 : binW .pow (.d (.int 10)) (.d (.int 9)) st = .ok (.d (.int (10 ^ 9))) st := w_pow (by decide)
theorem w_p10 : binW .pow (.d (.int 10)) (.d (.int 10)) st = .ok (.d (.int (10 ^ 10))) st := w_pow (by decide)
theorem w_p18 : binW .pow (.d (.int 10)) (.d (.int 18)) st = .ok (.d (.int (10 ^ 18))) st := w_pow (by decide)
theorem w_p60 : binW .pow (.d (.int 10)) (.d (.int 60)) st = .ok (.d (.int (10 ^ 60))) st := w_pow (by decide)
theorem w_adds (h : a.length + b.length ≤ LIM) : binW .add (.d (.str a)) (.d (.str b)) st = .ok (.d (.str (a ++ b))) st := bin_d (add_st h)
theorem w_addt (h : a.length + b.length ≤ LIM) : binW .add (.d (.tup a)) (.d (.tup b)) st = .ok (.d (.tup (a ++ b))) st := bin_d (add_t h)
theorem w_lt : cmpW .lt (.d (.int a)) (.d (.int b)) st = .ok (.d (.bl (decide (a < b)))) st := cmp_d lt_i
theorem w_le {a b : Int} : cmpW .le (.d (.int a)) (.d (.int b)) st = .ok (.d (.bl (decide (a ≤ b)))) st := cmp_d le_i
theorem w_gt : cmpW .gt (.d (.int a)) (.d (.int b)) st = .ok (.d (.bl (decide (b < a)))) st := cmp_d gt_i
theorem w_ge {a b : Int} : cmpW .ge (.d (.int a)) (.d (.int b)) st = .ok (.d (.bl (decide (b ≤ a)))) st := cmp_d ge_i
theorem w_eq : cmpW .eq (.d (.int a)) (.d (.int b)) st = .ok (.d (.bl (decide (a = b)))) st := cmp_d eq_i
theorem w_eqs : cmpW .eq (.d (.str a)) (.d (.str b)) st = .ok (.d (.bl (decide (a = b)))) st := cmp_d eq_s
theorem w_ne : cmpW .ne (.d (.int a)) (.d (.int b)) st = .ok (.d (.bl !decide (a = b))) st := cmp_d ne_i
theorem w_nes {a b : Str} : cmpW .ne (.d (.str a)) (.d (.str b)) st = .ok (.d (.bl (!decide (a = b)))) st := cmp_d ne_s
theorem au_add {x y : Int} : augI .add x y = some (x + y) := rfl
theorem au_sub {x y : Int} : augI .sub x y = some (x - y) := rfl
theorem b_int {b : Bool} : bfW .int [.d (.bl b)] st = .ok (.d (.int (if b then 1 else 0))) st := rfl
theorem b_lent {xs : List T} : bfW .len [.d (.tup xs)] st = .ok (.d (.int xs.length)) st := rfl
theorem b_lenl {xs : List T} : bfW .len [.d (.lst xs)] st = .ok (.d (.int xs.length)) st := rfl
theorem b_lenr : bfW .len [.ref k] st = match st[k]? with | some (some xs) => .ok (.d (.int xs.length)) st | _ => .bad := by
 cases h : st[k]? with
 | none => simp [bfW, looks, look, h]
 | some o =>
  cases o with
  | none => simp [bfW, looks, look, h]
  | some xs => simp only [bfW, looks, look, h]; rfl
theorem b_tupt {xs : List T} : bfW .tuple [.d (.tup xs)] st = .ok (.d (.tup xs)) st := rfl
theorem b_tupl {xs : List T} : bfW .tuple [.d (.lst xs)] st = .ok (.d (.tup xs)) st := rfl
theorem b_tupr : bfW .tuple [.ref k] st = match st[k]? with | some (some xs) => .ok (.d (.tup xs)) st | _ => .bad := by
 cases h : st[k]? with
 | none => simp [bfW, looks, look, h]
 | some o =>
  cases o with
  | none => simp [bfW, looks, look, h]
  | some xs => simp only [bfW, looks, look, h]; rfl
theorem b_list {xs : List T} : bfW .list [.d (.tup xs)] st = .ok (.ref st.length) (st ++ [some xs]) := rfl
theorem b_min {a b : Int} : bfW .min2 [.d (.int a), .d (.int b)] st = .ok (.d (.int (if b < a then b else a))) st := rfl
theorem b_max {a b : Int} : bfW .max2 [.d (.int a), .d (.int b)] st = .ok (.d (.int (if b > a then b else a))) st := rfl
theorem lim1 (h : n ≤ 1000) : n ≤ LIM := Nat.le_trans h (by decide)
end
theorem small_of (h0 : -2 ^ 64 < i) (h1 : i < 2 ^ 64) : small i = true := by rw [small_d]; simp_all
theorem stay_nil {st : Sto} : stay [] st = true := rfl
def stepS (F : FT) (G : List T) (t : Tg) (body : List S) : T → Rho → Sto → Res (Fl × Rho) := fun x ρ st => match bindW t (.d x) ρ with
 | some ρ' => evSs F G body ρ' st
 | none => .bad
theorem step_s {t} {body} {x} {ρ ρ'} {st} (h : bindW t (.d x) ρ = some ρ') : stepS F G t body x ρ st = evSs F G body ρ' st := by unfold stepS; rw [h]
theorem step_e {ix} {t} {ifs} {el} {x} {ρ ρ'} {st} (h : bindW t (.d x) (pickW ix ρ) = some ρ') :
 stepE F G ix t ifs el ρ x st = (evIfs F G ifs ρ' st).bind fun b st' => if b then (evE F G el ρ' st').bind fun w st' => (frzTo st.length w st').bind fun t st => .ok (some t) st else .ok none (st'.take st.length) := by
 unfold stepE; rw [h]
section
variable {st : Sto} {k : Nat} {x y : Option (List T)} {l : Sto} {xs : List T}
theorem take_set : (st.set k x).take st.length = st.set k x := take_all (by rw [List.length_set])
theorem take_set_app : (st.set k x ++ l).take st.length = st.set k x := by simp
theorem take_st_app : (st ++ l).take st.length = st := List.take_left
theorem rng_len {lo : Int} {n : Nat} : (rng lo n).length = n := by simp [rng]
theorem it_rng (h0 : 0 ≤ n) (h : n ≤ 1000) : items .rng1 [.d (.int n)] st = some (rng 0 n.toNat, []) := by
 have e : LIM = 1000000 := rfl
 show (if -LIM ≤ n ∧ n ≤ LIM then some _ else none) = _
 rw [if_pos ⟨by omega, by omega⟩]
end
end I
end
section
namespace I
open PySem L2
section
variable {F : FT} {G : List T} {st : Sto} {ρ : Rho}
def kBin2 (o : Bop) (x : W) (y : W) (s : Sto) : Res W := binW o x y s
def kBin1 (F : FT) (G : List T) (o : Bop) (b : E) (ρ : Rho) (x : W) (s : Sto) : Res W := (evE F G b ρ s).bind (kBin2 o x)
theorem X_bin {o : Bop} {a b : E} : evE F G (.bin o a b) ρ st = (evE F G a ρ st).bind (kBin1 F G o b ρ) := rfl
def kCmp2 (o : Cop) (x : W) (y : W) (s : Sto) : Res W := cmpW o x y s
def kCmp1 (F : FT) (G : List T) (o : Cop) (b : E) (ρ : Rho) (x : W) (s : Sto) : Res W := (evE F G b ρ s).bind (kCmp2 o x)
theorem X_cmp {o : Cop} {a b : E} : evE F G (.cmp o a b) ρ st = (evE F G a ρ st).bind (kCmp1 F G o b ρ) := rfl
def kChn4 (p : Cop) (y : W) (u : W) (s : Sto) : Res W := cmpW p y u s
def kChn3 (F : FT) (G : List T) (p : Cop) (c : E) (ρ : Rho) (y : W) : W → Sto → Res W := fun r s => match r with | .d (.bl true) => (evE F G c ρ s).bind (kChn4 p y) | .d (.bl false) => .ok (.d (.bl false)) s | _ => .bad
theorem kChn3_e {F : FT} {G : List T} {p : Cop} {c : E} {ρ : Rho} {y : W} {z : W} {st1 : Sto} : kChn3 F G p c ρ y z st1 = (match z with | .d (.bl true) => (evE F G c ρ st1).bind (kChn4 p y) | .d (.bl false) => .ok (.d (.bl false)) st1 | _ => .bad) := rfl
def kChn2 (F : FT) (G : List T) (o p : Cop) (c : E) (ρ : Rho) (x : W) (y : W) (s : Sto) : Res W := (cmpW o x y s).bind (kChn3 F G p c ρ y)
def kChn1 (F : FT) (G : List T) (o p : Cop) (b c : E) (ρ : Rho) (x : W) (s : Sto) : Res W := (evE F G b ρ s).bind (kChn2 F G o p c ρ x)
def kAnd (F : FT) (G : List T) (b : E) (ρ : Rho) (x : W) (s : Sto) : Res W := match truW x s with | some true => evE F G b ρ s | some false => .ok x s | none => .bad
theorem X_and {a b : E} : evE F G (.and a b) ρ st = (evE F G a ρ st).bind (kAnd F G b ρ) := rfl
def kOr (F : FT) (G : List T) (b : E) (ρ : Rho) (x : W) (s : Sto) : Res W := match truW x s with | some false => evE F G b ρ s | some true => .ok x s | none => .bad
theorem X_or {a b : E} : evE F G (.or a b) ρ st = (evE F G a ρ st).bind (kOr F G b ρ) := rfl
def kNot (x : W) (s : Sto) : Res W := match truW x s with | some b => .ok (.d (.bl (!b))) s | none => .bad
theorem X_not {a : E} : evE F G (.not a) ρ st = (evE F G a ρ st).bind kNot := rfl
def kRv (x : W) (s : Sto) : Res W := match look x s with | some (.tup xs) => .ok (.d (.tup xs.reverse)) s | _ => .bad
def kSst (x : W) (s : Sto) : Res W := ssW x s
theorem X_sst {a : E} : evE F G (.ss a) ρ st = (evE F G a ρ st).bind kSst := rfl
def kSrv (x : W) (s : Sto) : Res W := srvW x s
def kTrg (x : W) (s : Sto) : Res W := trgW x s
theorem X_trg {a : E} : evE F G (.trg a) ρ st = (evE F G a ρ st).bind kTrg := rfl
def kExt2 (x : W) (y : W) (s : Sto) : Res W := extW x y s
def kExt1 (F : FT) (G : List T) (e : E) (ρ : Rho) (x : W) (s : Sto) : Res W := if (look x s).isNone then .bad else (evE F G e ρ s).bind (kExt2 x)
def kIsN (x : W) (s : Sto) : Res W := .ok (.d (.bl (match x with | .d .non => true | _ => false))) s
theorem X_isN {a : E} : evE F G (.isN a) ρ st = (evE F G a ρ st).bind kIsN := rfl
def kNotN (x : W) (s : Sto) : Res W := .ok (.d (.bl (match x with | .d .non => false | _ => true))) s
theorem X_notN {a : E} : evE F G (.notN a) ρ st = (evE F G a ρ st).bind kNotN := rfl
def kIfe (F : FT) (G : List T) (a b : E) (ρ : Rho) (x : W) (s : Sto) : Res W := match truW x s with | some true => evE F G a ρ s | some false => evE F G b ρ s | none => .bad
def kTup (ts : List T) (s : Sto) : Res W := if ts.length ≤ LIM then .ok (.d (.tup ts)) s else .bad
theorem X_tup {es : List E} : evE F G (.tup es) ρ st = (evTs F G es ρ st).bind kTup := rfl
def kLst (ts : List T) (s : Sto) : Res W := if ts.length ≤ LIM then fresh (.lst ts) s else .bad
theorem X_lst {es : List E} : evE F G (.lst es) ρ st = (evTs F G es ρ st).bind kLst := rfl
def kIx2 (x : W) (y : W) (s : Sto) : Res W := ixW x y s
def kIx1 (F : FT) (G : List T) (b : E) (ρ : Rho) (x : W) (s : Sto) : Res W := (evE F G b ρ s).bind (kIx2 x)
theorem X_ix {a b : E} : evE F G (.ix a b) ρ st = (evE F G a ρ st).bind (kIx1 F G b ρ) := rfl
def kSl3 (x : W) (l : Option Int) (h : Option Int) (s : Sto) : Res W := slW x l h s
def kSl2 (F : FT) (G : List T) (hi : Option E) (ρ : Rho) (x : W) (l : Option Int) (s : Sto) : Res W := (evO F G hi ρ s).bind (kSl3 x l)
def kSl1 (F : FT) (G : List T) (lo hi : Option E) (ρ : Rho) (x : W) (s : Sto) : Res W := (evO F G lo ρ s).bind (kSl2 F G hi ρ x)
theorem X_sl {a : E} {lo hi : Option E} : evE F G (.sl a lo hi) ρ st = (evE F G a ρ st).bind (kSl1 F G lo hi ρ) := rfl
def kCall (F : FT) (f : Nat) (ws : List W) (s : Sto) : Res W := F f ws s
theorem X_call {f : Nat} {es : List E} : evE F G (.call f es) ρ st = (evEs F G es ρ st).bind (kCall F f) := rfl
def kBf (f : Bf) (ws : List W) (s : Sto) : Res W := bfW f ws s
theorem X_bf {f : Bf} {es : List E} : evE F G (.bf f es) ρ st = (evEs F G es ρ st).bind (kBf f) := rfl
def mtR (m : Mt) (x : W) (ts : List T) (s : Sto) : Res W := match x with
 | .ref k => match s[k]? with
  | some (some xs) => match mtL m xs ts with
   | some (ys, t) => .ok (.d t) (s.set k (some ys))
   | none => .bad
  | _ => .bad
 | .d t => match mtT m t ts with
  | some u => fresh u s
  | none => .bad
theorem mtR_r {m : Mt} {k : Nat} {ts : List T} {s : Sto} : mtR m (.ref k) ts s = (match s[k]? with
 | some (some xs) => match mtL m xs ts with
  | some (ys, t) => .ok (.d t) (s.set k (some ys))
  | none => .bad
 | _ => .bad) := rfl
theorem mtR_d {m : Mt} {t : T} {ts : List T} {s : Sto} : mtR m (.d t) ts s = (match mtT m t ts with
 | some u => fresh u s
 | none => .bad) := rfl
def kMt2 (m : Mt) (x : W) (ts : List T) (s : Sto) : Res W := mtR m x ts s
def kMt1 (F : FT) (G : List T) (m : Mt) (es : List E) (ρ : Rho) (x : W) (s : Sto) : Res W := if (look x s).isNone then .bad else (evTs F G es ρ s).bind (kMt2 m x)
theorem X_meth {m : Mt} {o : E} {es : List E} : evE F G (.meth m o es) ρ st = (evE F G o ρ st).bind (kMt1 F G m es ρ) := rfl
def kIsi (n : Ty) (x : W) (s : Sto) : Res W := match look x s with | some t => if noIns t then .ok (.d (.bl (isT n t))) s else .bad | none => .bad
theorem X_isi {n : Ty} {a : E} : evE F G (.isi n a) ρ st = (evE F G a ρ st).bind (kIsi n) := rfl
def kRp2 (x : W) (y : W) (s : Sto) : Res W := repW x y s
def kRp1 (F : FT) (G : List T) (b : E) (ρ : Rho) (x : W) (s : Sto) : Res W := (evE F G b ρ s).bind (kRp2 x)
def kNn2 (x : W) (y : W) (s : Sto) : Res W := ninW x y s
def kNn1 (F : FT) (G : List T) (b : E) (ρ : Rho) (x : W) (s : Sto) : Res W := (evE F G b ρ s).bind (kNn2 x)
def kFz2 (t : T) (s : Sto) : Res W := .ok (.d t) s
def kFz1 (n : Nat) (x : W) (s : Sto) : Res W := (frzTo n x s).bind kFz2
theorem X_frz {e : E} : evE F G (.frz e) ρ st = (evE F G e ρ st).bind (kFz1 st.length) := rfl
def kTr (n : Nat) (x : W) (s : Sto) : Res W := trTo n x s
theorem X_tr {e : E} : evE F G (.tr e) ρ st = (evE F G e ρ st).bind (kTr st.length) := rfl
def kEs2 (w : W) (ws : List W) (s : Sto) : Res (List W) := .ok (w :: ws) s
def kEs1 (F : FT) (G : List T) (es : List E) (ρ : Rho) (w : W) (s : Sto) : Res (List W) := (evEs F G es ρ s).bind (kEs2 w)
theorem X_es {e : E} {es : List E} : evEs F G (e :: es) ρ st = (evE F G e ρ st).bind (kEs1 F G es ρ) := rfl
theorem X_es0  : evEs F G [] ρ st = .ok [] st := rfl
def kTs3 (t : T) (ts : List T) (s : Sto) : Res (List T) := .ok (t :: ts) s
def kTs2 (F : FT) (G : List T) (es : List E) (ρ : Rho) (t : T) (s : Sto) : Res (List T) := (evTs F G es ρ s).bind (kTs3 t)
def kTs1 (F : FT) (G : List T) (es : List E) (ρ : Rho) (n : Nat) (w : W) (s : Sto) : Res (List T) := (frzTo n w s).bind (kTs2 F G es ρ)
theorem X_ts {e : E} {es : List E} : evTs F G (e :: es) ρ st = (evE F G e ρ st).bind (kTs1 F G es ρ st.length) := rfl
theorem X_ts0  : evTs F G [] ρ st = .ok [] st := rfl
def kIf (F : FT) (G : List T) (es : List E) (ρ : Rho) (w : W) (s : Sto) : Res Bool := match truW w s with | some true => evIfs F G es ρ s | some false => .ok false s | none => .bad
theorem X_if {e : E} {es : List E} : evIfs F G (e :: es) ρ st = (evE F G e ρ st).bind (kIf F G es ρ) := rfl
theorem X_if0  : evIfs F G [] ρ st = .ok true st := rfl
def kO (w : W) (s : Sto) : Res (Option Int) := match look w s with | some (.int i) => .ok (some i) s | _ => .bad
theorem X_o {e : E} : evO F G (some e) ρ st = (evE F G e ρ st).bind kO := rfl
theorem X_o0  : evO F G none ρ st = .ok none st := rfl
def kAsg (t : Tg) (ρ : Rho) (w : W) (s : Sto) : Res (Fl × Rho) := match bindW t w ρ with | some ρ1 => .ok (.nx, ρ1) s | none => .bad
theorem X_asg {t : Tg} {e : E} : evS F G (.asg t e) ρ st = (evE F G e ρ st).bind (kAsg t ρ) := rfl
def kSx4 (ρ : Rho) (t : T) (x : W) (y : W) (s : Sto) : Res (Fl × Rho) := match x, look y s with | .ref k, some (.int n) => (match s[k]? with | some (some xs) => (match ixN xs.length n with | some j => .ok (.nx, ρ) (s.set k (some (xs.set j t))) | none => .bad) | _ => .bad) | _, _ => .bad
def kSx3 (F : FT) (G : List T) (i : E) (ρ : Rho) (t : T) (x : W) (s : Sto) : Res (Fl × Rho) := (evE F G i ρ s).bind (kSx4 ρ t x)
def kSx2 (F : FT) (G : List T) (o i : E) (ρ : Rho) (t : T) (s : Sto) : Res (Fl × Rho) := (evE F G o ρ s).bind (kSx3 F G i ρ t)
def kSx1 (F : FT) (G : List T) (o i : E) (ρ : Rho) (n : Nat) (w : W) (s : Sto) : Res (Fl × Rho) := (frzTo n w s).bind (kSx2 F G o i ρ)
theorem X_setx {o i e : E} : evS F G (.setx o i e) ρ st = (evE F G e ρ st).bind (kSx1 F G o i ρ st.length) := rfl
def kAug (i : Nat) (o : Bop) (ρ : Rho) (a : T) (w : W) (s : Sto) : Res (Fl × Rho) := match a, look w s with | .int x, some (.int y) => (match augI o x y with | some z => .ok (.nx, ρ.set i (some (.d (.int z)))) s | none => .bad) | _, _ => .bad
theorem X_aug {i : Nat} {o : Bop} {e : E} : evS F G (.aug i o e) ρ st = (match ρ[i]? with | some (some (.d a)) => (evE F G e ρ st).bind (kAug i o ρ a) | _ => .bad) := rfl
def kEx (ρ : Rho) (n : Nat) (_w : W) (s : Sto) : Res (Fl × Rho) := .ok (.nx, ρ) (s.take n)
theorem X_ex {e : E} : evS F G (.ex e) ρ st = (evE F G e ρ st).bind (kEx ρ st.length) := rfl
def kRet (ρ : Rho) (w : W) (s : Sto) : Res (Fl × Rho) := .ok (.rt w, ρ) s
theorem X_ret {e : E} : evS F G (.ret e) ρ st = (evE F G e ρ st).bind (kRet ρ) := rfl
def kIfs (F : FT) (G : List T) (a b : List S) (ρ : Rho) (n : Nat) (w : W) (s : Sto) : Res (Fl × Rho) := match truW w s with | some true => evSs F G a ρ (s.take n) | some false => evSs F G b ρ (s.take n) | none => .bad
theorem X_ifs {c : E} {a b : List S} : evS F G (.ifs c a b) ρ st = (evE F G c ρ st).bind (kIfs F G a b ρ st.length) := rfl
def kSs (F : FT) (G : List T) (ss : List S) (p : Fl × Rho) (s : Sto) : Res (Fl × Rho) := match p.1 with | .nx => evSs F G ss p.2 s | f => .ok (f, p.2) s
theorem kSs_nx {F : FT} {G : List T} {ss : List S} {ρ : Rho} {s : Sto} : kSs F G ss (.nx, ρ) s = evSs F G ss ρ s := rfl
theorem kSs_rt {F : FT} {G : List T} {ss : List S} {ρ : Rho} {s : Sto} {w : W} : kSs F G ss (.rt w, ρ) s = .ok (.rt w, ρ) s := rfl
theorem kSs_bk {F : FT} {G : List T} {ss : List S} {ρ : Rho} {s : Sto} : kSs F G ss (.bk, ρ) s = .ok (.bk, ρ) s := rfl
theorem kSs_ct {F : FT} {G : List T} {ss : List S} {ρ : Rho} {s : Sto} : kSs F G ss (.ct, ρ) s = .ok (.ct, ρ) s := rfl
def kFin (n : Nat) : (Fl × Rho) → Sto → Res W := fun p st => match p.1 with
 | .rt w => trTo n w st
 | .nx => .ok (.d .non) (st.take n)
 | _ => .bad
theorem kFin_rt {n : Nat} {w : W} {ρ : Rho} {st : Sto} : kFin n (.rt w, ρ) st = trTo n w st := rfl
theorem kFin_nx {n : Nat} {ρ : Rho} {st : Sto} : kFin n (.nx, ρ) st = .ok (.d .non) (st.take n) := rfl
theorem X_run {ws} {st} (h : ws.length = D.ar) : runF F G D ws st = (evSs F G D.body (ws.map some ++ List.replicate (D.sl - D.ar) none) st).bind (kFin st.length) := by
 unfold runF; rw [if_pos h]; rfl
theorem X_ss {s : S} {ss : List S} : evSs F G (s :: ss) ρ st = (evS F G s ρ st).bind (kSs F G ss) := rfl
theorem X_ss0  : evSs F G [] ρ st = .ok (.nx, ρ) st := rfl
def kT3 (t : T) (s : Sto) : Res (Option T) := .ok (some t) s
def kT2 (n : Nat) (w : W) (s : Sto) : Res (Option T) := (frzTo n w s).bind kT3
def kT1 (F : FT) (G : List T) (el : E) (ρ : Rho) (n : Nat) (b : Bool) (s : Sto) : Res (Option T) := if b then (evE F G el ρ s).bind (kT2 n) else .ok none (s.take n)
theorem turn_e {t} {ifs} {el} {x} {ρ ρ'} {st} (h : bindW t (.d x) (pickW ix ρ) = some ρ') :
 stepE F G ix t ifs el ρ x st = (evIfs F G ifs ρ' st).bind (kT1 F G el ρ' st.length) := step_e h
section
variable {st : Sto} {k n : Nat}
theorem fz_r : frzTo n (.ref k) st = (match st[k]? with | some (some xs) => .ok (.lst xs) ((st.set k none).take n) | _ => .bad) := rfl
theorem tr_r : trTo n (.ref k) st = (if k < n then .ok (.ref k) (st.take n) else match st[k]? with | some (some xs) => .ok (.ref (st.take n).length) (st.take n ++ [some xs]) | _ => .bad) := rfl
end
end
end I
end
section
namespace I
open PySem L2
theorem for_inv {step} : ∀ {xs} {ρ} {st} (P : Nat → Rho → Sto → Prop), P 0 ρ st → (∀ i ρ st, i ≤ xs.length → P i ρ st → stay gs st = true) → (∀ (i : Nat) x ρ st, xs[i]? = some x → P i ρ st → ∃ ρ' st', step x ρ st = .ok (.nx, ρ') st' ∧ P (i + 1) ρ' st') →
 ∃ ρ' st', evFor gs step xs ρ st = .ok (.nx, ρ') st' ∧ P xs.length ρ' st'
 | [], ρ, st, P, h0, hs, _ => ⟨ρ, st, by simp only [evFor]; rw [if_pos (hs 0 ρ st (Nat.le_refl _) h0)], h0⟩
 | x :: xs, ρ, st, P, h0, hs, h => by
  obtain ⟨ρ1, st1, e1, p1⟩ := h 0 x ρ st rfl h0
  simp only [evFor]
  rw [if_pos (hs 0 ρ st (Nat.zero_le _) h0), e1]
  exact for_inv (fun i => P (i + 1)) p1 (fun i ρ st hi => hs _ ρ st (by simpa using hi)) fun i y ρ st hy => h _ y ρ st (by simpa using hy)
end I
end
section
namespace Hd
open PySem L2
structure R where
 r : Int
 c : Int
def mix (r c : Int) : Int :=
 let n := (r * 48271 + 7919 * c * c + 11) % 2147483629
 (n * n + 69621 * c + 7) % 2147483587
def take (b : Int) (s : R) : Int × R :=
 if s.r > 10 ^ 18 then ((s.r - 10 ^ 18) % b, ⟨10 ^ 18 + (s.r - 10 ^ 18) / b, s.c + 1⟩) else (mix s.r (s.c + 1) / 5 % b, ⟨s.r, s.c + 1⟩)
def farN : Nat → Int → R → Int × R
 | 0, t, s => (t, s)
 | n + 1, t, s => farN n (t * 10 ^ 9 + (take (10 ^ 9) s).1) (take (10 ^ 9) s).2
def far (m : Int) (s : R) : Int × R := ((farN 7 0 s).1 % m, (farN 7 0 s).2)
def money (s : R) : Int × R :=
 if (take 4 s).1 = 3 then far (10 ^ 60) (take 4 s).2
 else take (if (take 4 s).1 = 0 then 5 else if (take 4 s).1 = 1 then 100 else 1000) (take 4 s).2
def cell (ns : List Int) (k : Nat) : Int := ns.getD k 0
end Hd
end
section
namespace Hd
open PySem L2
def st {α : Type} (f : Nat → R → α × R) (s : R) : Nat → R
 | 0 => s
 | i + 1 => (f i (st f s i)).2
def outs {α : Type} (f : Nat → R → α × R) (s : R) (n : Nat) : List α := (List.range n).map fun i => (f i (st f s i)).1
def kept (f : Nat → R → Bool × R) (s : R) (n : Nat) : List Nat := (List.range n).filter fun i => (f i (st f s i)).1
def letters : Str := "abcdefghijklmnopqrstuvwxyz"
def sign (c : Nat) : Str := ⟨#[c]⟩
def letter (i : Int) : Nat := letters.cps.toList.getD i.toNat 0
def pick4 (i : Int) : Int := if i = 0 then 1 else if i = 1 then 3 else if i = 2 then 5 else 7
def baseOf (n : Nat) (s : R) : Str := Txt.join "" ((outs (fun _ => take 26) s n).map fun i => sign (letter i))
def names (many : Nat) (s : R) : List Str × R :=
 let x1 := take 8 s
 let size := 1 + x1.1
 let base := baseOf size.toNat x1.2
 let s2 := st (fun _ => take 26) x1.2 size.toNat
 let x3 := take 4 s2
 if x3.1 = 0 then ((List.range many).map fun (k : Nat) => Txt.slice (repS base 8) none (some ((k : Int) + 1)), x3.2)
 else
  let x4 := take size x3.2
  let x5 := take 26 x4.2
  let x6 := take 4 x5.2
  ((List.range many).map fun (k : Nat) => Txt.slice base none (some x4.1) ++ sign (letter ((x5.1 + pick4 x6.1 * (k : Int)) % 26)) ++ Txt.slice base (some (x4.1 + 1)) none, x6.2)
set_option genInjectivity false in
structure Place where
 name : Str
 rent : Int
 shut : List Int
set_option genInjectivity false in
structure Player where
 name : Str
 pay : Int
 hold : Int
 run : Int
 away : List Int
set_option genInjectivity false in
structure Scene where
 name : Str
 place : Str
 length : Int
 word : Str
 cast : List Str
set_option genInjectivity false in
structure Book where
 crew : Int
 move : Int
 days : List (Int × Int)
 places : List Place
 players : List Player
 scenes : List Scene
def dayT (d : Int × Int) : T := .tup [.int d.1, .int d.2]
def Place.t (p : Place) : T := .tup [.str p.name, .int p.rent, .tup (p.shut.map T.int)]
def Player.t (p : Player) : T := .tup [.str p.name, .int p.pay, .int p.hold, .int p.run, .tup (p.away.map T.int)]
def Scene.t (p : Scene) : T := .tup [.str p.name, .str p.place, .int p.length, .str p.word, .tup (p.cast.map T.str)]
def Book.t (b : Book) : T := .tup [.int b.crew, .int b.move, .tup (b.days.map dayT), .tup (b.places.map Place.t), .tup (b.players.map Player.t), .tup (b.scenes.map Scene.t)]
def dayOf (unit : Int) (s : R) : (Int × Int) × R :=
 let x1 := take 14 s
 let x2 := take 8 x1.2
 let x3 := take 3 x2.2
 let x4 := take 5 x3.2
 let hours := unit * (if x4.1 / 2 = 0 then 4 + x1.1 else if x4.1 / 2 = 1 then 12 + x2.1 else x3.1)
 let x5 := take 12 x4.2
 let x6 := take (hours + 1) x5.2
 let x7 := take 3 x6.2
 ((hours, if x7.1 = 0 then hours else if x7.1 = 1 then (if unit * x5.1 < hours then unit * x5.1 else hours) else x6.1), x7.2)
def days (many : Nat) (unit : Int) (s : R) : List (Int × Int) × R := (outs (fun _ => dayOf unit) s many, st (fun _ => dayOf unit) s many)
def is0 (b : Int) (s : R) : Bool × R := (decide ((take b s).1 = 0), (take b s).2)
def someDays (many : Nat) (s : R) : List Int × R :=
 let x := take 8 s
 ((kept (fun _ => is0 (3 + x.1)) x.2 many).map fun (i : Nat) => (i : Int), st (fun _ => is0 (3 + x.1)) x.2 many)
def placeOf (many : Nat) (nm : Str) (s : R) : Place × R :=
 let x := money s
 let y := someDays many x.2
 (⟨nm, x.1, y.1⟩, y.2)
def places (many : Nat) (s : R) : List Place × R :=
 let x1 := take 3 s
 let x2 := take 7 x1.2
 let x3 := take 4 x2.2
 let count := if x3.1 = 0 then x2.1 else 1 + x1.1
 let ns := names count.toNat x3.2
 (outs (fun i => placeOf many (ns.1.getD i Str.empty)) ns.2 count.toNat, st (fun i => placeOf many (ns.1.getD i Str.empty)) ns.2 count.toNat)
def playerOf (many : Nat) (nm : Str) (s : R) : Player × R :=
 let x := money s
 let y := far (x.1 + 1) x.2
 let z := take 3 y.2
 let hold := if z.1 = 0 then 0 else if z.1 = 1 then x.1 else y.1
 let u := take 2 z.2
 let v := take (if u.1 = 0 then 2 else 8) u.2
 let d := someDays many v.2
 (⟨nm, x.1, hold, 1 + v.1, d.1⟩, d.2)
def players (many : Nat) (s : R) : List Player × R :=
 let x1 := take 4 s
 let x2 := take 7 x1.2
 let x3 := take 3 x2.2
 let count := if x3.1 = 0 then x2.1 else x1.1
 let ns := names count.toNat x3.2
 (outs (fun i => playerOf many (ns.1.getD i Str.empty)) ns.2 count.toNat, st (fun i => playerOf many (ns.1.getD i Str.empty)) ns.2 count.toNat)
def wordOf (i : Int) : Str := if i = 1 then "sun" else if i = 2 then "moon" else "any"
def sceneOf (nm : Str) (pl : List Place) (qs : List Player) (unit : Int) (s : R) : Scene × R :=
 let x1 := take pl.length s
 let x2 := take 6 x1.2
 let x3 := take 4 x2.2
 let cs := (kept (fun _ => is0 3) x3.2 qs.length).map fun i => (qs.map (·.name)).getD i Str.empty
 let x4 := take 2 (st (fun _ => is0 3) x3.2 qs.length)
 (⟨nm, (pl.map (·.name)).getD x1.1.toNat Str.empty, unit * (1 + x2.1), wordOf x3.1, if x4.1 = 1 then cs.reverse else cs⟩, x4.2)
def book (ns : List Int) (mostDays mostScenes : Int) : Book :=
 let h0 : R := ⟨cell ns 0, 0⟩
 let x1 := take mostDays h0
 let many := (1 + x1.1).toNat
 let x2 := far (10 ^ 10) x1.2
 let x3 := take 4 x2.2
 let unit := if x3.1 = 2 then 10 ^ 6 else if x3.1 = 3 then 1 + x2.1 else 1
 let crew := money x3.2
 let x4 := take 3 crew.2
 let ds := (days many unit ⟨cell ns 1, 1⟩).1
 let ps := (places many ⟨cell ns 2, 2⟩).1
 let qs := (players many ⟨cell ns 3, 3⟩).1
 let x5 := take (mostScenes + 1) x4.2
 let count := if ps.length = 0 then 0 else x5.1.toNat
 let nms := (names count x5.2).1
 ⟨crew.1, unit * x4.1, ds, ps, qs, (List.range count).map fun k => (sceneOf (nms.getD k Str.empty) ps qs unit ⟨cell ns (4 + k), 4 + k⟩).1⟩
end Hd
end
section
namespace Hd
open PySem L2
mutual
def plain : T → Bool
 | .tup xs => plains xs && decide (xs.length ≤ 1000)
 | .lst _ => false
 | .ins _ => false
 | .bl _ => false
 | _ => true
def plains : List T → Bool
 | [] => true
 | x :: xs => plain x && plains xs
end
theorem plains_get : ∀ {xs} {i : Nat} {x}, plains xs = true → xs[i]? = some x → plain x = true
 | [], _, _, _, e => by simp at e
 | t :: ts, 0, x, h, e => by
  simp only [plains] at h
  grind
 | t :: ts, i + 1, x, h, e => by
  simp only [plains, Bool.and_eq_true] at h
  exact plains_get h.2 (by simpa using e)
theorem plains_all : ∀ {xs : List T}, (∀ x ∈ xs, plain x = true) → plains xs = true
 | [], _ => rfl
 | t :: ts, h => by
  simp only [plains, Bool.and_eq_true]
  exact ⟨h t (List.mem_cons_self ..), plains_all fun x hx => h x (List.mem_cons_of_mem _ hx)⟩
theorem deps_get : ∀ {xs} {i : Nat} {x}, xs[i]? = some x → dep x ≤ deps xs
 | [], _, _, e => by simp at e
 | t :: ts, 0, x, e => by
  have e' := by simpa using e
  rw [← e']
  simp only [deps]
  omega
 | t :: ts, i + 1, x, e => by
  have := deps_get (by simpa using e)
  simp only [deps]
  omega
theorem deps_all {n : Nat} : ∀ {xs : List T}, (∀ x ∈ xs, dep x ≤ n) → deps xs ≤ n
 | [], _ => Nat.zero_le _
 | t :: ts, h => by
  simp only [deps]
  have a := h t (List.mem_cons_self ..)
  have b := deps_all (xs := ts) fun x hx => h x (List.mem_cons_of_mem _ hx)
  omega
def optT : Option Int → T
 | none => .non
 | some i => .int i
def caseT (os : List (Option Int)) : T := .tup (os.map optT)
theorem deps_map {α : Type} (f : α → T) (k : Nat) (h : ∀ x, dep (f x) ≤ k) : ∀ xs : List α, deps (xs.map f) ≤ k
 | [] => Nat.zero_le _
 | x :: xs => by
  have a := h x
  have b := deps_map f k h xs
  simp only [List.map_cons, deps]
  omega
end Hd
end
section
namespace Hd
open PySem L2 I
def G0 : List T := [.int 4, .int 0, .int 2, .int 1, .int 12, .int 2, .int 8, .int 8, .int 60, .int 8, .int 5, .int 6, .int 6, .int 8, .int 1, .int 0, .int 1, .int 3, .int 4, .int 1, .int 5, .int 3, .int 1000, .int 3]
def d_l_cell_at : Dfn := ⟨2, 2, [.ifs (.cmp .lt (.v 1) (.bf .len [(.v 0)])) [.ret (.ix (.v 0) (.v 1))] [], .ret (.c (.int 0))]⟩
def d_l_take : Dfn := ⟨2, 4, [.setx (.v 0) (.c (.int 1)) (.bin .add (.ix (.v 0) (.c (.int 1))) (.c (.int 1))), .ifs (.cmp .gt (.ix (.v 0) (.c (.int 0))) (.bin .pow (.c (.int 10)) (.c (.int 18)))) [.asg (.nm 2) (.bin .sub (.ix (.v 0) (.c (.int 0))) (.bin .pow (.c (.int 10)) (.c (.int 18)))), .setx (.v 0) (.c (.int 0)) (.bin .add (.bin .pow (.c (.int 10)) (.c (.int 18))) (.bin .fdiv (.v 2) (.v 1))), .ret (.bin .mod (.v 2) (.v 1))] [], .asg (.nm 3) (.bin .mod (.bin .add (.bin .add (.bin .mul (.ix (.v 0) (.c (.int 0))) (.c (.int 48271))) (.bin .mul (.bin .mul (.c (.int 7919)) (.ix (.v 0) (.c (.int 1)))) (.ix (.v 0) (.c (.int 1))))) (.c (.int 11))) (.c (.int 2147483629))), .asg (.nm 3) (.bin .mod (.bin .add (.bin .add (.bin .mul (.v 3) (.v 3)) (.bin .mul (.c (.int 69621)) (.ix (.v 0) (.c (.int 1))))) (.c (.int 7))) (.c (.int 2147483587))), .ret (.bin .mod (.bin .fdiv (.v 3) (.c (.int 5))) (.v 1))]⟩
def d_l_some_days : Dfn := ⟨2, 3, [.asg (.nm 2) (.bin .add (.c (.int 3)) (.call 1 [(.v 0), (.c (.int 8))])), .ret (.frz (.tr (.bf .tuple [(.comp ["_law_row", "_law_share", "_law_day"] [some 0, some 2, none] (.nm 2) .rng1 [(.v 1)] [(.cmp .eq (.call 1 [(.v 0), (.v 1)]) (.c (.int 0)))] (.v 2))])))]⟩
def d_l_far : Dfn := ⟨2, 4, [.asg (.nm 2) (.c (.int 0)), .for (.nm 3) .rng1 [(.c (.int 7))] [.asg (.nm 2) (.bin .add (.bin .mul (.v 2) (.bin .pow (.c (.int 10)) (.c (.int 9)))) (.call 1 [(.v 0), (.bin .pow (.c (.int 10)) (.c (.int 9)))]))], .ret (.bin .mod (.v 2) (.v 1))]⟩
def d_l_days : Dfn := ⟨3, 7, [.asg (.nm 3) (.lst []), .for (.nm 4) .rng1 [(.v 1)] [.asg (.nm 5) (.frz (.bin .mul (.v 2) (.tr (.ix (.lst [(.bin .add (.c (.int 4)) (.call 1 [(.v 0), (.c (.int 14))])), (.bin .add (.c (.int 12)) (.call 1 [(.v 0), (.c (.int 8))])), (.call 1 [(.v 0), (.c (.int 3))])]) (.bin .fdiv (.call 1 [(.v 0), (.c (.int 5))]) (.c (.int 2))))))), .asg (.nm 6) (.frz (.lst [(.v 5), (.bf .min2 [(.v 5), (.bin .mul (.v 2) (.call 1 [(.v 0), (.c (.int 12))]))]), (.call 1 [(.v 0), (.frz (.bin .add (.v 5) (.c (.int 1))))])])), .ex (.meth .append (.v 3) [(.tup [(.v 5), (.ix (.v 6) (.call 1 [(.v 0), (.c (.int 3))]))])])], .ret (.bf .tuple [(.v 3)])]⟩
def d_l_money : Dfn := ⟨1, 2, [.asg (.nm 1) (.call 1 [(.v 0), (.c (.int 4))]), .ifs (.cmp .eq (.v 1) (.c (.int 3))) [.ret (.call 3 [(.v 0), (.bin .pow (.c (.int 10)) (.c (.int 60)))])] [], .ret (.frz (.call 1 [(.v 0), (.frz (.tr (.ix (.lst [(.c (.int 5)), (.c (.int 100)), (.c (.int 1000))]) (.v 1))))]))]⟩
def d_l_names : Dfn := ⟨2, 8, [.asg (.nm 2) (.c (.str "abcdefghijklmnopqrstuvwxyz")), .asg (.nm 3) (.bin .add (.c (.int 1)) (.call 1 [(.v 0), (.c (.int 8))])), .asg (.nm 4) (.frz (.tr (.meth .join (.c (.str "")) [(.comp ["_law_letters", "_law_row", "_law_k"] [some 2, some 0, none] (.nm 2) .rng1 [(.v 3)] [] (.ix (.v 0) (.call 1 [(.v 1), (.c (.int 26))])))]))), .ifs (.cmp .eq (.call 1 [(.v 0), (.c (.int 4))]) (.c (.int 0))) [.ret (.comp ["_law_base", "_law_k"] [some 4, none] (.nm 1) .rng1 [(.v 1)] [] (.frz (.sl (.bin .mul (.v 0) (.c (.int 8))) none (some (.bin .add (.v 1) (.c (.int 1)))))))] [], .asg (.nm 5) (.call 1 [(.v 0), (.v 3)]), .asg (.nm 6) (.call 1 [(.v 0), (.c (.int 26))]), .asg (.nm 7) (.frz (.tr (.ix (.lst [(.c (.int 1)), (.c (.int 3)), (.c (.int 5)), (.c (.int 7))]) (.call 1 [(.v 0), (.c (.int 4))])))), .ret (.comp ["_law_base", "_law_at", "_law_letters", "_law_first", "_law_step", "_law_k"] [some 4, some 5, some 2, some 6, some 7, none] (.nm 5) .rng1 [(.v 1)] [] (.frz (.bin .add (.bin .add (.sl (.v 0) none (some (.v 1))) (.ix (.v 2) (.bin .mod (.bin .add (.v 3) (.bin .mul (.v 4) (.v 5))) (.c (.int 26))))) (.sl (.v 0) (some (.bin .add (.v 1) (.c (.int 1)))) none))))]⟩
def d_l_places : Dfn := ⟨2, 3, [.asg (.nm 2) (.frz (.tr (.ix (.lst [(.bin .add (.c (.int 1)) (.call 1 [(.v 0), (.c (.int 3))])), (.call 1 [(.v 0), (.c (.int 7))])]) (.bf .int [(.cmp .eq (.call 1 [(.v 0), (.c (.int 4))]) (.c (.int 0)))])))), .ret (.frz (.tr (.bf .tuple [(.comp ["_law_row", "_law_many", "_law_name"] [some 0, some 1, none] (.nm 2) .seq [(.frz (.call 6 [(.v 0), (.v 2)]))] [] (.tup [(.v 2), (.call 5 [(.v 0)]), (.call 2 [(.v 0), (.v 1)])]))])))]⟩
def d_l_players : Dfn := ⟨2, 8, [.asg (.nm 2) (.frz (.tr (.ix (.lst [(.call 1 [(.v 0), (.c (.int 4))]), (.call 1 [(.v 0), (.c (.int 7))])]) (.bf .int [(.cmp .eq (.call 1 [(.v 0), (.c (.int 3))]) (.c (.int 0)))])))), .asg (.nm 3) (.lst []), .for (.nm 4) .seq [(.frz (.call 6 [(.v 0), (.v 2)]))] [.asg (.nm 5) (.call 5 [(.v 0)]), .asg (.nm 6) (.frz (.tr (.ix (.lst [(.c (.int 0)), (.v 5), (.call 3 [(.v 0), (.frz (.bin .add (.v 5) (.c (.int 1))))])]) (.call 1 [(.v 0), (.c (.int 3))])))), .asg (.nm 7) (.frz (.bin .add (.c (.int 1)) (.call 1 [(.v 0), (.frz (.tr (.ix (.lst [(.c (.int 2)), (.c (.int 8))]) (.call 1 [(.v 0), (.c (.int 2))]))))]))), .ex (.meth .append (.v 3) [(.tup [(.v 4), (.v 5), (.v 6), (.v 7), (.call 2 [(.v 0), (.v 1)])])])], .ret (.bf .tuple [(.v 3)])]⟩
def d_l_scene : Dfn := ⟨5, 9, [.asg (.nm 5) (.ix (.ix (.v 2) (.call 1 [(.v 0), (.bf .len [(.v 2)])])) (.c (.int 0))), .asg (.nm 6) (.bin .mul (.v 4) (.bin .add (.c (.int 1)) (.call 1 [(.v 0), (.c (.int 6))]))), .asg (.nm 7) (.frz (.tr (.ix (.lst [(.c (.str "any")), (.c (.str "sun")), (.c (.str "moon")), (.c (.str "any"))]) (.call 1 [(.v 0), (.c (.int 4))])))), .asg (.nm 8) (.comp ["_law_row", "_law_player"] [some 0, none] (.nm 1) .seq [(.v 3)] [(.cmp .eq (.call 1 [(.v 0), (.c (.int 3))]) (.c (.int 0)))] (.ix (.v 1) (.c (.int 0)))), .ifs (.cmp .eq (.call 1 [(.v 0), (.c (.int 2))]) (.c (.int 1))) [.ex (.meth .reverse (.v 8) [])] [], .ret (.tup [(.v 1), (.v 5), (.v 6), (.v 7), (.bf .tuple [(.v 8)])])]⟩
def d_number_at : Dfn := ⟨2, 4, [.for (.tp [2, 3]) .enm [(.v 0)] [.ifs (.cmp .eq (.ix (.v 3) (.c (.int 0))) (.v 1)) [.ret (.v 2)] []], .ret (.c .non)]⟩
def d_l_book : Dfn := ⟨3, 15, [.asg (.nm 3) (.lst [(.call 0 [(.v 0), (.c (.int 0))]), (.c (.int 0))]), .asg (.nm 4) (.bin .add (.c (.int 1)) (.call 1 [(.v 3), (.v 1)])), .asg (.nm 5) (.frz (.tr (.ix (.lst [(.c (.int 1)), (.c (.int 1)), (.bin .pow (.c (.int 10)) (.c (.int 6))), (.bin .add (.c (.int 1)) (.call 3 [(.v 3), (.bin .pow (.c (.int 10)) (.c (.int 10)))]))]) (.call 1 [(.v 3), (.c (.int 4))])))), .asg (.nm 6) (.call 5 [(.v 3)]), .asg (.nm 7) (.bin .mul (.v 5) (.call 1 [(.v 3), (.c (.int 3))])), .asg (.nm 8) (.frz (.call 4 [(.lst [(.call 0 [(.v 0), (.c (.int 1))]), (.c (.int 1))]), (.v 4), (.v 5)])), .asg (.nm 9) (.frz (.call 7 [(.lst [(.call 0 [(.v 0), (.c (.int 2))]), (.c (.int 2))]), (.v 4)])), .asg (.nm 10) (.frz (.call 8 [(.lst [(.call 0 [(.v 0), (.c (.int 3))]), (.c (.int 3))]), (.v 4)])), .asg (.nm 11) (.bin .mul (.call 1 [(.v 3), (.frz (.bin .add (.v 2) (.c (.int 1))))]) (.bf .int [(.cmp .gt (.bf .len [(.v 9)]) (.c (.int 0)))])), .asg (.nm 12) (.lst []), .for (.tp [13, 14]) .enm [(.frz (.call 6 [(.v 3), (.v 11)]))] [.ex (.meth .append (.v 12) [(.call 9 [(.lst [(.call 0 [(.v 0), (.frz (.bin .add (.c (.int 4)) (.v 13)))]), (.bin .add (.c (.int 4)) (.v 13))]), (.v 14), (.v 9), (.v 10), (.v 5)])])], .ret (.tup [(.v 6), (.v 7), (.v 8), (.v 9), (.v 10), (.bf .tuple [(.v 12)])])]⟩
def d_scene_at : Dfn := ⟨2, 2, [.ret (.call 10 [(.ix (.v 0) (.g 20)), (.v 1)])]⟩
def d_start_behind : Dfn := ⟨5, 8, [.asg (.tp [5, 6]) (.ix (.ix (.v 0) (.g 2)) (.v 1)), .asg (.nm 7) (.v 4), .ifs (.and (.notN (.v 3)) (.cmp .ne (.ix (.v 3) (.g 16)) (.ix (.v 2) (.g 16)))) [.aug 7 .add (.ix (.v 0) (.g 14))] [], .ifs (.cmp .eq (.ix (.v 2) (.g 23)) (.c (.str "moon"))) [.asg (.nm 7) (.bf .max2 [(.v 7), (.v 6)])] [], .ret (.v 7)]⟩
def d_scene_named : Dfn := ⟨2, 2, [.ret (.ix (.ix (.v 0) (.g 20)) (.call 12 [(.v 0), (.v 1)]))]⟩
def d_l_case : Dfn := ⟨3, 6, [.asg (.nm 3) (.lst []), .for (.nm 4) .seq [(.ix (.v 1) (.c (.int 5)))] [.asg (.nm 5) (.call 1 [(.v 0), (.bf .len [(.ix (.v 1) (.c (.int 2)))])]), .ifs (.cmp .eq (.call 1 [(.v 0), (.v 2)]) (.c (.int 0))) [.asg (.nm 5) (.c .non)] [], .ex (.meth .append (.v 3) [(.v 5)])], .ret (.bf .tuple [(.v 3)])]⟩
def d_l_whole : Dfn := ⟨1, 1, [.ret (.and (.isi .int (.v 0)) (.not (.isi .bool (.v 0))))]⟩
def d_l_ends : Dfn := ⟨3, 7, [.asg (.nm 3) (.lst []), .asg (.nm 4) (.c (.int 0)), .for (.nm 5) .rng1 [(.bf .len [(.v 2)])] [.asg (.nm 6) (.v 4), .ifs (.and (.cmp .gt (.v 5) (.c (.int 0))) (.cmp .ne (.ix (.ix (.v 2) (.v 5)) (.c (.int 1))) (.ix (.ix (.v 2) (.bin .sub (.v 5) (.c (.int 1)))) (.c (.int 1))))) [.asg (.nm 6) (.frz (.bin .add (.v 6) (.ix (.v 0) (.c (.int 1)))))] [], .ifs (.and (.cmp .eq (.ix (.ix (.v 2) (.v 5)) (.c (.int 3))) (.c (.str "moon"))) (.cmp .lt (.v 6) (.ix (.ix (.ix (.v 0) (.c (.int 2))) (.v 1)) (.c (.int 1))))) [.asg (.nm 6) (.ix (.ix (.ix (.v 0) (.c (.int 2))) (.v 1)) (.c (.int 1)))] [], .asg (.nm 4) (.frz (.bin .add (.v 6) (.ix (.ix (.v 2) (.v 5)) (.c (.int 2))))), .ex (.meth .append (.v 3) [(.tup [(.ix (.ix (.v 2) (.v 5)) (.c (.int 0))), (.v 6), (.v 4)])])], .ret (.v 3)]⟩
def d_l_alike : Dfn := ⟨2, 2, [.ifs (.isi .tuple (.v 1)) [.ifs (.or (.not (.isi .tuple (.v 0))) (.cmp .ne (.bf .len [(.v 0)]) (.bf .len [(.v 1)]))) [.ret (.c (.bl false))] [], .ret (.frz (.tr (.bf .all [(.comp ["_law_found", "_law_due", "_law_k"] [some 0, some 1, none] (.nm 2) .rng1 [(.bf .len [(.v 1)])] [] (.call 57 [(.ix (.v 0) (.v 2)), (.ix (.v 1) (.v 2))]))])))] [], .ifs (.isN (.v 1)) [.ret (.isN (.v 0))] [], .ifs (.isi .str (.v 1)) [.ret (.and (.isi .str (.v 0)) (.cmp .eq (.v 0) (.v 1)))] [], .ret (.and (.call 45 [(.v 0)]) (.cmp .eq (.v 0) (.v 1)))]⟩
def d_l_laying : Dfn := ⟨2, 10, [.asg (.nm 2) (.call 1 [(.v 0), (.c (.int 3))]), .ifs (.cmp .eq (.v 2) (.c (.int 0))) [.ret (.frz (.call 33 [(.v 0), (.v 1), (.frz (.tr (.ix (.lst [(.c (.int 9)), (.c (.int 3)), (.c (.int 99))]) (.call 1 [(.v 0), (.c (.int 3))]))))]))] [], .asg (.nm 3) (.bf .len [(.ix (.v 1) (.c (.int 2)))]), .asg (.nm 4) (.call 1 [(.v 0), (.v 3)]), .asg (.nm 5) (.call 1 [(.v 0), (.v 3)]), .asg (.nm 6) (.frz (.tr (.ix (.lst [(.c (.int 4)), (.c (.int 99))]) (.call 1 [(.v 0), (.c (.int 2))])))), .asg (.nm 7) (.lst []), .for (.nm 8) .rng1 [(.bf .len [(.ix (.v 1) (.c (.int 5)))])] [.asg (.nm 9) (.frz (.tr (.ix (.lst [(.bin .mod (.bin .add (.v 4) (.v 8)) (.v 3)), (.tr (.ix (.lst [(.v 4), (.v 5)]) (.call 1 [(.v 0), (.c (.int 2))])))]) (.bin .sub (.v 2) (.c (.int 1)))))), .ifs (.cmp .eq (.call 1 [(.v 0), (.v 6)]) (.c (.int 0))) [.asg (.nm 9) (.c .non)] [], .ex (.meth .append (.v 7) [(.v 9)])], .ret (.bf .tuple [(.v 7)])]⟩
def d_timed : Dfn := ⟨3, 9, [.asg (.nm 3) (.lst []), .asg (.nm 4) (.c .non), .asg (.nm 5) (.c (.int 0)), .for (.nm 6) .seq [(.v 2)] [.asg (.nm 7) (.call 14 [(.v 0), (.v 6)]), .asg (.nm 8) (.call 13 [(.v 0), (.v 1), (.v 7), (.v 4), (.v 5)]), .asg (.nm 5) (.frz (.bin .add (.v 8) (.ix (.v 7) (.g 5)))), .ex (.meth .append (.v 3) [(.tup [(.v 6), (.v 8), (.v 5)])]), .asg (.nm 4) (.v 7)], .ret (.bf .tuple [(.v 3)])]⟩
def d_all_days : Dfn := ⟨1, 1, [.ret (.trg (.bf .len [(.ix (.v 0) (.g 2))]))]⟩
def d_l_there : Dfn := ⟨3, 3, [.ret (.frz (.comp ["_law_day", "_law_scene_here", "_law_at"] [some 2, none, none] (.tp [1, 2]) .zp [(.ix (.v 0) (.c (.int 5))), (.v 1)] [(.cmp .eq (.v 2) (.v 0))] (.v 1)))]⟩
def d_day_line : Dfn := ⟨2, 4, [.asg (.tp [2, 3]) (.ix (.ix (.v 0) (.g 2)) (.v 1)), .ret (.fst [(.c (.str "day ")), (.v 1), (.c (.str " ")), (.v 2), (.c (.str " ")), (.v 3)])]⟩
def d_scene_lines : Dfn := ⟨3, 8, [.asg (.nm 3) (.lst []), .for (.tp [4, 5, 6]) .seq [(.call 67 [(.v 0), (.v 1), (.v 2)])] [.asg (.nm 7) (.call 14 [(.v 0), (.v 4)]), .ex (.meth .append (.v 3) [(.tr (.meth .join (.c (.str " ")) [(.bin .add (.lst [(.bf .str [(.v 5)]), (.bf .str [(.v 6)]), (.ix (.v 7) (.g 16)), (.v 4)]) (.bf .list [(.ix (.v 7) (.g 0))]))]))])], .ret (.v 3)]⟩
def d_day_sheet : Dfn := ⟨3, 3, [.ret (.frz (.tr (.meth .join (.c (.str "\n")) [(.bin .add (.lst [(.call 106 [(.v 0), (.v 1)])]) (.call 107 [(.v 0), (.v 1), (.v 2)]))])))]⟩
def d_l_line : Dfn := ⟨1, 1, [.ret (.frz (.tr (.meth .join (.c (.str " ")) [(.comp ["_law_word"] [none] (.nm 0) .seq [(.v 0)] [] (.bf .str [(.v 0)]))])))]⟩
def d_l_plan_drawn : Dfn := ⟨3, 7, [.asg (.nm 3) (.lst []), .for (.nm 4) .rng1 [(.bf .len [(.ix (.v 1) (.c (.int 2)))])] [.asg (.nm 5) (.lst []), .for (.nm 6) .seq [(.call 70 [(.v 1), (.v 2), (.v 4)])] [.ex (.meth .insert (.v 5) [(.call 1 [(.v 0), (.bin .add (.bf .len [(.v 5)]) (.c (.int 1)))]), (.ix (.v 6) (.c (.int 0)))])], .ex (.meth .append (.v 3) [(.bf .tuple [(.v 5)])])], .ret (.bf .tuple [(.v 3)])]⟩
def d_sheet : Dfn := ⟨3, 3, [.ret (.call 108 [(.v 0), (.v 2), (.ix (.v 1) (.v 2))])]⟩
def d_l_sheet_rows : Dfn := ⟨3, 9, [.asg (.nm 3) (.frz (.lst [])), .for (.nm 4) .seq [(.ix (.v 1) (.v 2))] [.asg (.nm 3) (.frz (.bin .add (.v 3) (.comp ["_law_name", "_law_scene_here"] [some 4, none] (.nm 1) .seq [(.ix (.v 0) (.c (.int 5)))] [(.cmp .eq (.ix (.v 1) (.c (.int 0))) (.v 0))] (.v 1))))], .asg (.nm 5) (.lst [(.call 132 [(.frz (.lst [(.c (.str "day")), (.v 2), (.ix (.ix (.ix (.v 0) (.c (.int 2))) (.v 2)) (.c (.int 0))), (.ix (.ix (.ix (.v 0) (.c (.int 2))) (.v 2)) (.c (.int 1)))]))])]), .for (.nt 6 [4, 7, 8]) .zp [(.v 3), (.call 56 [(.v 0), (.v 2), (.v 3)])] [.ex (.meth .append (.v 5) [(.call 132 [(.frz (.bin .add (.lst [(.v 7), (.v 8), (.ix (.v 6) (.c (.int 1))), (.v 4)]) (.bf .list [(.ix (.v 6) (.c (.int 4)))])))])])], .ret (.v 5)]⟩
def d_l_any_plan : Dfn := ⟨2, 2, [.ret (.call 151 [(.v 0), (.v 1), (.call 62 [(.v 0), (.v 1)])])]⟩
def d_sheets : Dfn := ⟨2, 2, [.ret (.frz (.tr (.meth .join (.c (.str "\n")) [(.comp ["book", "plan", "day"] [some 0, some 1, none] (.nm 2) .seq [(.call 68 [(.v 0)])] [] (.call 156 [(.v 0), (.v 1), (.v 2)]))])))]⟩
def d_named_in : Dfn := ⟨1, 2, [.asg (.nm 1) (.frz (.meth .split (.v 0) [(.c (.str " "))])), .ifs (.cmp .le (.bf .len [(.v 1)]) (.g 21)) [.ret (.c .non)] [], .ret (.ix (.v 1) (.g 21))]⟩
def d_with_scene_line : Dfn := ⟨3, 5, [.asg (.nm 3) (.call 224 [(.v 2)]), .ifs (.or (.not (.v 1)) (.or (.isN (.call 12 [(.v 0), (.v 3)])) (.gen .any ["name", "shot"] [some 3, none] (.nm 1) .seq [(.v 1)] [] (.cmp .mem (.v 0) (.v 1))))) [.ret (.c .non)] [], .asg (.nm 4) (.bin .add (.ix (.v 1) (.c (.int (-1)))) (.tup [(.v 3)])), .ifs (.cmp .ne (.v 2) (.ix (.call 107 [(.v 0), (.bin .sub (.bf .len [(.v 1)]) (.c (.int 1))), (.v 4)]) (.c (.int (-1))))) [.ret (.c .non)] [], .ret (.frz (.bin .add (.sl (.v 1) none (some (.c (.int (-1))))) (.tup [(.v 4)])))]⟩
def d_with_line : Dfn := ⟨3, 3, [.ifs (.and (.cmp .lt (.bf .len [(.v 1)]) (.bf .len [(.ix (.v 0) (.g 2))])) (.cmp .eq (.v 2) (.call 106 [(.v 0), (.bf .len [(.v 1)])]))) [.ret (.frz (.bin .add (.v 1) (.tup [(.tup [])])))] [], .ret (.call 225 [(.v 0), (.v 1), (.v 2)])]⟩
def d_read_sheets : Dfn := ⟨2, 6, [.ifs (.not (.isi .str (.v 1))) [.bad] [], .asg (.nm 2) (.frz (.meth .split (.v 1) [(.c (.str "\n"))])), .asg (.nm 3) (.tup []), .for (.tp [4, 5]) .enm [(.v 2)] [.asg (.nm 3) (.call 226 [(.v 0), (.v 3), (.v 5)]), .ifs (.isN (.v 3)) [.bad] []], .ifs (.cmp .lt (.bf .len [(.v 3)]) (.bf .len [(.ix (.v 0) (.g 2))])) [.bad] [], .ret (.v 3)]⟩
end Hd
end
section
namespace Hd
open PySem L2 I PySem.Spec PyProof.Rows
def d_law : Dfn := ⟨1, 8, [.asg (.nm 1) (.call 11 [(.v 0), (.c (.int 8)), (.c (.int 8))]), .asg (.nm 2) (.lst [(.call 0 [(.v 0), (.c (.int 12))]), (.c (.int 0))]), .asg (.nm 3) (.frz (.lst [(.call 193 [(.v 2), (.v 1)]), (.call 193 [(.v 2), (.v 1)]), (.call 193 [(.v 2), (.v 1)])])), .for (.nm 4) .seq [(.frz (.bin .add (.v 3) (.sl (.v 3) none (some (.c (.int 1))))))] [.asg (.nm 5) (.frz (.lst [])), .for (.nm 6) .rng1 [(.bf .len [(.v 4)])] [.asg (.nm 5) (.frz (.bin .add (.v 5) (.call 192 [(.v 1), (.v 4), (.v 6)])))], .asg (.nm 7) (.call 194 [(.v 1), (.v 4)]), .ifs (.or (.not (.call 57 [(.v 7), (.meth .join (.c (.str "\n")) [(.v 5)])])) (.not (.call 57 [(.call 227 [(.v 1), (.v 7)]), (.v 4)]))) [.ret (.c (.bl false))] [], .ifs (.cmp .ne (.call 194 [(.v 1), (.call 227 [(.v 1), (.v 7)])]) (.v 7)) [.ret (.c (.bl false))] []], .ret (.c (.bl true))]⟩
def gns : List (Nat × Str × Int) := [(0, "CAST", 4), (2, "DAYS", 2), (5, "LENGTH", 2), (14, "MOVE", 1), (16, "PLACE", 1), (20, "SCENES", 5), (21, "SCENE_WORD", 3), (23, "WORD", 3)]
def tbl : List Rw := [
rw0 10 "number_at" d_number_at (top 11) ["rows", "name", "at", "row"],
rw0 68 "all_days" d_all_days (top 12) ["book"],
rw0 12 "scene_at" d_scene_at (top 13) ["book", "name"],
rw0 14 "scene_named" d_scene_named (top 14) ["book", "name"],
rw0 13 "start_behind" d_start_behind (top 16) ["book", "day", "scene", "ahead", "end", "hours", "light", "start"],
rw0 67 "timed" d_timed (top 17) ["book", "day", "names", "rows", "ahead", "end", "name", "scene", "start"],
rw0 106 "day_line" d_day_line (top 20) ["book", "day", "hours", "light"],
rw0 107 "scene_lines" d_scene_lines (top 21) ["book", "day", "names", "lines", "name", "start", "end", "scene"],
rw0 108 "day_sheet" d_day_sheet (top 22) ["book", "day", "names"],
rw0 156 "sheet" d_sheet (top 23) ["book", "plan", "day"],
rw0 194 "sheets" d_sheets (top 24) ["book", "plan"],
rw0 224 "named_in" d_named_in (top 25) ["row", "words"],
rw0 225 "with_scene_line" d_with_scene_line (top 26) ["book", "plan", "row", "name", "names"] true,
rw0 226 "with_line" d_with_line (top 27) ["book", "plan", "row"],
rw0 227 "read_sheets" d_read_sheets (top 28) ["book", "text", "rows", "plan", "at", "row"],
rw0 0 "_law_cell_at" d_l_cell_at (top 30) ["_law_script", "_law_k"],
rw0 1 "_law_take" d_l_take (top 31) ["_law_row", "_law_base", "_law_rest", "_law_number"],
rw0 3 "_law_far" d_l_far (top 32) ["_law_row", "_law_most", "_law_total", "_law_k"],
rw0 5 "_law_money" d_l_money (top 33) ["_law_row", "_law_way"],
rw0 6 "_law_names" d_l_names (top 34) ["_law_row", "_law_many", "_law_letters", "_law_size", "_law_base", "_law_at", "_law_first", "_law_step"],
rw0 4 "_law_days" d_l_days (top 35) ["_law_row", "_law_many", "_law_unit", "_law_found", "_law_k", "_law_hours", "_law_lights"],
rw0 2 "_law_some_days" d_l_some_days (top 36) ["_law_row", "_law_many", "_law_share"],
rw0 7 "_law_places" d_l_places (top 37) ["_law_row", "_law_many", "_law_count"],
rw0 8 "_law_players" d_l_players (top 38) ["_law_row", "_law_many", "_law_count", "_law_found", "_law_name", "_law_pay", "_law_hold", "_law_run"],
rw0 9 "_law_scene" d_l_scene (top 39) ["_law_row", "_law_name", "_law_places_here", "_law_players_here", "_law_unit", "_law_place", "_law_length", "_law_word", "_law_cast"],
rw0 11 "_law_book" d_l_book (top 40) ["_law_script", "_law_most_days", "_law_most_scenes", "_law_head", "_law_many", "_law_unit", "_law_crew", "_law_move", "_law_days_here", "_law_places_here", "_law_players_here", "_law_count", "_law_scenes", "_law_k", "_law_name"],
rw0 33 "_law_case" d_l_case (top 41) ["_law_row", "_law_book_here", "_law_share", "_law_found", "_law_scene_here", "_law_day"],
rw0 56 "_law_ends" d_l_ends (top 42) ["_law_book_here", "_law_day", "_law_scenes", "_law_found", "_law_end", "_law_k", "_law_start"],
rw0 70 "_law_there" d_l_there (top 43) ["_law_book_here", "_law_case_here", "_law_day"],
rw0 45 "_law_whole" d_l_whole (top 44) ["_law_found"],
rw0 57 "_law_alike" d_l_alike (top 45) ["_law_found", "_law_due"],
rw0 62 "_law_laying" d_l_laying (top 46) ["_law_row", "_law_book_here", "_law_way", "_law_many", "_law_first", "_law_other", "_law_share", "_law_found", "_law_k", "_law_day"],
rw0 151 "_law_plan_drawn" d_l_plan_drawn (top 47) ["_law_row", "_law_book_here", "_law_case_here", "_law_found", "_law_day", "_law_names_here", "_law_scene_here"],
rw0 132 "_law_line" d_l_line (top 48) ["_law_words"],
rw0 192 "_law_sheet_rows" d_l_sheet_rows (top 49) ["_law_book_here", "_law_plan", "_law_day", "_law_row", "_law_name", "_law_found", "_law_scene_here", "_law_start", "_law_end"],
rw0 193 "_law_any_plan" d_l_any_plan (top 50) ["_law_row", "_law_book_here"]]
def ccs : List Str := []
def cnw : List Str := []
def csb : List (Str × Str × Bool) := []
def sg : Sg := sgOf (gnOf gns) tbl cnw csb
def Ds : Nat → Option Dfn := dsOf tbl
def rlaw : Rw := ⟨0, "law", ["_law_script"], d_law, top 51, ["_law_script", "_law_book_here", "_law_row", "_law_some", "_law_plan", "_law_due", "_law_day", "_law_found"], false, none⟩
theorem checks : tbl.all (chk sg) = true := by decide +kernel
theorem check_law : chk sg rlaw = true := by decide +kernel
theorem check_cls : clsOk tbl ccs cnw csb = true := by decide +kernel
end Hd
end
section
namespace I
open PySem L2
def Wl {α : Type} (r : Res α) (Q : α → Sto → Prop) : Prop := ∃ v st, r = .ok v st ∧ Q v st
def kFor (F : FT) (G : List T) (t : Tg) (k : Ik) (body : List S) (ρ : Rho) (ws : List W) (st : Sto) : Res (Fl × Rho) := match items k ws st with
 | some (xs, gs) => evFor gs (stepS F G t body) xs ρ st
 | none => .bad
def kCo2 (ys : List T) (st : Sto) : Res W := fresh (.lst ys) st
def kCo (F : FT) (G : List T) (ix : List (Option Nat)) (t : Tg) (k : Ik) (ifs : List E) (el : E) (ρ : Rho) (ws : List W) (st : Sto) : Res W := match items k ws st with
 | some (xs, gs) => if xs.length ≤ LIM then (evComp gs (stepE F G ix t ifs el ρ) xs [] st).bind kCo2 else .bad
 | none => .bad
section
variable {F : FT} {G : List T} {st : Sto} {ρ : Rho} {t : Tg} {k : Ik} {src ifs : List E} {body : List S} {gs : List (Nat × List T)} {xs acc : List T}
theorem X_for : evS F G (.for t k src body) ρ st = (evEs F G src ρ st).bind (kFor F G t k body ρ) := rfl
theorem X_co : evE F G (.comp N ix t k src ifs el) ρ st = (evEs F G src ρ st).bind (kCo F G ix t k ifs el ρ) := rfl
theorem lim_if {α : Type} {a b : α} (h : xs.length ≤ 1000) : (if xs.length ≤ LIM then a else b) = a := if_pos (lim1 h)
theorem it_r (h0 : 0 ≤ n) (h : n ≤ 1000) : items .rng1 [.d (.int n)] st = some (rng 0 n.toNat, []) := it_rng h0 h
theorem mt_a : mtL .append xs [x] = if xs.length < LIM then some (xs ++ [x], .non) else none := rfl
theorem mt_r : mtL .reverse xs [] = some (xs.reverse, .non) := rfl
theorem mt_i : mtL .insert xs [.int i, x] = if 0 ≤ i ∧ i ≤ xs.length ∧ xs.length < LIM then some (xs.take i.toNat ++ x :: xs.drop i.toNat, .non) else none := rfl
theorem bw_n : bindW (.nm i) w ρ = if i < ρ.length then some (ρ.set i (some w)) else none := rfl
theorem bw_t : bindW (.tp is) (.d (.tup xs)) ρ = if is.length = xs.length ∧ is.all (· < ρ.length) then some ((is.zip xs).foldl (fun ρ p => ρ.set p.1 (some (.d p.2))) ρ) else none := rfl
theorem it_l : items .seq [.d (.lst xs)] st = some (xs, []) := rfl
theorem it_t : items .seq [.d (.tup xs)] st = some (xs, []) := rfl
theorem it_e : items .enm [.d (.lst xs)] st = some (xs.zipIdx.map fun q => .tup [.int q.2, q.1], []) := rfl
theorem pw_0 : pickW [] ρ = [] := rfl
theorem pw_n : pickW (none :: ix) ρ = none :: pickW ix ρ := rfl
theorem pw_s {j} : pickW (some j :: ix) ρ = ρ[j]?.getD none :: pickW ix ρ := rfl
theorem for_ok {step} {X} (h : evFor [] step xs ρ st = X) (P : Nat → Rho → Sto → Prop) (h0 : P 0 ρ st) (hp : ∀ i x ρ σ, xs[i]? = some x → P i ρ σ → Wl (step x ρ σ) fun o σ' => o.1 = .nx ∧ P (i + 1) o.2 σ') :
 ∃ ρ' σ', P xs.length ρ' σ' ∧ X = .ok (.nx, ρ') σ' := by
 obtain ⟨ρ', σ', e, p⟩ := for_inv (gs := []) P h0 (fun _ _ _ _ _ => rfl) fun i x ρ σ hx p => by
  obtain ⟨⟨f, ρ'⟩, σ', e, h1, h2⟩ := hp i x ρ σ hx p
  cases h1
  exact ⟨ρ', σ', e, h2⟩
 exact ⟨ρ', σ', p, h.symm.trans e⟩
theorem comp_ok {step} : ∀ {xs acc} {st} {X}, evComp [] step xs acc st = X → ∀ P : Nat → List T → Sto → Prop, P 0 acc st → (∀ i x a σ, xs[i]? = some x → P i a σ → Wl (step x σ) fun o σ' => P (i + 1) (a ++ o.toList) σ') →
 ∃ ys σ', P xs.length ys σ' ∧ X = .ok ys σ'
 | [], acc, st, _, h, P, h0, _ => ⟨acc, st, h0, h.symm⟩
 | x :: xs, acc, st, _, h, P, h0, hp => by
  obtain ⟨o, σ, e, h1⟩ := hp 0 x _ st rfl h0
  simp only [evComp] at h
  rw [e] at h
  refine comp_ok h (fun i => P (i + 1)) ?_ fun i y a σ hy => hp _ y a σ (by simpa using hy)
  cases o with
  | none => simpa using h1
  | some t => exact h1
theorem step_ok (hb : bindW t (.d x) ρ = some ρ') (h : Wl (evSs F G body ρ' st) Q) : Wl (stepS F G t body x ρ st) Q := by rw [step_s hb]; exact h
theorem turn_ok' {x} {ρ'} {Q} (hb : bindW t (.d x) (pickW ix ρ) = some ρ') (h : Wl ((evIfs F G ifs ρ' st).bind (kT1 F G el ρ' st.length)) Q) : Wl (stepE F G ix t ifs el ρ x st) Q := by rw [turn_e hb]; exact h
theorem run_ok {ws} {Q} (hw : ws.length = D.ar) (h : Wl ((evSs F G D.body (ws.map some ++ List.replicate (D.sl - D.ar) none) st).bind (kFin st.length)) Q) : Wl (runF F G D ws st) Q := by rw [X_run hw]; exact h
end
theorem ni_0 : noIns .non = true := rfl
theorem ni_1 : noIns (.bl b) = true := rfl
theorem ni_2 : noIns (.int i) = true := rfl
theorem ni_3 : noIns (.str z) = true := rfl
theorem ni_4 : noIns (.tup xs) = true := rfl
theorem ni_5 : noIns (.lst xs) = true := rfl
abbrev FW : Type := List W → Sto → Res W
theorem up {D} {P : FW → Prop} (h : Ds f = some D) (hp : P (runF (run G Ds n) G D)) : P (run G Ds (n + 1) f) := by
 have e : run G Ds (n + 1) f = runF (run G Ds n) G D := by
  funext ws st
  show (match Ds f with | some D => runF _ G D ws st | none => .bad) = _
  rw [h]
 rw [e]
 exact hp
end I
end
section
namespace Hd
open PySem L2 I
theorem s_48271 : small 48271 = true := small_of (by decide) (by decide)
theorem s_7919 : small 7919 = true := small_of (by decide) (by decide)
theorem s_69621 : small 69621 = true := small_of (by decide) (by decide)
theorem s_e9 : small (10 ^ 9) = true := small_of (by decide) (by decide)
theorem lt1000_2 : (2 : Int) < 2 ^ 1000 := by decide +kernel
theorem lt1000_5 : (5 : Int) < 2 ^ 1000 := by decide +kernel
theorem lt1000 {b : Int} (h : b ≤ 10 ^ 60) : b < 2 ^ 1000 := Int.lt_of_le_of_lt h (by decide +kernel)
section
variable {α : Type} {a b c d : Int} {i : Int} {x y z : Option (List T)} {st l : Sto} {k n : Nat}
theorem p2i (h0 : 0 ≤ i) (h : i < 2) : atI [T.int a, .int b] i = some (.int (if i = 0 then a else b)) := by
 have : i = 0 ∨ i = 1 := by omega
 rcases this with e | e <;> subst e <;> rfl
theorem p3i (h0 : 0 ≤ i) (h : i < 3) : atI [T.int a, .int b, .int c] i = some (.int (if i = 0 then a else if i = 1 then b else c)) := by
 have : i = 0 ∨ i = 1 ∨ i = 2 := by omega
 rcases this with e | e | e <;> subst e <;> rfl
theorem p4i (h0 : 0 ≤ i) (h : i < 4) : atI [T.int a, .int b, .int c, .int d] i = some (.int (if i = 0 then a else if i = 1 then b else if i = 2 then c else d)) := by
 have : i = 0 ∨ i = 1 ∨ i = 2 ∨ i = 3 := by omega
 rcases this with e | e | e | e <;> subst e <;> rfl
theorem p4s {a b c d} (h0 : 0 ≤ i) (h : i < 4) : atI [T.str a, .str b, .str c, .str d] i = some (.str (if i = 0 then a else if i = 1 then b else if i = 2 then c else d)) := by
 have : i = 0 ∨ i = 1 ∨ i = 2 ∨ i = 3 := by omega
 rcases this with e | e | e | e <;> subst e <;> rfl
theorem le3 : 3 ≤ LIM := by decide
theorem le0 : 0 ≤ LIM := by decide
theorem le1 : 1 ≤ LIM := by decide
theorem le2 : 2 ≤ LIM := by decide
theorem le4 : 4 ≤ LIM := by decide
theorem le5 : 5 ≤ LIM := by decide
theorem le6 : 6 ≤ LIM := by decide
theorem sa_get : (st ++ x :: l)[st.length]? = some x := by simp
theorem sa_set : (st ++ x :: l).set st.length y = st ++ y :: l := by simp
theorem sa_getN : (st ++ l)[st.length + n]? = l[n]? := by grind
theorem sa_setN : (st ++ l).set (st.length + n) y = st ++ l.set n y := by simp
theorem sa_takeN : (st ++ l).take (st.length + n) = st ++ l.take n := by
 rw [List.take_append, List.take_of_length_le (by omega)]; congr 2; omega
theorem ss_get : (st.set k y ++ x :: l)[st.length]? = some x := by simp
theorem ss_set : (st.set k y ++ x :: l).set st.length z = st.set k y ++ z :: l := by simp
theorem ss_getN : (st.set k y ++ l)[st.length + n]? = l[n]? := by
 have := sa_getN (st := st.set k y) (l := l) (n := n); simp_all
theorem ss_setN : (st.set k y ++ l).set (st.length + n) z = st.set k y ++ l.set n z := by simp
theorem ss_takeN : (st.set k y ++ l).take (st.length + n) = st.set k y ++ l.take n := by
 have := sa_takeN (st := st.set k y) (l := l) (n := n); simp_all
theorem ext_set (h : st[k]? = some y) : st.set k y = st := by
 refine List.ext_getElem? fun i => ?_
 by_cases hi : k = i
 · subst hi; rw [List.getElem?_set_self (List.getElem?_eq_some_iff.mp h).1, h]
 simp_all
theorem lt_of (h : st[k]? = some y) : k < st.length := (List.getElem?_eq_some_iff.mp h).1
theorem lt_sa {n m : Nat} : (n + m < n) = False := by simp
theorem sb_get (hk : k < st.length) : (st.set k y ++ l)[k]? = some y := by rw [List.getElem?_append_left (by simp_all)]; simp_all
theorem sb_set (hk : k < st.length) : (st.set k y ++ l).set k z = st.set k z ++ l := by simp_all
end
def rowS (s : R) : Option (List T) := some [.int s.r, .int s.c]
def RowX (f : FW) (args : List W) (s : R) (Q : T → R → Prop) : Prop := ∀ (k : Nat) (st : Sto), st[k]? = some (rowS s) → Wl (f (.ref k :: args) st) fun w σ => ∃ v s', w = .d v ∧ σ = st.set k (rowS s') ∧ Q v s'
section
variable {f : FW} {args : List W} {s : R} {Q : T → R → Prop}
theorem RowX.b (h : RowX f args s Q) {k} {st : Sto} (hk : k < st.length) (l : Sto) : ∃ v s', Q v s' ∧ f (.ref k :: args) (st.set k (rowS s) ++ l) = .ok (.d v) (st.set k (rowS s') ++ l) := by
 obtain ⟨_, _, e, v, s', rfl, rfl, q⟩ := h k _ (sb_get hk)
 rw [sb_set hk] at e
 exact ⟨v, s', q, e⟩
theorem RowX.a (h : RowX f args s Q) {k} {st : Sto} (hk : k < st.length) : ∃ v s', Q v s' ∧ f (.ref k :: args) (st.set k (rowS s)) = .ok (.d v) (st.set k (rowS s')) := by simpa using h.b hk []
theorem RowX.c (h : RowX f args s Q) (st l : Sto) : ∃ v s', Q v s' ∧ f (.ref st.length :: args) (st ++ rowS s :: l) = .ok (.d v) (st ++ rowS s' :: l) := by
 obtain ⟨_, _, e, v, s', rfl, rfl, q⟩ := h _ _ sa_get
 rw [sa_set] at e
 exact ⟨v, s', q, e⟩
theorem RowX.d (h : RowX f args s Q) (st : Sto) (x : Option _) : ∃ v s', Q v s' ∧ f (.ref (st.length + 1) :: args) (st ++ [x, rowS s]) = .ok (.d v) (st ++ [x, rowS s']) := by
 simpa using h.c (st ++ [x]) []
theorem RowX.e (h : RowX f args s Q) (st : Sto) (x y : Option _) : ∃ v s', Q v s' ∧ f (.ref (st.length + 1 + 1) :: args) (st ++ [x, y, rowS s]) = .ok (.d v) (st ++ [x, y, rowS s']) := by
 simpa using h.c (st ++ [x, y]) []
end
def Fu (n : Nat) (s : R) : Prop := 0 ≤ s.c ∧ s.c + n ≤ 10 ^ 6
theorem Fu.le {s} (h : Fu n s) (hm : m ≤ n) : Fu m s := ⟨h.1, by have := h.2; omega⟩
theorem Fu.it (h : Fu (k * (N - i) + m) s) (hi : i < N) : Fu (k * (N - (i + 1)) + m + k) s := by
 rw [show N - i = N - (i + 1) + 1 by omega, Nat.mul_succ] at h
 exact h.le (by omega)
theorem Fu.nd (h : Fu (k * (N - N) + m) s) : Fu m s := h.le (by omega)
def TakeP (f : FW) : Prop := ∀ (s : R) (b : Int) (n : Nat), Fu (n + 1) s → 0 < b → b ≤ 10 ^ 60 → ∃ v s', 0 ≤ v ∧ v < b ∧ Fu n s' ∧ ∀ k st, st[k]? = some (rowS s) → f [.ref k, .d (.int b)] st = .ok (.d (.int v)) (st.set k (rowS s'))
section
variable {f : FW} (hT : TakeP f) (s : R) (m : Int)
include hT
theorem TakeP.b {k : Nat} {st : Sto} (hk : k < st.length) {n : Nat} (hn : Fu (n + 1) s) (h0 : 0 < m := by first | decide | omega) (h1 : m ≤ 10 ^ 60 := by first | decide | omega) :
 ∃ v s', 0 ≤ v ∧ v < m ∧ Fu n s' ∧ (∀ l, f [.ref k, .d (.int m)] (st.set k (rowS s) ++ l) = .ok (.d (.int v)) (st.set k (rowS s') ++ l)) ∧ f [.ref k, .d (.int m)] (st.set k (rowS s)) = .ok (.d (.int v)) (st.set k (rowS s')) := by
 obtain ⟨v, s', a1, a2, a3, e⟩ := hT s m n hn h0 h1
 exact ⟨v, s', a1, a2, a3, fun l => by rw [e _ _ (sb_get hk), sb_set hk], by rw [e _ _ (List.getElem?_set_self hk), List.set_set]⟩
theorem TakeP.c (st : Sto) {n : Nat} (hn : Fu (n + 1) s) (h0 : 0 < m := by first | decide | omega) (h1 : m ≤ 10 ^ 60 := by first | decide | omega) :
 ∃ v s', 0 ≤ v ∧ v < m ∧ Fu n s' ∧ ∀ l, f [.ref st.length, .d (.int m)] (st ++ rowS s :: l) = .ok (.d (.int v)) (st ++ rowS s' :: l) := by
 obtain ⟨v, s', a1, a2, a3, e⟩ := hT s m n hn h0 h1
 exact ⟨v, s', a1, a2, a3, fun l => by rw [e _ _ sa_get, sa_set]⟩
end
local macro_rules | `(tactic| walk_at "dq") => `(tactic| first | assumption | omega | (simp only [rng_len, List.length_map, List.length_zipIdx, List.length_set, List.length_append, List.length_cons, List.length_nil]; omega) | exact small_of (by omega) (by omega) | exact lt1000 (by omega))
def wsC : String := "E_v E_c E_g S_retN S_pass S_brk S_cnt bind_ok kBin1 kCmp2 kCmp1 X_cmp kAnd X_and kOr X_or kNot X_not kSrv kIsN X_isN kNotN X_notN kTup X_tup kLst X_lst kIx2 kIx1 X_ix kSl3 kSl2 kSl1 X_sl kCall X_call kBf X_bf mtR_r mtR_d kMt2 kMt1 X_meth kIsi ni_0 ni_1 ni_2 ni_3 ni_4 ni_5 X_isi kRp2 kRp1 kNn2 kNn1 kFz2 kFz1 X_frz kTr X_tr kEs2 kEs1 X_es X_es0 kTs3 kTs2 kTs1 X_ts X_ts0 kIf X_if X_if0 kO X_o X_o0 kAsg X_asg kSx4 kSx3 kSx2 kSx1 X_setx kAug X_aug kEx X_ex kRet X_ret kIfs X_ifs kSs_nx kSs_rt kSs_bk kSs_ct kFin_rt kFin_nx X_ss X_ss0 kT3 kT2 kT1 List.length_cons List.length_nil List.length_append List.map_cons List.map_nil List.getElem?_cons_zero List.getElem?_cons_succ List.cons_append List.nil_append List.append_assoc List.replicate_succ List.replicate_zero List.append_nil List.set_cons_zero List.set_cons_succ List.length_set List.set_set X_for kFor X_co kCo kCo2 lim_if it_r it_l it_t it_e Int.toNat_natCast pw_0 pw_n pw_s Option.getD_some List.zip_cons_cons List.zip_nil_left List.foldl_cons List.foldl_nil take_set take_set_app take_st_app sa_get sa_set sa_getN sa_setN sa_takeN ss_get ss_set ss_getN ss_setN ss_takeN fz_r tr_r lt_sa Nat.lt_irrefl List.take_succ_cons List.take_zero Nat.reduceAdd Nat.reduceSub Nat.reduceLT Nat.zero_add Nat.add_zero if_true if_false ite_true ite_false reduceIte w_ixt w_ixl w_ixr ixR_some at_0 at_1 at_2 at_3 at_4 at_5 p2i p3i p4i p4s n_20 n_21 w_add w_sub w_mull w_mulr w_fdiv w_mod w_p6 w_p9 w_p10 w_p18 w_p60 w_adds w_addt w_lt w_le w_gt w_ge w_eq w_eqs w_ne w_nes au_add au_sub b_int b_lent b_lenl b_lenr b_tupt b_tupl b_tupr b_list b_min b_max I.fresh_int I.fresh_tup I.fresh_lst I.fresh_str I.fresh_bl frz_d tr_d tru_bl look_d look_r Option.isNone_some Option.isNone_none Bool.false_eq_true mt_a mt_r mt_i List.take_length bw_n bw_t decide_true decide_false Bool.not_true Bool.not_false Int.reduceLT Int.reduceLE s_48271 s_7919 s_69621 s_e9 lt1000_2 lt1000_5 le0 le1 le2 le3 le4 le5 le6"
local macro_rules | `(tactic| walk_at "wq") => do { let ls ← ((I.ws (Hd.wsC ++ " kBin2 X_bin")).mapM fun n => `(Lean.Parser.Tactic.simpLemma| $(Lean.mkIdent n):term)); `(tactic| simp (disch := walk_at "dq") only [$[$ls:simpLemma],*, *]) }
theorem take_p : TakeP (runF F G0 d_l_take) := by
 intro s b n ⟨hc0, hc1⟩ hb0 hb1
 have hb2 := lt1000 hb1
 have fu : ∀ x, Fu n ⟨x, _⟩ := fun x => ⟨by show 0 ≤ s.c + 1; omega, by show s.c + 1 + n ≤ _; omega⟩
 by_cases hc : 10 ^ 18 < s.r
 · refine ⟨(s.r - 10 ^ 18) % b, ⟨10 ^ 18 + (s.r - 10 ^ 18) / b, _⟩, Int.emod_nonneg _ (by omega), Int.emod_lt_of_pos _ hb0, fu _, fun k st h => ?_⟩
   have h2 : ∀ x, (st.set k x)[k]? = some x := fun x => List.getElem?_set_self (lt_of h)
   unfold rowS at h ⊢
   rw [X_run rfl]
   unfold d_l_take
   walk_at "wq"
 · refine ⟨_, ⟨s.r, _⟩, Int.emod_nonneg (mix s.r (s.c + 1) / 5) (by omega), Int.emod_lt_of_pos _ hb0, fu _, fun k st h => ?_⟩
   have h2 : ∀ x, (st.set k x)[k]? = some x := fun x => List.getElem?_set_self (lt_of h)
   unfold rowS at h ⊢
   rw [X_run rfl]
   unfold d_l_take
   walk_at "wq"
   rfl
def FarP (f : FW) : Prop := ∀ (s : R) (m : Int) (n : Nat), 0 < m → Fu (n + 7) s → RowX f [.d (.int m)] s fun v s' => ∃ i, v = .int i ∧ 0 ≤ i ∧ i < m ∧ Fu n s'
theorem far_p (hT : TakeP (F 1)) : FarP (runF F G0 d_l_far) := by
 intro s m n hm hf k st h
 have hk := lt_of h
 rw [← ext_set h]
 refine run_ok rfl ?_
 unfold d_l_far
 walk_at "wq"
 generalize hX : evFor _ _ _ _ _ = X
 obtain ⟨_, _, ⟨t, r, x3, rfl, rfl, hr⟩, rfl⟩ := for_ok hX (fun i ρ σ => ∃ t r x3, ρ = [some _, some _, some (.d (.int t)), x3] ∧ σ = st.set k (rowS r) ∧ Fu (1 * (7 - i) + n) r) ⟨0, s, _, rfl, rfl, hf.le (by omega)⟩ (by
  rintro i x ρ σ hx ⟨t, r, x3, rfl, rfl, hr⟩
  have hi := (List.getElem?_eq_some_iff.mp hx).1
  obtain ⟨v, r', _, _, hc, _, e⟩ := hT.b r (10 ^ 9) hk (hr.it hi) (by decide) (by decide)
  refine step_ok rfl ?_
  walk_at "wq"
  exact ⟨_, _, rfl, rfl, _, _, _, rfl, rfl, hc⟩)
 walk_at "wq"
 exact ⟨_, _, rfl, _, r, rfl, rfl, _, rfl, Int.emod_nonneg _ (by omega), Int.emod_lt_of_pos _ hm, hr.nd⟩
def MoneyP (f : FW) : Prop := ∀ (s : R) (n : Nat), Fu (n + 8) s → RowX f [] s fun v s' => ∃ i, v = .int i ∧ 0 ≤ i ∧ i < 10 ^ 60 ∧ Fu n s'
theorem money_p {F : FT} (hT : TakeP (F 1)) (hF : FarP (F 3)) : MoneyP (runF F G0 d_l_money) := by
 intro s n hf k st h
 have hk := lt_of h
 rw [← ext_set h]
 refine run_ok rfl ?_
 unfold d_l_money
 obtain ⟨w, r, w0, w1, wc, e1, e2⟩ := hT.b s 4 hk hf
 by_cases hc : w = 3
 · obtain ⟨_, r', ⟨i, rfl, i0, i1, hr⟩, e3⟩ := (hF r (10 ^ 60) n (by decide) wc).a hk
   walk_at "wq"
   exact ⟨_, _, rfl, _, r', rfl, rfl, i, rfl, i0, i1, hr⟩
 · obtain ⟨b, b0, b1, hb⟩ : ∃ b : Int, 0 < b ∧ b ≤ 1000 ∧ (if w = 0 then 5 else if w = 1 then 100 else 1000) = b := ⟨_, by split <;> (try split) <;> decide, by split <;> (try split) <;> decide, rfl⟩
   obtain ⟨v, r', v0, v1, vc, e3, e4⟩ := hT.b r b hk wc
   walk_at "wq"
   exact ⟨_, _, rfl, _, r', rfl, rfl, v, rfl, v0, by omega, vc.le (by omega)⟩
def CellP (f : FW) : Prop := ∀ (ns : List Int) (i : Int), 0 ≤ i → ∃ c : Int, ∀ st, f [.d (.lst (ns.map T.int)), .d (.int i)] st = .ok (.d (.int c)) st
theorem cell_p : CellP (runF F G0 d_l_cell_at) := by
 intro ns i h0
 have l1 : (ns.map T.int).length = ns.length := List.length_map _
 by_cases hc : i < ns.length
 · have e : atI (ns.map T.int) i = some (.int ns[i.toNat]) := at_nat h0 (by simp)
   exact ⟨ns[i.toNat], fun st => by rw [X_run rfl]; unfold d_l_cell_at; walk_at "wq"⟩
 · exact ⟨0, fun st => by rw [X_run rfl]; unfold d_l_cell_at; walk_at "wq"⟩
theorem rng_i (h : (rng 0 n)[i]? = some x) : i < n ∧ x = .int i := by
 obtain ⟨hi, rfl⟩ := rng_get h
 simp_all
def SomeP (f : FW) : Prop := ∀ (s : R) (many : Nat), many ≤ 100 → ∀ n, Fu (n + 101) s → RowX f [.d (.int many)] s fun v s' => ∃ ds : List Int, v = .tup (ds.map T.int) ∧ ds.length ≤ many ∧ Fu n s'
theorem some_p (hT : TakeP (F 1)) : SomeP (runF F G0 d_l_some_days) := by
 intro s many hm n hf k st h
 have hk := lt_of h
 rw [← ext_set h]
 refine run_ok rfl ?_
 unfold d_l_some_days
 obtain ⟨w, r, w0, w1, wc, e1, e2⟩ := hT.b s 8 hk hf
 walk_at "wq"
 generalize hX : evComp _ _ _ _ _ = X
 obtain ⟨_, _, ⟨ds, r', rfl, rfl, hl, c1⟩, rfl⟩ := comp_ok hX (fun i a σ => ∃ (ds : List _) (r' : R), a = ds.map T.int ∧ σ = st.set k (rowS r') ∧ ds.length ≤ i ∧ Fu (1 * (many - i) + n) r') ⟨[], r, rfl, rfl, Nat.le_refl _, wc.le (by omega)⟩ (by
  rintro i x a σ hx ⟨ds, r', rfl, rfl, hl, c1⟩
  obtain ⟨hi, rfl⟩ := rng_i hx
  obtain ⟨v, q, _, _, hc, _, e⟩ := hT.b r' (3 + w) hk (c1.it hi)
  refine turn_ok' rfl ?_
  by_cases hv : v = 0
  · walk_at "wq"
    exact ⟨_, _, rfl, ds ++ [(i : Int)], q, by simp, rfl, by simp; omega, hc⟩
  · walk_at "wq"
    exact ⟨_, _, rfl, ds, q, by simp, rfl, by omega, hc⟩)
 rw [rng_len] at hl c1
 walk_at "wq"
 exact ⟨_, _, rfl, _, r', rfl, rfl, ds, rfl, hl, c1.nd⟩
def DayOk (d : Int × Int) : Prop := 0 ≤ d.1 ∧ d.1 ≤ 10 ^ 12 ∧ 0 ≤ d.2 ∧ d.2 ≤ d.1
def DaysP (f : FW) : Prop := ∀ (s : R) (many : Nat) (unit : Int), many ≤ 100 → 0 < unit → unit ≤ 10 ^ 10 → Fu (7 * many + 0) s → RowX f [.d (.int many), .d (.int unit)] s fun v s' => ∃ ds : List (Int × Int), v = .tup (ds.map dayT) ∧ ds.length = many ∧ ∀ d ∈ ds, DayOk d
theorem days_p {F : FT} (hT : TakeP (F 1)) : DaysP (runF F G0 d_l_days) := by
 intro s many unit hm hu0 hu1 hf k st h
 have hk := lt_of h
 rw [← ext_set h]
 refine run_ok rfl ?_
 unfold d_l_days
 walk_at "wq"
 generalize hX : evFor _ _ _ _ _ = X
 obtain ⟨_, _, ⟨ds, r, x4, x5, x6, rfl, rfl, hl, hd, hr⟩, rfl⟩ := for_ok hX (fun i ρ σ => ∃ (ds : List _) (r : R) (x4 x5 x6 : Option W), ρ = [some _, some _, some _, some _, x4, x5, x6] ∧ σ = st.set k (rowS r) ++ [some (ds.map dayT)] ∧ ds.length = i ∧ (∀ d ∈ ds, DayOk d) ∧ Fu (7 * (many - i) + 0) r) ⟨[], s, _, _, _, rfl, rfl, rfl, by simp, hf⟩ (by
  rintro i x ρ σ hx ⟨ds, r, x4, x5, x6, rfl, rfl, hl, hd, hr⟩
  obtain ⟨hi, rfl⟩ := rng_i hx
  have hr := hr.it hi
  obtain ⟨a, r1, a0, a1, c1, e1, _⟩ := hT.b r 14 hk hr
  obtain ⟨b, r2, b0, b1, c2, e2, _⟩ := hT.b r1 8 hk c1
  obtain ⟨c, r3, c0, c01, c3, e3, _⟩ := hT.b r2 3 hk c2
  obtain ⟨d, r4, d0, d1, c4, e4, _⟩ := hT.b r3 5 hk c3
  obtain ⟨z, z0, z1, hz⟩ : ∃ z : Int, 0 ≤ z ∧ z < 20 ∧ (if d / 2 = 0 then 4 + a else if d / 2 = 1 then 12 + b else c) = z := ⟨_, by split <;> (try split) <;> omega, by split <;> (try split) <;> omega, rfl⟩
  obtain ⟨w, w0, w1, hw⟩ : ∃ w, 0 ≤ w ∧ w ≤ 20 * 10 ^ 10 ∧ unit * z = w := ⟨_, Int.mul_nonneg (by omega) (by omega), by
   have := Int.mul_le_mul hu1 (Int.le_of_lt z1) z0 (by decide)
   omega, rfl⟩
  obtain ⟨f, r5, f0, f1, c5, e5, _⟩ := hT.b r4 12 hk c4
  have u0 : 0 ≤ unit * f := Int.mul_nonneg (by omega) f0
  obtain ⟨g, r6, g0, g1, c6, e6, _⟩ := hT.b r5 (w + 1) hk c5
  obtain ⟨y, r7, y0, y1, c7, e7, _⟩ := hT.b r6 3 hk c6
  obtain ⟨l, l0, l1, hl2⟩ : ∃ l : Int, 0 ≤ l ∧ l ≤ w ∧ (if y = 0 then w else if y = 1 then if unit * f < w then unit * f else w else g) = l := ⟨_, by split <;> (try split) <;> (try split) <;> omega, by split <;> (try split) <;> (try split) <;> omega, rfl⟩
  have lm : (ds.map dayT).length < LIM := by rw [List.length_map, hl]; exact Nat.lt_of_lt_of_le (by omega : i < 1000) (by decide)
  refine step_ok rfl ?_
  walk_at "wq"
  exact ⟨_, _, rfl, rfl, ds ++ [(w, l)], r7, _, _, _, rfl, by simp [dayT], by simp [hl], fun q hq => by
   rcases List.mem_append.mp hq with e | e
   · exact hd q e
   · rw [List.mem_singleton.mp e]; exact ⟨w0, by omega, l0, l1⟩, c7⟩)
 rw [rng_len] at hl
 walk_at "wq"
 exact ⟨_, _, rfl, _, r, rfl, rfl, ds, rfl, hl, hd⟩
open PySem L2 I PyProof.Rows PySem.Builtin.Str
theorem repS_len (z : Str) (n : Int) : (repS z n).length ≤ z.length * n.toNat + z.length := by
 unfold repS
 split
 · exact Nat.zero_le _
 · split
   · omega
   · have key : ∀ (k : Nat) (acc : Array _), ((List.replicate k z.cps).foldl (· ++ ·) acc).size = acc.size + z.length * k := by
      intro k
      induction k with
      | zero => simp
      | succ k ih => intro acc; rw [List.replicate_succ, List.foldl_cons, ih, Array.size_append, Nat.mul_succ]; show acc.size + z.length + z.length * k = _; omega
     show Array.size _ ≤ _
     simp_all
theorem strs_map : ∀ (xs : List _), strsT (xs.map T.str) = some xs
 | [] => rfl
 | x :: xs => by show (strsT _).map _ = _; rw [strs_map xs]; rfl
theorem w_joinL {st} (h : (xs.map (·.length)).sum + xs.length * sep.length ≤ LIM) : mtR .join (.d (.str sep)) [.lst (xs.map T.str)] st = .ok (.d (.str (Txt.join sep xs))) st := by
 show (match match strsT _ with | some ys => if (ys.map _).sum + ys.length * sep.length ≤ LIM then some _ else none | none => none with | some u => fresh u st | none => .bad) = _
 rw [strs_map]
 dsimp only
 rw [if_pos h]
 rfl
theorem w_letter {st} (h0 : 0 ≤ i) (h1 : i < 26) : ixW (.d (.str "abcdefghijklmnopqrstuvwxyz")) (.d (.int i)) st = .ok (.d (.str (sign (letter i)))) st := by
 have hk := by
  have : letters.cps.toList.length = 26 := rfl
  omega
 have z : atI letters.cps.toList i = some (letter i) := at_nat h0 (by
  unfold letter
  simp_all)
 show (if letters.length ≤ LIM then match atI letters.cps.toList i with | some c => Res.ok _ st | none => Res.bad else Res.bad) = _
 rw [z]
 rfl
theorem w_sls {st} (h : z.length ≤ 1000) : slW (.d (.str z)) l u st = .ok (.d (.str (Txt.slice z l u))) st := by
 show (if z.length ≤ LIM then Res.ok _ st else Res.bad) = _
 rw [if_pos (lim1 h)]
theorem w_rep {n} {st} (h : z.length ≤ 1000) (h0 : 0 ≤ n) (h1 : n ≤ 1000) : binW .mul (.d (.str z)) (.d (.int n)) st = .ok (.d (.str (repS z n))) st := by
 show (match if z.length ≤ 1000 ∧ 0 ≤ n ∧ n ≤ 1000 then some _ else none with | some t => fresh t st | none => .bad) = _
 rw [if_pos ⟨h, h0, h1⟩]
 rfl
theorem w_adds' {st} (h : a.length + b.length ≤ 1000) : binW .add (.d (.str a)) (.d (.str b)) st = .ok (.d (.str (a ++ b))) st := w_adds (lim1 h)
theorem range_cut (xs : List Nat) (lo m : Nat) (h : lo + m ≤ xs.length) : ((List.range m).map fun i => lo + i).filterMap (fun i => xs[i]?) = (xs.drop lo).take m := by
 induction m with
 | zero => simp
 | succ m ih =>
  rw [List.range_succ, List.map_append, List.filterMap_append, ih (by omega)]
  have hl : m < (xs.drop lo).length := by rw [List.length_drop]; omega
  rw [List.take_succ_eq_append_getElem hl]
  simp only [List.map_cons, List.filterMap_cons]
  rw [List.getElem?_eq_getElem (by omega)]
  simp
theorem slice_of (x : Str) (l u : Option _) (lo m : Nat) (h : lo + m ≤ x.length) (e : strSliceIndices l u 1 x.length = (List.range m).map fun i => lo + i) : (Txt.slice x l u).cps.toList = (x.cps.toList.drop lo).take m := by
 have hx : x.cps.toList.length = x.length := rfl
 unfold Txt.slice
 rw [e]
 by_cases hm : m = x.length
 · have h0 : lo = 0 := by omega
   subst h0
   rw [if_pos (by simp [hm]), hm, List.drop_zero, ← hx, List.take_length]
 · have := range_cut x.cps.toList lo m (by omega)
   simp_all
theorem slice_take (x : Str) (k : Nat) (h : k ≤ x.length) : (Txt.slice x none (some k)).cps.toList = x.cps.toList.take k := by
 have := slice_of x none (some k) 0 k (by omega) (by
  unfold strSliceIndices sliceRange
  have h0 : ¬ (k : Int) < 0 := by omega
  simp only [h0, if_false]
  have e : max (0 : Int) (min k x.length) = k := by omega
  rw [e]
  have e2 : (if (0 : Int) < k then (k : Int) - 0 + 1 - 1 / 1 else 0).toNat = k := by
   grind
  grind)
 simp_all
theorem slice_len (x : Str) (k : Nat) (h : k ≤ x.length) : (Txt.slice x none (some k)).length = k := by
 show (Txt.slice x _ _).cps.size = k
 rw [← Array.length_toList, slice_take x k h, List.length_take]
 have hx : x.cps.toList.length = x.length := rfl
 omega
theorem repS_ge (z : Str) (n : Nat) (h : 2 ≤ n) : n * z.length ≤ (repS z n).length := by
 unfold repS
 rw [if_neg (by omega)]
 split
 · have : z.length = 0 := by
    have hn : ((n : Int) == 1) = false := by simp; omega
    simp_all
   rw [this]
   omega
 · have key : ∀ (k : Nat) (acc : Array _), ((List.replicate k z.cps).foldl (· ++ ·) acc).size = acc.size + z.length * k := by
    intro k
    induction k with
    | zero => simp
    | succ k ih => intro acc; rw [List.replicate_succ, List.foldl_cons, ih, Array.size_append, Nat.mul_succ]; show acc.size + z.length + z.length * k = _; omega
   show _ ≤ Array.size _
   rw [key, Nat.mul_comm]
   simp
theorem letter_inj (h0 : 0 ≤ i) (h1 : i < 26) (g0 : 0 ≤ j) (g1 : j < 26) (e : letter i = letter j) : i = j := by
 have all : ∀ a : Fin 26, ∀ b, letters.cps.toList.getD a.val 0 = letters.cps.toList.getD b.val 0 → a = b := by decide +kernel
 have := all ⟨i.toNat, by omega⟩ ⟨j.toNat, by omega⟩ e
 have := congrArg Fin.val this
 simp only at this
 omega
theorem pick4_mod (p f : Int) (hp : p = 1 ∨ p = 3 ∨ p = 5 ∨ p = 7) (i j : Nat) (hi : i < 8) (hj : j < 8) (e : (f + p * i) % 26 = (f + p * j) % 26) : i = j := by grind
def Hid (p : Prop) : Prop := p
def Low (z : Str) : Prop := ∀ c ∈ z.cps.toList, 97 ≤ c
structure Unlike (ks : List Str) : Prop where
 one : ∀ (i j : Nat) (hi : i < ks.length) (hj : j < ks.length), ks[i] = ks[j] → i = j
 low : ∀ k ∈ ks, Low k
instance {ks : List Str} : CoeFun (Unlike ks) fun _ => ∀ (i j : Nat) (hi : i < ks.length) (hj : j < ks.length), ks[i] = ks[j] → i = j := ⟨Unlike.one⟩
theorem str_app (a b : Str) : (a ++ b).cps.toList = a.cps.toList ++ b.cps.toList := by
 show (a.cps ++ b.cps).toList = _
 simp
theorem low_app {a b : Str} (h : Low a) (k : Low b) : Low (a ++ b) := fun c hc => by
 rw [str_app] at hc
 exact (List.mem_append.mp hc).elim (h c) (k c)
theorem low_slice {z : Str} {l u : Option Int} (h : Low z) : Low (Txt.slice z l u) := by
 unfold Txt.slice
 split
 · exact h
 · intro c hc
   obtain ⟨i, _, e⟩ := List.mem_filterMap.mp (show c ∈ ((strSliceIndices l u 1 z.length).filterMap (z.cps[·]?)) by simpa using hc)
   exact h c (Array.mem_toList_iff.mpr (Array.mem_of_getElem? e))
theorem low_fold {P : Array Nat} (h : ∀ c ∈ P.toList, 97 ≤ c) : ∀ (n : Nat) (acc : Array Nat), (∀ c ∈ acc.toList, 97 ≤ c) → ∀ c ∈ ((List.replicate n P).foldl (· ++ ·) acc).toList, 97 ≤ c
 | 0, acc, k => k
 | n + 1, acc, k => low_fold h n (acc ++ P) fun c hc => by
  rw [Array.toList_append] at hc
  exact (List.mem_append.mp hc).elim (k c) (h c)
theorem low_rep {z : Str} {n : Int} (h : Low z) : Low (repS z n) := by
 unfold repS
 split
 · exact fun c hc => by cases hc
 · split
   · exact h
   · exact low_fold h _ _ fun c hc => by cases hc
theorem low_join {xs : List Str} (h : ∀ x ∈ xs, Low x) : Low (Txt.join "" xs) := by
 have key : ∀ (l : List Str) (acc : Array Nat), (∀ c ∈ acc.toList, 97 ≤ c) → (∀ x ∈ l, Low x) → ∀ c ∈ (l.foldl (fun acc p => acc ++ ("" : Str).cps ++ p.cps) acc).toList, 97 ≤ c := by
  intro l
  induction l with
  | nil => exact fun acc k _ => k
  | cons x l ih => exact fun acc k hl => ih _ (fun c hc => by
   simp only [Array.toList_append] at hc
   rcases List.mem_append.mp hc with q | q
   · rcases List.mem_append.mp q with q | q
     · exact k c q
     · exact absurd q (by rw [show ("" : Str).cps = #[] by decide +kernel]; exact List.not_mem_nil)
   · exact hl x List.mem_cons_self c q) fun y hy => hl y (List.mem_cons_of_mem _ hy)
 cases xs with
 | nil => exact fun c hc => by cases hc
 | cons x l => exact key l x.cps (h x List.mem_cons_self) fun y hy => h y (List.mem_cons_of_mem _ hy)
theorem low_letter {i : Int} (h0 : 0 ≤ i) (h1 : i < 26) : Low (sign (letter i)) := by
 have key : ∀ n : Nat, n < 26 → 97 ≤ letters.cps.toList.getD n 0 := by decide +kernel
 intro c hc
 obtain rfl : c = letter i := by simpa [sign] using hc
 exact key i.toNat (by omega)
structure NamesOk (many : Nat) (nms : List Str) : Prop where
 len : nms.length = many
 unl : Unlike nms
 sz : ∀ n ∈ nms, n.length ≤ 100
theorem names_ok1 (bs : Str) (hb : Low bs) (h0 : 1 ≤ bs.length) (h1 : bs.length ≤ 8) {many : Nat} (hm : many ≤ 8) : NamesOk many ((List.range many).map fun (k : Nat) => Txt.slice (repS bs 8) none (some ((k : Int) + 1))) := by
 refine ⟨by simp, ⟨fun i j hi hj e => ?_, fun n hn => ?_⟩, fun n hn => ?_⟩
 · simp only [List.length_map, List.length_range] at hi hj
   simp only [List.getElem_map, List.getElem_range] at e
   have g := repS_ge bs 8 (by decide)
   have a1 := slice_len (repS bs ((8 : Nat) : Int)) (i + 1) (by omega)
   have a2 := slice_len (repS bs ((8 : Nat) : Int)) (j + 1) (by omega)
   have e' := congrArg Str.length e
   have e2 : (Txt.slice (repS bs ((8 : Nat) : Int)) none (some ((i + 1 : Nat) : Int))).length = (Txt.slice (repS bs ((8 : Nat) : Int)) none (some ((j + 1 : Nat) : Int))).length := e'
   omega
 · obtain ⟨k, _, rfl⟩ := List.mem_map.mp hn
   exact low_slice (low_rep hb)
 · obtain ⟨k, _, rfl⟩ := List.mem_map.mp hn
   have a := Txt.slice_le (repS bs 8) none (some ((k : Int) + 1))
   have b := repS_len bs 8
   rw [show (8 : Int).toNat = 8 from rfl] at b
   omega
theorem names_ok2 (bs : Str) (hb : Low bs) (h1 : bs.length ≤ 8) (p f a : Int) (hp : p = 1 ∨ p = 3 ∨ p = 5 ∨ p = 7) {many : Nat} (hm : many ≤ 8) : NamesOk many ((List.range many).map fun (k : Nat) => Txt.slice bs none (some a) ++ sign (letter ((f + p * (k : Int)) % 26)) ++ Txt.slice bs (some (a + 1)) none) := by
 refine ⟨by simp, ⟨fun i j hi hj e => ?_, fun n hn => ?_⟩, fun n hn => ?_⟩
 · simp only [List.length_map, List.length_range] at hi hj
   simp only [List.getElem_map, List.getElem_range] at e
   have e' := congrArg (fun z => z.cps.toList) e
   simp only [str_app, List.append_assoc] at e'
   have e2 := List.append_cancel_left e'
   simp only [sign, List.cons_append, List.nil_append] at e2
   injection e2 with e3 _
   have m0 : ∀ z : Int, 0 ≤ z % 26 ∧ z % 26 < 26 := fun z => by omega
   exact pick4_mod _ _ hp i j (by omega) (by omega) (letter_inj (m0 _).1 (m0 _).2 (m0 _).1 (m0 _).2 e3)
 · obtain ⟨k, _, rfl⟩ := List.mem_map.mp hn
   exact low_app (low_app (low_slice hb) (low_letter (Int.emod_nonneg _ (by decide)) (Int.emod_lt_of_pos _ (by decide)))) (low_slice hb)
 · obtain ⟨k, _, rfl⟩ := List.mem_map.mp hn
   have s1 := Txt.slice_le bs none (some a)
   have s2 := Txt.slice_le bs (some (a + 1)) none
   rw [Str.length_append, Str.length_append]
   show _ + 1 + _ ≤ 100
   omega
theorem ones_len : ∀ {xs : List Str}, (∀ x ∈ xs, x.length = 1) → (xs.map (·.length)).sum = xs.length
 | [], _ => rfl
 | x :: xs, h => by
  rw [List.map_cons, List.sum_cons, ones_len fun y hy => h y (List.mem_cons_of_mem _ hy), h x List.mem_cons_self, List.length_cons]
  omega
local macro_rules | `(tactic| walk_at "wq") => do { let ls ← ((I.ws (Hd.wsC ++ " kBin2 X_bin kTrg X_trg")).mapM fun n => `(Lean.Parser.Tactic.simpLemma| $(Lean.mkIdent n):term)); `(tactic| simp (disch := walk_at "dq") only [$[$ls:simpLemma],*, *]) }
def NamesP (f : FW) : Prop := ∀ (k : Nat) (st : Sto) (s : R) (many : Nat), many ≤ 8 → ∀ n, Fu (n + 13) s → st[k]? = some (rowS s) → Wl (f [.ref k, .d (.int many)] st) fun w σ => ∃ nms s', w = .ref st.length ∧ σ = st.set k (rowS s') ++ [some (nms.map T.str)] ∧ NamesOk many nms ∧ Fu n s'
theorem names_p {F : FT} (hT : TakeP (F 1)) : NamesP (runF F G0 d_l_names) := by
 intro k st s many hm n hf h
 have hk := lt_of h
 rw [← ext_set h]
 refine run_ok rfl ?_
 unfold d_l_names
 obtain ⟨w, r, w0, w1, wc, e1, e2⟩ := hT.b s 8 hk hf
 obtain ⟨z, hz⟩ : ∃ z : Nat, 1 + w = (z : Int) := ⟨(1 + w).toNat, by omega⟩
 walk_at "wq"
 generalize hX : evComp _ _ _ _ _ = X
 obtain ⟨_, _, ⟨xs, r2, rfl, rfl, hl, ho, c1⟩, rfl⟩ := comp_ok hX (fun i a σ => ∃ (xs : List Str) (r' : R), a = xs.map T.str ∧ σ = st.set k (rowS r') ∧ xs.length = i ∧ (∀ x ∈ xs, x.length = 1 ∧ Low x) ∧ Fu (1 * (z - i) + (n + 4)) r') ⟨[], r, rfl, rfl, rfl, by simp, wc.le (by omega)⟩ (by
  rintro i x a σ hx ⟨xs, r', rfl, rfl, hl, ho, c1⟩
  obtain ⟨hi, rfl⟩ := rng_i hx
  obtain ⟨v, q, v0, v1, hc, _, e⟩ := hT.b r' 26 hk (c1.it hi)
  have wl := fun st => w_letter (st := st) v0 v1
  refine turn_ok' rfl ?_
  walk_at "wq"
  exact ⟨_, _, rfl, xs ++ [sign (letter v)], q, by simp, rfl, by simp [hl], fun x hx => by
   rcases List.mem_append.mp hx with e | e
   · exact ho x e
   · rw [List.mem_singleton.mp e]; exact ⟨rfl, low_letter v0 v1⟩, hc⟩)
 rw [rng_len] at hl c1
 have c1 := c1.nd
 have zl : Str.length ("" : Str) = 0 := by decide +kernel
 have sums := ones_len fun x hx => (ho x hx).1
 have lo := low_join fun x hx => (ho x hx).2
 have hj := fun st' => w_joinL (sep := "") (xs := xs) (st := st') (by rw [zl]; exact lim1 (by omega))
 have bl : (Txt.join "" xs).length = z := by
  unfold Txt.join
  rw [size_glued, zl]
  omega
 generalize Txt.join "" xs = bs at *
 replace lo : Hid _ := lo
 obtain ⟨a, r3, a0, a1, ac, e3, e4⟩ := hT.b r2 4 hk c1
 by_cases hc : a = 0
 · walk_at "wq"
   generalize hX2 : evComp _ _ _ _ _ = X
   obtain ⟨_, _, ⟨rfl, rfl⟩, rfl⟩ := comp_ok hX2 (fun i a σ => a = ((List.range i).map fun (k : Nat) => Txt.slice (repS bs 8) none (some ((k : Int) + 1))).map T.str ∧ σ = st.set k (rowS r3)) ⟨rfl, rfl⟩ (by
    rintro i x a σ hx ⟨rfl, rfl⟩
    obtain ⟨hi, rfl⟩ := rng_i hx
    have rl := repS_len bs 8
    rw [show (8 : Int).toNat = 8 from rfl] at rl
    have hr := fun st => w_rep (z := bs) (n := 8) (st := st) (by omega) (by decide) (by decide)
    have hs := fun l u st => w_sls (z := repS bs 8) (l := l) (u := u) (st := st) (by omega)
    refine turn_ok' rfl ?_
    walk_at "wq"
    exact ⟨_, _, rfl, by simp [List.range_succ], rfl⟩)
   rw [rng_len]
   walk_at "wq"
   exact ⟨_, _, rfl, _, r3, rfl, rfl, names_ok1 bs lo (by omega) (by omega) hm, ac.le (by omega)⟩
 · obtain ⟨b, r4, b0, b1, bc, e5, e6⟩ := hT.b r3 z hk ac
   obtain ⟨f, r5, f0, f1, fc, e7, e8⟩ := hT.b r4 26 hk bc
   obtain ⟨g, r6, g0, g1, gc, e9, _⟩ := hT.b r5 4 hk fc
   obtain ⟨p, pp, hp⟩ : ∃ p : Int, (p = 1 ∨ p = 3 ∨ p = 5 ∨ p = 7) ∧ (if g = 0 then 1 else if g = 1 then 3 else if g = 2 then 5 else 7) = p := ⟨_, by split <;> (try split) <;> (try split) <;> omega, rfl⟩
   walk_at "wq"
   generalize hX2 : evComp _ _ _ _ _ = X
   obtain ⟨_, _, ⟨rfl, rfl⟩, rfl⟩ := comp_ok hX2 (fun i a σ => a = ((List.range i).map fun (k : Nat) => Txt.slice bs none (some b) ++ sign (letter ((f + p * (k : Int)) % 26)) ++ Txt.slice bs (some (b + 1)) none).map T.str ∧ σ = st.set k (rowS r6)) ⟨rfl, rfl⟩ (by
    rintro i x a σ hx ⟨rfl, rfl⟩
    obtain ⟨hi, rfl⟩ := rng_i hx
    have sl1 := Txt.slice_le bs none (some b)
    have sl2 := Txt.slice_le bs (some (b + 1)) none
    have hs := fun l u st => w_sls (z := bs) (l := l) (u := u) (st := st) (by omega)
    have wl := fun st => w_letter (i := (f + p * (i : Int)) % 26) (st := st) (Int.emod_nonneg _ (by decide)) (Int.emod_lt_of_pos _ (by decide))
    have lm : (sign (letter ((f + p * (i : Int)) % 26))).length = 1 := rfl
    have a1 := fun st => w_adds' (a := Txt.slice bs none (some b)) (b := sign (letter ((f + p * (i : Int)) % 26))) (st := st) (by omega)
    have a2 := fun st => w_adds' (a := Txt.slice bs none (some b) ++ sign (letter ((f + p * (i : Int)) % 26))) (b := Txt.slice bs (some (b + 1)) none) (st := st) (by rw [Str.length_append]; omega)
    have sp : small p = true := small_of (by omega) (by omega)
    refine turn_ok' rfl ?_
    walk_at "wq"
    exact ⟨_, _, rfl, by simp [List.range_succ], rfl⟩)
   rw [rng_len]
   walk_at "wq"
   exact ⟨_, _, rfl, _, r6, rfl, rfl, names_ok2 bs lo (by omega) p f b pp hm, gc⟩
section
variable {f : FW} {s : R} {many : Nat}
theorem NamesP.b (h : NamesP f) {k} {st : Sto} (hk : k < st.length) (l : Sto) (hm : many ≤ 8) {n} (h0 : Fu (n + 13) s) : ∃ nms s', NamesOk many nms ∧ Fu n s' ∧ f [.ref k, .d (.int many)] (st.set k (rowS s) ++ l) = .ok (.ref (st.length + l.length)) (st.set k (rowS s') ++ (l ++ [some (nms.map T.str)])) := by
 obtain ⟨_, _, e, nms, s', rfl, rfl, a, b⟩ := h k _ s _ hm n h0 (sb_get hk (l := l))
 rw [sb_set hk, List.length_append, List.length_set, List.append_assoc] at e
 exact ⟨nms, s', a, b, e⟩
theorem NamesP.c (h : NamesP f) (st l : Sto) (hm : many ≤ 8) (h0 : Fu 13 s) : ∃ nms s', NamesOk many nms ∧ f [.ref st.length, .d (.int many)] (st ++ rowS s :: l) = .ok (.ref (st.length + (l.length + 1))) (st ++ rowS s' :: (l ++ [some (nms.map T.str)])) := by
 obtain ⟨_, _, e, nms, s', rfl, rfl, a, _⟩ := h _ _ s _ hm 0 h0 (sa_get (st := st))
 rw [sa_set, List.length_append, List.append_assoc] at e
 exact ⟨nms, s', a, e⟩
end
theorem map_i {α : Type} {f : α → T} {l : List α} {i} {x} (h : (l.map f)[i]? = some x) : ∃ a, l[i]? = some a ∧ a ∈ l ∧ i < l.length ∧ f a = x := by
 rw [List.getElem?_map] at h
 cases e : l[i]? with
 | none => rw [e] at h; cases h
 | some a =>
  rw [e] at h
  injection h with h
  obtain ⟨hi, he⟩ := List.getElem?_eq_some_iff.mp e
  exact ⟨a, rfl, he ▸ List.getElem_mem hi, hi, h⟩
theorem take_i {α : Type} {l : List α} {i} {a} (h : l[i]? = some a) : l.take (i + 1) = l.take i ++ [a] := by rw [List.take_add_one, h]; rfl
theorem all_snoc {α : Type} {P : α → Prop} {l} {a} (h : ∀ x ∈ l, P x) (ha : P a) : ∀ x ∈ l ++ [a], P x := fun x hx => (List.mem_append.mp hx).elim (h x) fun e => by simp_all
theorem pk_at {α : Type} {f : α → T} {l : List α} {i : Int} (h0 : 0 ≤ i) (h1 : i < l.length) : ∃ a ∈ l, atI (l.map f) i = some (f a) :=
 have hi : i.toNat < l.length := by omega
 ⟨_, List.getElem_mem hi, at_nat h0 (by simp_all)⟩
theorem len_lim {α : Type} {f : α → T} {l : List α} (h : l.length ≤ 1000) : (l.map f).length < LIM := by rw [List.length_map]; exact Nat.lt_of_le_of_lt h (by decide)
def PlaceOk (p : Place) : Prop := p.name.length ≤ 100 ∧ 0 ≤ p.rent ∧ p.rent < 10 ^ 60 ∧ p.shut.length ≤ 100
def PlayerOk (p : Player) : Prop := p.name.length ≤ 100 ∧ 0 ≤ p.pay ∧ p.pay < 10 ^ 60 ∧ 0 ≤ p.hold ∧ p.hold ≤ p.pay ∧ 1 ≤ p.run ∧ p.run ≤ 8 ∧ p.away.length ≤ 100
def SceneOk (pl : List Place) (qs : List Player) (p : Scene) : Prop := p.name.length ≤ 100 ∧ p.place ∈ pl.map (·.name) ∧ 0 ≤ p.length ∧ p.length ≤ 10 ^ 12 ∧ p.word.length ≤ 4 ∧ p.cast.length ≤ qs.length ∧ ∀ c ∈ p.cast, c ∈ qs.map (·.name)
def PlacesP (f : FW) : Prop := ∀ (s : R) (many : Nat), many ≤ 100 → Fu 1000 s → RowX f [.d (.int many)] s fun v s' => ∃ ps : List Place, v = .tup (ps.map Place.t) ∧ ps.length ≤ 8 ∧ Unlike (ps.map (·.name)) ∧ ∀ p ∈ ps, PlaceOk p
theorem places_p (hT : TakeP (F 1)) (hM : MoneyP (F 5)) (hS : SomeP (F 2)) (hN : NamesP (F 6)) : PlacesP (runF F G0 d_l_places) := by
 intro s many hm hf k st h
 have hk := lt_of h
 rw [← ext_set h]
 refine run_ok rfl ?_
 unfold d_l_places
 obtain ⟨a, r1, a0, a1, c1, e1, f1⟩ := hT.b s 3 hk hf
 obtain ⟨b, r2, b0, b1, c2, e2, f2⟩ := hT.b r1 7 hk c1
 obtain ⟨c, r3, c0, c01, c3, e3, f3⟩ := hT.b r2 4 hk c2
 obtain ⟨n, n8, hn⟩ : ∃ n : Nat, n ≤ 8 ∧ (if (if decide (c = 0) = true then (1 : Int) else 0) = 0 then 1 + a else b) = n := ⟨(if (if decide (c = 0) = true then (1 : Int) else 0) = 0 then 1 + a else b).toNat, by split <;> omega, by split <;> omega⟩
 obtain ⟨nms, r4, no, c4, e4⟩ := hN.b hk [] n8 c3
 rw [List.append_nil, List.length_nil] at e4
 have nl := no.len
 walk_at "wq"
 generalize hX : evComp _ _ _ _ _ = X
 obtain ⟨_, _, ⟨ps, r, rfl, rfl, hp, ho, c5⟩, rfl⟩ := comp_ok hX (fun i a σ => ∃ (ps : List _) (r : R), a = ps.map Place.t ∧ σ = st.set k (rowS r) ∧ ps.map (·.name) = nms.take i ∧ (∀ p ∈ ps, PlaceOk p) ∧ Fu (109 * (n - i) + 0) r) ⟨[], r4, rfl, rfl, rfl, by simp, c4.le (by omega)⟩ (by
  rintro i x a σ hx ⟨ps, r, rfl, rfl, hp, ho, c5⟩
  obtain ⟨nm, hi, hm', hl, rfl⟩ := map_i hx
  obtain ⟨_, q1, ⟨m, rfl, m0, m1, d1⟩, g1⟩ := (hM r _ (c5.it (nl ▸ hl))).a hk
  obtain ⟨_, q2, ⟨ds, rfl, dl, d2⟩, g2⟩ := (hS q1 _ hm _ d1).a hk
  refine turn_ok' rfl ?_
  walk_at "wq"
  exact ⟨_, _, rfl, ps ++ [⟨nm, m, ds⟩], q2, by simp [Place.t], rfl, by rw [take_i hi, List.map_append, hp]; rfl, all_snoc ho ⟨no.sz nm hm', m0, m1, by show ds.length ≤ 100; omega⟩, d2⟩)
 rw [List.length_map, List.take_length] at hp
 walk_at "wq"
 exact ⟨_, _, rfl, _, r, rfl, rfl, ps, rfl, by rw [← List.length_map, hp]; omega, by rw [hp]; exact no.unl, ho⟩
def PlayersP (f : FW) : Prop := ∀ (s : R) (many : Nat), many ≤ 100 → Fu 1000 s → RowX f [.d (.int many)] s fun v s' => ∃ ps : List Player, v = .tup (ps.map Player.t) ∧ ps.length ≤ 8 ∧ Unlike (ps.map (·.name)) ∧ ∀ p ∈ ps, PlayerOk p
theorem players_p {F : FT} (hT : TakeP (F 1)) (hF : FarP (F 3)) (hM : MoneyP (F 5)) (hS : SomeP (F 2)) (hN : NamesP (F 6)) : PlayersP (runF F G0 d_l_players) := by
 intro s many hm hf k st h
 have hk := lt_of h
 rw [← ext_set h]
 refine run_ok rfl ?_
 unfold d_l_players
 obtain ⟨a, r1, a0, a1, c1, e1, f1⟩ := hT.b s 4 hk hf
 obtain ⟨b, r2, b0, b1, c2, e2, f2⟩ := hT.b r1 7 hk c1
 obtain ⟨c, r3, c0, c01, c3, e3, f3⟩ := hT.b r2 3 hk c2
 obtain ⟨n, n8, hn⟩ : ∃ n : Nat, n ≤ 8 ∧ (if (if decide (c = 0) = true then (1 : Int) else 0) = 0 then a else b) = n := ⟨(if (if decide (c = 0) = true then (1 : Int) else 0) = 0 then a else b).toNat, by split <;> omega, by split <;> omega⟩
 obtain ⟨nms, r4, no, c4, e4⟩ := hN.b (s := r3) hk [some []] n8 c3
 have nl := no.len
 walk_at "wq"
 generalize hX : evFor _ _ _ _ _ = X
 obtain ⟨_, _, ⟨ps, r, x4, x5, x6, x7, rfl, rfl, hp, ho, c5⟩, rfl⟩ := for_ok hX (fun i ρ σ => ∃ (ps : List Player) (r : R) (x4 x5 x6 x7 : Option W), ρ = [some (.ref k), some (.d (.int many)), some (.d (.int n)), some (.ref st.length), x4, x5, x6, x7] ∧ σ = st.set k (rowS r) ++ [some (ps.map Player.t)] ∧ ps.map (·.name) = nms.take i ∧ (∀ p ∈ ps, PlayerOk p) ∧ Fu (119 * (n - i) + 0) r) ⟨[], r4, none, none, none, none, rfl, rfl, by simp, by simp, c4.le (by omega)⟩ (by
  rintro i x ρ σ hx ⟨ps, r, x4, x5, x6, x7, rfl, rfl, hp, ho, c5⟩
  obtain ⟨nm, hi, hm', hl, rfl⟩ := map_i hx
  have hpl : ps.length ≤ 8 := by have := congrArg List.length hp; simp at this; omega
  have lm := len_lim (f := Player.t) (l := ps) (by omega)
  obtain ⟨_, q1, ⟨m, rfl, m0, m1, d1⟩, g1⟩ := (hM r _ (c5.it (nl ▸ hl))).b hk [some (ps.map Player.t)]
  obtain ⟨_, q2, ⟨v, rfl, v0, v1, d2⟩, g2⟩ := (hF q1 (m + 1) _ (by omega) d1).b hk [some (ps.map Player.t)]
  obtain ⟨y, q3, y0, y1, d3, g3, _⟩ := hT.b q2 3 hk d2
  obtain ⟨hd, h0, h1, hh⟩ : ∃ hd : Int, 0 ≤ hd ∧ hd ≤ m ∧ (if y = 0 then 0 else if y = 1 then m else v) = hd := ⟨_, by split <;> (try split) <;> omega, by split <;> (try split) <;> omega, rfl⟩
  obtain ⟨u, q4, u0, u1, d4, g4, _⟩ := hT.b q3 2 hk d3
  obtain ⟨t, t0, t1, ht⟩ : ∃ t : Int, 0 < t ∧ t ≤ 8 ∧ (if u = 0 then 2 else 8) = t := ⟨_, by split <;> decide, by split <;> decide, rfl⟩
  obtain ⟨z, q5, z0, z1, d5, g5, _⟩ := hT.b q4 t hk d4
  obtain ⟨_, q6, ⟨ds, rfl, dl, d6⟩, g6⟩ := (hS q5 _ hm _ d5).b hk [some (ps.map Player.t)]
  refine step_ok rfl ?_
  walk_at "wq"
  exact ⟨_, _, rfl, rfl, ps ++ [⟨nm, m, hd, 1 + z, ds⟩], q6, _, _, _, _, rfl, by simp [Player.t], by rw [take_i hi, List.map_append, hp]; rfl, all_snoc ho ⟨no.sz nm hm', m0, m1, h0, h1, by show 1 ≤ 1 + z; omega, by show 1 + z ≤ 8; omega, by show ds.length ≤ 100; omega⟩, d6⟩)
 rw [List.length_map, List.take_length] at hp
 walk_at "wq"
 exact ⟨_, _, rfl, _, r, rfl, rfl, ps, rfl, by rw [← List.length_map, hp]; omega, by rw [hp]; exact no.unl, ho⟩
def SceneP (f : FW) : Prop := ∀ (s : R) (nm : Str) (pl : List Place) (qs : List Player) (unit : Int), nm.length ≤ 100 → 0 < pl.length → pl.length ≤ 1000 → qs.length ≤ 1000 → 0 < unit → unit ≤ 10 ^ 10 → Fu 1004 s → RowX f [.d (.str nm), .d (.tup (pl.map Place.t)), .d (.tup (qs.map Player.t)), .d (.int unit)] s fun v s' => ∃ sc : Scene, v = sc.t ∧ sc.name = nm ∧ SceneOk pl qs sc
theorem scene_p {F : FT} (hT : TakeP (F 1)) : SceneP (runF F G0 d_l_scene) := by
 intro s nm pl qs unit hnm hp0 hp1 hq hu0 hu1 hf k st h
 have hk := lt_of h
 rw [← ext_set h]
 refine run_ok rfl ?_
 unfold d_l_scene
 have lp : (pl.map Place.t).length = pl.length := List.length_map _
 obtain ⟨a, r1, a0, a1, c1, e1, f1⟩ := hT.b s pl.length hk hf
 obtain ⟨p, hp, ep⟩ := pk_at (f := Place.t) a0 a1
 replace ep : atI (pl.map Place.t) a = some (.tup [.str p.name, .int p.rent, .tup (p.shut.map T.int)]) := ep
 obtain ⟨b, r2, b0, b1, c2, e2, f2⟩ := hT.b r1 6 hk c1
 obtain ⟨c, r3, c0, c01, c3, e3, f3⟩ := hT.b r2 4 hk c2
 obtain ⟨wd, w4, hw⟩ : ∃ wd : Str, wd.length ≤ 4 ∧ (if c = 0 then ("any" : Str) else if c = 1 then "sun" else if c = 2 then "moon" else "any") = wd := ⟨_, by split <;> (try split) <;> (try split) <;> decide +kernel, rfl⟩
 have ul : unit * (1 + b) ≤ 10 ^ 10 * 6 := Int.mul_le_mul hu1 (by omega) (by omega) (by decide)
 have u0 : 0 ≤ unit * (1 + b) := Int.mul_nonneg (by omega) (by omega)
 walk_at "wq"
 generalize hX : evComp _ _ _ _ _ = X
 obtain ⟨_, _, ⟨cs, r, rfl, rfl, hl, hcs, c5⟩, rfl⟩ := comp_ok hX (fun i a σ => ∃ (cs : List Str) (r : R), a = cs.map T.str ∧ σ = st.set k (rowS r) ∧ cs.length ≤ i ∧ (∀ x ∈ cs, x ∈ qs.map (·.name)) ∧ Fu (1 * (qs.length - i) + 1) r) ⟨[], r3, rfl, rfl, Nat.le_refl _, by simp, c3.le (by omega)⟩ (by
  rintro i x a σ hx ⟨cs, r, rfl, rfl, hl, hcs, c5⟩
  obtain ⟨q, hi, hm', hl', rfl⟩ := map_i hx
  obtain ⟨v, r', _, _, hc, _, e⟩ := hT.b r 3 hk (c5.it hl')
  refine turn_ok' rfl ?_
  unfold Player.t
  by_cases hv : v = 0
  · walk_at "wq"
    exact ⟨_, _, rfl, _, r', by simp, rfl, by simp; omega, all_snoc hcs (List.mem_map_of_mem hm'), hc⟩
  · walk_at "wq"
    exact ⟨_, _, rfl, cs, r', by simp, rfl, by omega, hcs, hc⟩)
 rw [List.length_map] at hl c5
 obtain ⟨d, r6, d0, d1, c6, e6, f6⟩ := hT.b r 2 hk c5.nd
 have so : ∀ ts, ts.length ≤ cs.length → (∀ x ∈ ts, x ∈ cs) → SceneOk pl qs ⟨nm, _, _, wd, ts⟩ := fun ts h1 h2 => ⟨hnm, List.mem_map_of_mem hp, u0, by show unit * (1 + b) ≤ _; omega, w4, Nat.le_trans h1 hl, fun x hx => hcs x (h2 x hx)⟩
 by_cases hd : d = 1
 · walk_at "wq"
   exact ⟨_, _, rfl, _, r6, rfl, rfl, ⟨nm, _, _, wd, cs.reverse⟩, by simp [Scene.t], rfl, so _ (by simp) (by simp)⟩
 · walk_at "wq"
   exact ⟨_, _, rfl, _, r6, rfl, rfl, _, rfl, rfl, so _ (Nat.le_refl _) fun x h => h⟩
theorem row_mk (a b : Int) : some [T.int a, .int b] = rowS ⟨a, b⟩ := rfl
structure BookOk (md ms : Int) (b : Book) : Prop where
 crew : 0 ≤ b.crew ∧ b.crew < 10 ^ 60
 move : 0 ≤ b.move ∧ b.move ≤ 10 ^ 12
 d1 : 1 ≤ b.days.length
 d2 : (b.days.length : Int) ≤ md
 p8 : b.places.length ≤ 8
 q8 : b.players.length ≤ 8
 s8 : (b.scenes.length : Int) ≤ ms
 days : ∀ d ∈ b.days, DayOk d
 places : ∀ p ∈ b.places, PlaceOk p
 players : ∀ p ∈ b.players, PlayerOk p
 scenes : ∀ p ∈ b.scenes, SceneOk b.places b.players p
 unl : Unlike (b.places.map (·.name)) ∧ Unlike (b.players.map (·.name)) ∧ Unlike (b.scenes.map (·.name))
def BookP (f : FW) : Prop := ∀ (st : Sto) (ns : List Int) (md ms : Int), 0 < md → md ≤ 100 → 0 ≤ ms → ms ≤ 8 → ∃ b, BookOk md ms b ∧ f [.d (.lst (ns.map T.int)), .d (.int md), .d (.int ms)] st = .ok (.d b.t) st
theorem book_p {F : FT} (hC : CellP (F 0)) (hT : TakeP (F 1)) (hF : FarP (F 3)) (hM : MoneyP (F 5)) (hD : DaysP (F 4)) (hN : NamesP (F 6)) (hP : PlacesP (F 7)) (hQ : PlayersP (F 8)) (hS : SceneP (F 9)) : BookP (runF F G0 d_l_book) := by
 intro st ns md ms hm0 hm1 hs0 hs1
 suffices h : Wl (runF F G0 d_l_book [.d (.lst (ns.map T.int)), .d (.int md), .d (.int ms)] st) fun w σ => ∃ b, BookOk md ms b ∧ w = .d b.t ∧ σ = st by
  obtain ⟨_, _, e, b, hb, rfl, rfl⟩ := h
  exact ⟨b, hb, e⟩
 refine run_ok rfl ?_
 unfold d_l_book
 have hrow := row_mk
 obtain ⟨z0, Z0⟩ := hC ns 0 (by decide)
 obtain ⟨z1, Z1⟩ := hC ns 1 (by decide)
 obtain ⟨z2, Z2⟩ := hC ns 2 (by decide)
 obtain ⟨z3, Z3⟩ := hC ns 3 (by decide)
 have fu : ∀ (z : Int) (i : Nat), i ≤ 20 → Fu 1004 ⟨z, i⟩ := fun z i h => ⟨by show (0 : Int) ≤ i; omega, by show (i : Int) + 1004 ≤ 10 ^ 6; omega⟩
 obtain ⟨a, r1, a0, a1, c1, e1⟩ := hT.c ⟨z0, 0⟩ md st (fu z0 0 (by decide))
 obtain ⟨many, hmn⟩ : ∃ many : Nat, 1 + a = (many : Int) := ⟨(1 + a).toNat, by omega⟩
 obtain ⟨_, r2, ⟨x, rfl, x0, x1, c2⟩, e2⟩ := (hF r1 (10 ^ 10) _ (by decide) c1).c st []
 obtain ⟨y, r3, y0, y1, c3, e3⟩ := hT.c r2 4 st c2
 obtain ⟨unit, u0, u1, hu⟩ : ∃ unit : Int, 0 < unit ∧ unit ≤ 10 ^ 10 ∧ (if y = 0 then 1 else if y = 1 then 1 else if y = 2 then 10 ^ 6 else 1 + x) = unit := ⟨_, by split <;> (try split) <;> (try split) <;> omega, by split <;> (try split) <;> (try split) <;> omega, rfl⟩
 obtain ⟨_, r4, ⟨crew, rfl, w0, w1, c4⟩, e4⟩ := (hM r3 _ c3).c st []
 obtain ⟨m, r5, m0, m1, c5, e5⟩ := hT.c r4 3 st c4
 have sm : small m = true := small_of (by omega) (by omega)
 have mv : unit * m ≤ 10 ^ 10 * 2 := Int.mul_le_mul u1 (by omega) (by omega) (by decide)
 obtain ⟨_, _, ⟨ds, rfl, dl, hds⟩, e6⟩ := (hD ⟨z1, 1⟩ many unit (by omega) u0 u1 ((fu z1 1 (by decide)).le (by omega))).d st (rowS r5)
 obtain ⟨_, _, ⟨pl, rfl, pl8, pu, hpl⟩, e7⟩ := (hP ⟨z2, 2⟩ many (by omega) ((fu z2 2 (by decide)).le (by decide))).d st (rowS r5)
 obtain ⟨_, _, ⟨qs, rfl, ql8, qu, hqs⟩, e8⟩ := (hQ ⟨z3, 3⟩ many (by omega) ((fu z3 3 (by decide)).le (by decide))).d st (rowS r5)
 obtain ⟨x5, r6, x50, x51, c6, e9⟩ := hT.c r5 (ms + 1) st c5
 obtain ⟨n, n8, hk0, hn⟩ : ∃ n : Nat, (n : Int) ≤ ms ∧ (n = 0 ∨ 0 < pl.length) ∧ x5 * (if decide ((0 : Int) < (pl.length : Int)) = true then 1 else 0) = (n : Int) := by
  by_cases hz : pl.length = 0
  · exact ⟨0, by omega, .inl rfl, by rw [hz]; simp⟩
  · exact ⟨x5.toNat, by omega, .inr (by omega), by rw [if_pos (by simpa using (by omega : 0 < pl.length))]; omega⟩
 have sif : ∀ b : Bool, small (if b = true then 1 else 0) = true := fun b => by cases b <;> exact small_of (by decide) (by decide)
 have lp : (pl.map Place.t).length = pl.length := List.length_map _
 obtain ⟨nms, r7, no, e10⟩ := hN.c (s := r6) (many := n) st [some []] (by omega) (c6.le (by decide))
 rw [List.length_cons, List.length_nil] at e10
 have nl := no.len
 walk_at "wq"
 generalize hX : evFor _ _ _ _ _ = X
 obtain ⟨_, _, ⟨scs, x13, x14, rfl, rfl, hsn, hsc⟩, rfl⟩ := for_ok hX (fun i ρ σ => ∃ (scs : List Scene) (x13 x14 : Option W), ρ = [some (.d (.lst (ns.map T.int))), some (.d (.int md)), some (.d (.int ms)), some (.ref st.length), some (.d (.int many)), some (.d (.int unit)), some (.d (.int crew)), some (.d (.int (unit * m))), some (.d (.tup (ds.map dayT))), some (.d (.tup (pl.map Place.t))), some (.d (.tup (qs.map Player.t))), some (.d (.int n)), some (.ref (st.length + 1)), x13, x14] ∧ σ = st ++ [rowS r7, some (scs.map Scene.t)] ∧ scs.map (·.name) = nms.take i ∧ ∀ p ∈ scs, SceneOk pl qs p) ⟨[], none, none, rfl, rfl, by simp, by simp⟩ (by
  rintro i x ρ σ hx ⟨scs, x13, x14, rfl, rfl, hsn, hsc⟩
  obtain ⟨nm, hi, rfl⟩ : ∃ nm, nms[i]? = some nm ∧ x = .tup [.int i, .str nm] := by
   rw [List.getElem?_map, List.getElem?_zipIdx, List.getElem?_map] at hx
   cases e : nms[i]? with
   | none => rw [e] at hx; cases hx
   | some nm => simp_all
  obtain ⟨hil, hie⟩ := List.getElem?_eq_some_iff.mp hi
  have hsl : scs.length ≤ 8 := by have := congrArg List.length hsn; simp at this; omega
  have lm := len_lim (f := Scene.t) (l := scs) (by omega)
  obtain ⟨c, C0⟩ := hC ns (4 + i) (by omega)
  obtain ⟨_, q, ⟨sc, rfl, hnm, so⟩, eS⟩ := (hS ⟨c, 4 + i⟩ nm pl qs unit (no.sz nm (hie ▸ List.getElem_mem hil)) (by omega) (by omega) (by omega) u0 u1 ⟨by show (0 : Int) ≤ 4 + i; omega, by show (4 + i : Int) + 1004 ≤ 10 ^ 6; omega⟩).e st (rowS r7) (some (scs.map Scene.t))
  refine step_ok rfl ?_
  walk_at "wq"
  exact ⟨_, _, rfl, rfl, scs ++ [sc], _, _, rfl, by simp, by rw [take_i hi, List.map_append, hsn, ← hnm]; rfl, all_snoc hsc so⟩)
 simp only [List.length_map, List.length_zipIdx, List.take_length] at hsn
 walk_at "wq"
 have hsl : scs.length = n := by rw [← List.length_map (f := (·.name)), hsn]; omega
 exact ⟨_, _, rfl, ⟨crew, unit * m, ds, pl, qs, scs⟩, ⟨⟨w0, w1⟩, ⟨Int.mul_nonneg (by omega) m0, by show unit * m ≤ _; omega⟩, by show 1 ≤ ds.length; omega, by show (ds.length : Int) ≤ _; omega, pl8, ql8, by show (scs.length : Int) ≤ _; omega, hds, hpl, hqs, hsc, pu, qu, by show Unlike (scs.map _); rw [hsn]; exact no.unl⟩, rfl, rfl⟩
def VCase (b : Book) (os : List (Option Int)) : Prop := ∀ o ∈ os, ∀ d, o = some d → 0 ≤ d ∧ d < b.days.length
section
variable {b : Book} {st : Sto} {s : Scene} {p : Place} {q : Player} {os : List (Option Int)}
theorem ix_b0 : ixW (.d b.t) (.d (.int 0)) st = .ok (.d (.int b.crew)) st := rfl
theorem ix_b1 : ixW (.d b.t) (.d (.int 1)) st = .ok (.d (.int b.move)) st := rfl
theorem ix_b2 : ixW (.d b.t) (.d (.int 2)) st = .ok (.d (.tup (b.days.map dayT))) st := rfl
theorem ix_b3 : ixW (.d b.t) (.d (.int 3)) st = .ok (.d (.tup (b.places.map Place.t))) st := rfl
theorem ix_b4 : ixW (.d b.t) (.d (.int 4)) st = .ok (.d (.tup (b.players.map Player.t))) st := rfl
theorem ix_b5 : ixW (.d b.t) (.d (.int 5)) st = .ok (.d (.tup (b.scenes.map Scene.t))) st := rfl
theorem ix_s0 : ixW (.d s.t) (.d (.int 0)) st = .ok (.d (.str s.name)) st := rfl
theorem ix_s1 : ixW (.d s.t) (.d (.int 1)) st = .ok (.d (.str s.place)) st := rfl
theorem ix_s4 : ixW (.d s.t) (.d (.int 4)) st = .ok (.d (.tup (s.cast.map T.str))) st := rfl
theorem ix_p0 : ixW (.d p.t) (.d (.int 0)) st = .ok (.d (.str p.name)) st := rfl
theorem ix_q0 : ixW (.d q.t) (.d (.int 0)) st = .ok (.d (.str q.name)) st := rfl
theorem it_z {α β : Type} {f} {g : β → T} {l : List α} {m} : items .zp [.d (.tup (l.map f)), .d (.tup (m.map g))] st = some ((l.zip m).map fun z => .tup [f z.1, g z.2], []) := by
 show some _ = _
 rw [List.zip_map, List.map_map]
 rfl
theorem it_c : items .seq [.d (caseT os)] st = some (os.map optT, []) := rfl
theorem it_zc {α : Type} {f} {l : List α} : items .zp [.d (.tup (l.map f)), .d (caseT os)] st = some ((l.zip os).map fun z => .tup [f z.1, optT z.2], []) := it_z
end
theorem gq_0 : G0[0]? = some (.int 4) := rfl
theorem gq_1 : G0[1]? = some (.int 0) := rfl
theorem gq_15 : G0[15]? = some (.int 0) := rfl
theorem gq_16 : G0[16]? = some (.int 1) := rfl
theorem gq_17 : G0[17]? = some (.int 3) := rfl
theorem gq_18 : G0[18]? = some (.int 4) := rfl
theorem gq_20 : G0[20]? = some (.int 5) := rfl
theorem len_m {α β : Type} {f : α → β} {l : List α} : ((l.map f).length : Int) = l.length := by rw [List.length_map]
local macro_rules | `(tactic| walk_at "bq") => do { let ls ← ((I.ws (Hd.wsC ++ " kBin2 X_bin ix_b0 ix_b1 ix_b2 ix_b3 ix_b4 ix_b5 ix_s0 ix_s1 ix_s4 ix_p0 ix_q0 it_z it_c it_zc gq_0 gq_1 gq_15 gq_16 gq_17 gq_18 gq_20 len_m")).mapM fun n => `(Lean.Parser.Tactic.simpLemma| $(Lean.mkIdent n):term)); `(tactic| simp (disch := walk_at "dq") only [$[$ls:simpLemma],*, *]) }
theorem VCase.snoc {b : Book} {os : List (Option Int)} {o : Option Int} (h : VCase b os) (ho : ∀ d, o = some d → 0 ≤ d ∧ d < b.days.length) : VCase b (os ++ [o]) := all_snoc (P := fun (o : Option Int) => ∀ d, o = some d → 0 ≤ d ∧ d < b.days.length) h ho
structure Cs (b : Book) (os : List (Option Int)) : Prop where
 ok : BookOk 8 8 b
 len : os.length = b.scenes.length
 days : VCase b os
theorem Cs.d8 {os} (h : Cs b os) : b.days.length ≤ 8 := by have := h.ok.d2; omega
theorem Cs.s8 {os} (h : Cs b os) : b.scenes.length ≤ 8 := by have := h.ok.s8; omega
theorem Cs.z8 {os} (h : Cs b os) : (b.scenes.zip os).length ≤ 8 := by have := h.s8; rw [List.length_zip]; omega
def CaseQ (b : Book) (n : Nat) (v : T) (s' : R) : Prop := ∃ os, v = caseT os ∧ Cs b os ∧ Fu n s'
def CaseP (f : FW) : Prop := ∀ (s : R) (b : Book) (share : Int), BookOk 8 8 b → 0 < share → share ≤ 1000 → ∀ n, Fu (n + 16) s → RowX f [.d b.t, .d (.int share)] s (CaseQ b n)
theorem case_p (hT : TakeP (F 1)) : CaseP (runF F G0 d_l_case) := by
 intro s b share hb h0 h1 n hf k st h
 have hk := lt_of h
 have b1 := hb.d1
 have b2 := hb.d2
 have b3 := hb.s8
 rw [← ext_set h]
 refine run_ok rfl ?_
 unfold d_l_case
 walk_at "bq"
 generalize hX : evFor _ _ _ _ _ = X
 obtain ⟨_, _, ⟨os, r, x4, x5, rfl, rfl, ho, hv, c1⟩, rfl⟩ := for_ok hX (fun i ρ σ => ∃ (os : List _) (r : R) (x4 x5 : Option W), ρ = [some _, some _, some _, some _, x4, x5] ∧ σ = st.set k (rowS r) ++ [some (os.map optT)] ∧ os.length = i ∧ VCase b os ∧ Fu (2 * (b.scenes.length - i) + n) r) ⟨[], s, _, _, rfl, rfl, rfl, (by intro o ho; cases ho), hf.le (by omega)⟩ (by
  rintro i y ρ σ hy ⟨os, r, x4, x5, rfl, rfl, ho, hv, c1⟩
  obtain ⟨sc, hi, _, hl, rfl⟩ := map_i hy
  obtain ⟨d, r1, d0, d1, k1, e1, _⟩ := hT.b r b.days.length hk (c1.it hl)
  obtain ⟨z, r2, z0, z1, k2, e2, _⟩ := hT.b r1 _ hk k1
  have lm := len_lim (f := optT) (l := os) (by omega)
  refine step_ok rfl ?_
  by_cases hz : z = 0
  · walk_at "bq"
    exact ⟨_, _, rfl, rfl, os ++ [none], r2, _, _, rfl, by simp [optT], by simp [ho], hv.snoc (fun d z => nomatch z), k2⟩
  · walk_at "bq"
    exact ⟨_, _, rfl, rfl, os ++ [some d], r2, _, _, rfl, by simp [optT], by simp [ho], hv.snoc fun d z => by cases z; omega, k2⟩)
 rw [List.length_map] at ho c1
 walk_at "bq"
 exact ⟨_, _, rfl, _, r, rfl, rfl, os, rfl, ⟨hb, ho, hv⟩, c1.nd⟩
def LayP (f : FW) : Prop := ∀ (s : R) (b : Book), BookOk 8 8 b → ∀ n, Fu (n + 20) s → RowX f [.d b.t] s (CaseQ b n)
theorem lay_p {F : FT} (hT : TakeP (F 1)) (hC : CaseP (F 33)) : LayP (runF F G0 d_l_laying) := by
 intro s b hb n hf k st h
 have hk := lt_of h
 have b1 := hb.d1
 have b2 := hb.d2
 have b3 := hb.s8
 rw [← ext_set h]
 refine run_ok rfl ?_
 unfold d_l_laying
 obtain ⟨w, r1, w0, w1, k1, _, e1⟩ := hT.b s 3 hk hf
 by_cases hw : w = 0
 · obtain ⟨u, r2, u0, u1, k2, e2, _⟩ := hT.b r1 3 hk k1
   obtain ⟨sh, s0, s1, hs⟩ : ∃ sh : Int, 0 < sh ∧ sh ≤ 1000 ∧ (if u = 0 then 9 else if u = 1 then 3 else 99) = sh := ⟨_, by split <;> (try split) <;> decide, by split <;> (try split) <;> decide, rfl⟩
   obtain ⟨_, r3, ⟨os, rfl, hv, c1⟩, e3⟩ := (hC r2 b sh hb s0 s1 n (k2.le (by omega))).a hk
   walk_at "bq"
   exact ⟨_, _, rfl, _, r3, rfl, rfl, os, rfl, hv, c1⟩
 · obtain ⟨f, r2, f0, f1, k2, _, e2⟩ := hT.b r1 b.days.length hk k1
   obtain ⟨g, r3, g0, g1, k3, _, e3⟩ := hT.b r2 b.days.length hk k2
   obtain ⟨u, r4, u0, u1, k4, e4, _⟩ := hT.b r3 2 hk k3
   obtain ⟨sh, s0, s1, hs⟩ : ∃ sh : Int, 0 < sh ∧ sh ≤ 1000 ∧ (if u = 0 then 4 else 99) = sh := ⟨_, by split <;> decide, by split <;> decide, rfl⟩
   walk_at "bq"
   generalize hX : evFor _ _ _ _ _ = X
   obtain ⟨_, _, ⟨os, r, x8, x9, rfl, rfl, ho, hv, c1⟩, rfl⟩ := for_ok hX (fun i ρ σ => ∃ (os : List (Option Int)) (r : R) (x8 x9 : Option W), ρ = [some (.ref k), some (.d b.t), some (.d (.int w)), some (.d (.int b.days.length)), some (.d (.int f)), some (.d (.int g)), some (.d (.int sh)), some (.ref st.length), x8, x9] ∧ σ = st.set k (rowS r) ++ [some (os.map optT)] ∧ os.length = i ∧ VCase b os ∧ Fu (2 * (b.scenes.length - i) + n) r) ⟨[], r4, none, none, rfl, rfl, rfl, (by intro o ho; cases ho), k4.le (by omega)⟩ (by
    rintro i y ρ σ hy ⟨os, r, x8, x9, rfl, rfl, ho, hv, c1⟩
    obtain ⟨hi, rfl⟩ := rng_i hy
    obtain ⟨p, r5, p0, p1, k5, e5, _⟩ := hT.b r 2 hk (c1.it hi)
    obtain ⟨z, r6, z0, z1, k6, e6, _⟩ := hT.b r5 sh hk k5
    have m1 := Int.emod_nonneg (f + (i : Int)) (show (b.days.length : Int) ≠ 0 by omega)
    have m2 := Int.emod_lt_of_pos (f + (i : Int)) (show (0 : Int) < b.days.length by omega)
    obtain ⟨d, d0, d1, hd⟩ : ∃ d : Int, 0 ≤ d ∧ d < b.days.length ∧ (if w - 1 = 0 then (f + (i : Int)) % b.days.length else if p = 0 then f else g) = d := ⟨_, by split <;> (try split) <;> omega, by split <;> (try split) <;> omega, rfl⟩
    have lm := len_lim (f := optT) (l := os) (by omega)
    refine step_ok rfl ?_
    by_cases hz : z = 0
    · walk_at "bq"
      exact ⟨_, _, rfl, rfl, os ++ [none], r6, _, _, rfl, by simp [optT], by simp [ho], hv.snoc (fun d z => nomatch z), k6⟩
    · walk_at "bq"
      exact ⟨_, _, rfl, rfl, os ++ [some d], r6, _, _, rfl, by simp [optT], by simp [ho], hv.snoc fun d z => by cases z; omega, k6⟩)
   rw [rng_len] at ho c1
   walk_at "bq"
   exact ⟨_, _, rfl, _, r, rfl, rfl, os, rfl, ⟨hb, ho, hv⟩, c1.nd⟩
theorem plain_tup {xs : List T} (h : plains xs = true) (hl : xs.length ≤ 1000) : plain (.tup xs) = true := by
 simp only [plain, h, decide_eq_true hl, Bool.and_self]
theorem bls_true (n : Nat) : blsT (List.replicate n (T.bl true)) = some (List.replicate n true) := by
 induction n with
 | zero => rfl
 | succ n ih => show (blsT _).map _ = _; rw [ih]; rfl
theorem b_all {n k} {st} (h : st[k]? = some (some (List.replicate n (T.bl true)))) : bfW .all [.ref k] st = .ok (.d (.bl true)) st := by
 have e : bfT .all [.lst (List.replicate n (T.bl true))] = (blsT _).map fun bs => T.bl _ := rfl
 simp only [bfW, looks, look, h, e, bls_true, Option.map_some]
 have : (List.replicate n true).all id = true := by induction n <;> simp
 rw [this]
 rfl
def WholeP (f : FW) : Prop := ∀ (st : Sto) (i : Int), f [.d (.int i)] st = .ok (.d (.bl true)) st
theorem whole_p : WholeP (runF F G0 d_l_whole) := by
 intro st i
 have h1 : isT .int (.int i) = true := rfl
 have h2 : isT .bool (.int i) = false := rfl
 rw [X_run rfl]
 unfold d_l_whole
 walk_at "wq"
def AlikeP (n : Nat) (f : FW) : Prop := ∀ (st : Sto) (t : T), plain t = true → dep t < n → f [.d t, .d t] st = .ok (.d (.bl true)) st
theorem alike_p {n} (hW : WholeP (F 45)) (hA : AlikeP n (F 57)) : AlikeP (n + 1) (runF F G0 d_l_alike) := by
 intro st t hp hd
 rw [X_run rfl]
 unfold d_l_alike
 cases t with
 | non =>
  have h1 : isT .tuple .non = false := rfl
  walk_at "wq"
 | bl b => exact absurd hp (by simp [plain])
 | int i =>
  have h1 : isT .tuple (.int i) = false := rfl
  have h2 : isT .str (.int i) = false := rfl
  have h3 := fun st => hW st i
  walk_at "wq"
 | str z =>
  have h1 : isT .tuple (.str z) = false := rfl
  have h2 : isT .str (.str z) = true := rfl
  walk_at "wq"
 | lst xs => exact absurd hp (by simp [plain])
 | ins _ => exact absurd hp (by simp [plain])
 | tup xs =>
  have h1 : isT .tuple (.tup xs) = true := rfl
  simp only [plain, Bool.and_eq_true, decide_eq_true_eq] at hp
  have hl := hp.2
  walk_at "wq"
  generalize hX : evComp _ _ _ _ _ = X
  obtain ⟨_, _, ⟨rfl, rfl⟩, rfl⟩ := comp_ok hX (fun i a σ => a = List.replicate i (T.bl true) ∧ st = σ) ⟨rfl, rfl⟩ (by
   rintro i x a σ hx ⟨rfl, rfl⟩
   obtain ⟨hi, rfl⟩ := rng_i hx
   have e1 : atI xs i = some xs[i] := at_nat (by omega) (by simp)
   have hx := plains_get hp.1 (List.getElem?_eq_getElem hi)
   have hy := deps_get (List.getElem?_eq_getElem hi)
   have A0 := fun st => hA st _ hx (by simp only [dep] at hd; omega)
   refine turn_ok' rfl ?_
   walk_at "wq"
   exact ⟨_, _, rfl, by rw [← List.replicate_succ, List.replicate_succ']; rfl, rfl⟩)
  rw [rng_len]
  have hb := b_all (n := xs.length) (st := st ++ [some _]) sa_get
  walk_at "wq"
structure HeadD (Ds : Nat → Option Dfn) : Prop where
 h0 : Ds 0 = some d_l_cell_at
 h1 : Ds 1 = some d_l_take
 h2 : Ds 2 = some d_l_some_days
 h3 : Ds 3 = some d_l_far
 h4 : Ds 4 = some d_l_days
 h5 : Ds 5 = some d_l_money
 h6 : Ds 6 = some d_l_names
 h7 : Ds 7 = some d_l_places
 h8 : Ds 8 = some d_l_players
 h9 : Ds 9 = some d_l_scene
 h11 : Ds 11 = some d_l_book
section
variable {Ds : Nat → Option Dfn} (H : HeadD Ds) (n : Nat)
include H
theorem HeadD.cell : CellP (run G0 Ds (n + 1) 0) := up H.h0 cell_p
theorem HeadD.take : TakeP (run G0 Ds (n + 1) 1) := up H.h1 take_p
theorem HeadD.far : FarP (run G0 Ds (n + 2) 3) := up H.h3 (far_p (H.take n))
theorem HeadD.money : MoneyP (run G0 Ds (n + 3) 5) := up H.h5 (money_p (H.take _) (H.far n))
theorem HeadD.some : SomeP (run G0 Ds (n + 2) 2) := up H.h2 (some_p (H.take n))
theorem HeadD.names : NamesP (run G0 Ds (n + 2) 6) := up H.h6 (names_p (H.take n))
theorem HeadD.book : BookP (run G0 Ds (n + 5) 11) := up H.h11 (book_p (H.cell _) (H.take _) (H.far _) (H.money _) (up H.h4 (days_p (H.take _))) (H.names _) (up H.h7 (places_p (H.take _) (H.money n) (H.some _) (H.names _))) (up H.h8 (players_p (H.take _) (H.far _) (H.money n) (H.some _) (H.names _))) (up H.h9 (scene_p (H.take _))))
end
theorem alike_l (h : Ds 45 = some d_l_whole) (h2 : Ds 57 = some d_l_alike) : ∀ (d n : Nat), AlikeP d (run G0 Ds (n + d + 1) 57)
 | 0, n => fun st t _ hd => absurd hd (Nat.not_lt_zero _)
 | d + 1, n => up h2 (alike_p (up h whole_p) (alike_l h h2 d n))
theorem comp_is {α : Type} {step} {f} {st} {X} {l : List α} (h : evComp [] step (l.map f) [] st = X) (g : α → Option T) (hp : ∀ a ∈ l, Wl (step (f a) st) fun o σ => o = g a ∧ st = σ) : X = .ok (l.filterMap g) st := by
 obtain ⟨_, _, ⟨rfl, rfl⟩, e⟩ := comp_ok h (fun i ys σ => ys = (l.take i).filterMap g ∧ st = σ) ⟨rfl, rfl⟩ (by
  rintro i x a σ hx ⟨rfl, rfl⟩
  obtain ⟨a, hi, hm, hl, rfl⟩ := map_i hx
  obtain ⟨o, σ, e, rfl, rfl⟩ := hp a hm
  exact ⟨_, _, e, by rw [take_i hi, List.filterMap_append]; rfl, rfl⟩)
 simp_all
theorem for_fd {step} {st} (P : Rho → Prop) (Q : T → Prop) (R : W → Prop) : ∀ {xs} {ρ} {X}, evFor [] step xs ρ st = X → P ρ → (∃ x ∈ xs, Q x) → (∀ x ∈ xs, ∀ ρ, P ρ → Wl (step x ρ st) fun o σ => st = σ ∧ (¬ Q x ∧ o.1 = .nx ∧ P o.2 ∨ ∃ w, o.1 = .rt w ∧ R w)) → ∃ w ρ', R w ∧ X = .ok (.rt w, ρ') st
 | [], _, _, _, _, ⟨_, h, _⟩, _ => nomatch h
 | x :: xs, ρ, _, h, p, ⟨y, hy, q⟩, hp => by
  obtain ⟨⟨f, ρ'⟩, _, e, rfl, h1⟩ := hp x List.mem_cons_self ρ p
  simp only [evFor] at h
  rw [e] at h
  rcases h1 with ⟨n, rfl, p'⟩ | ⟨w, rfl, r⟩
  · refine for_fd P Q R h p' ⟨y, ?_, q⟩ fun x hx => hp x (List.mem_cons_of_mem _ hx)
    rcases List.mem_cons.mp hy with rfl | hy
    · exact absurd q n
    · exact hy
  · exact ⟨w, ρ', r, h.symm⟩
def kLs2 (ys : List T) (st : Sto) : Res W := lscW ys st
def kLs (F : FT) (G : List T) (ix : List (Option Nat)) (t : Tg) (k : Ik) (ifs : List E) (el : E) (ρ : Rho) (ws : List W) (st : Sto) : Res W := match items k ws st with
 | some (xs, gs) => if xs.length ≤ 1000 then (evComp gs (stepE F G ix t ifs el ρ) xs [] st).bind kLs2 else .bad
 | none => .bad
def kGt2 (ys : List T) (st : Sto) : Res W := .ok (.d (.tup ys)) st
def kGt (F : FT) (G : List T) (ix : List (Option Nat)) (t : Tg) (k : Ik) (ifs : List E) (el : E) (ρ : Rho) (ws : List W) (st : Sto) : Res W := match items k ws st with
 | some (xs, gs) => if xs.length ≤ LIM then (evComp gs (stepE F G ix t ifs el ρ) xs [] st).bind kGt2 else .bad
 | none => .bad
theorem ints_map : ∀ ns, intsT (ns.map T.int) = some ns
 | [] => rfl
 | n :: ns => by
  show (intsT _).map _ = _
  rw [ints_map ns]; rfl
theorem any_str (p : Str) : ∀ cs : List _, ((cs.map T.str).any fun y => eqT y (.str p)) = decide (p ∈ cs)
 | [] => rfl
 | c :: cs => by
  rw [List.map_cons, List.any_cons, any_str p cs]
  show (c == p || _) = _
  rw [Bool.beq_eq_decide_eq, ← Bool.decide_or]
  congr 1
  rw [List.mem_cons, @eq_comm _ p c]
section
variable {F : FT} {G : List T} {st : Sto} {ρ : Rho} {N : List Str} {ix : List (Option Nat)} {t : Tg} {k : Ik} {src ifs : List E} {el : E}
theorem kBin2n : kBin2 o x y st = binW o x y st := Eq.trans rfl rfl
theorem X_binn : evE F G (.bin o a b) ρ st = (evE F G a ρ st).bind (kBin1 F G o b ρ) := Eq.trans rfl rfl
theorem X_gt : evE F G (.gen .tuple N ix t k src ifs el) ρ st = (evEs F G src ρ st).bind (kGt F G ix t k ifs el ρ) := rfl
theorem lsc_i : lscW (ns.map T.int) st = .ok (.d (.int (setI ns).length)) st := by
 unfold lscW
 rw [ints_map]
theorem ss_l (h : ns.length < 63) : ssW (.d (.lst (ns.map T.int))) st = .ok (.ref st.length) (st ++ [some ((setI ns).map T.int)]) := by
 show (match intsT _ with | some ns => if ns.length < 63 then fresh _ st else .bad | none => .bad) = _
 rw [ints_map]
 exact if_pos h
theorem l_th {α : Type} {a b : α} {xs : List T} (h : xs.length ≤ 1000) : (if xs.length ≤ 1000 then a else b) = a := if_pos h
theorem o_n : optT none = .non := rfl
theorem o_s {d : Int} : optT (some d) = .int d := rfl
theorem it_eT {xs : List T} : items .enm [.d (.tup xs)] st = some (xs.zipIdx.map fun q => .tup [.int q.2, q.1], []) := rfl
theorem w_mem {cs : List _} : cmpW .mem (.d (.str p)) (.d (.tup (cs.map T.str))) st = .ok (.d (.bl (decide (p ∈ cs)))) st := cmp_d (by
 show (if flatT _ && (cs.map _).all _ then some _ else none) = _
 rw [any_str, List.all_map, show cs.all (flatT ∘ T.str) = true from List.all_eq_true.mpr fun _ _ => rfl]
 rfl)
theorem w_eqo : cmpW .eq (.d (optT o)) (.d (.int d)) st = .ok (.d (.bl (decide (o = some d)))) st := by
 cases o with
 | none => rfl
 | some e =>
  rw [show decide _ = decide (e = d) by simp]
  exact w_eq
end
local macro_rules | `(tactic| walk_at "cq") => do { let ls ← ((I.ws (Hd.wsC ++ " kBin2n X_binn ix_b0 ix_b1 ix_b2 ix_b3 ix_b4 ix_b5 ix_s0 ix_s1 ix_s4 ix_p0 ix_q0 it_z it_c it_zc gq_0 gq_1 gq_15 gq_16 gq_17 gq_18 gq_20 len_m kLs kLs2 X_gt kGt kGt2 lsc_i w_mem w_eqo o_n o_s ss_l it_eT l_th List.all_cons List.all_nil Bool.and_self and_true")).mapM fun n => `(Lean.Parser.Tactic.simpLemma| $(Lean.mkIdent n):term)); `(tactic| simp (disch := walk_at "dq") only [$[$ls:simpLemma],*, *]) }
theorem fm_if {α β : Type} (h : α → Bool) (f : α → β) : ∀ l : List α, l.filterMap (fun x => if h x then some (f x) else none) = (l.filter h).map f
 | [] => rfl
 | x :: l => by
  rw [List.filterMap_cons, List.filter_cons, fm_if h f l]
  cases h x <;> rfl
def dayS (zs : List (Scene × Option Int)) (d : Int) : List Scene := zs.filterMap fun z => if z.2 = some d then some z.1 else none
def dsOf (P : Scene → Bool) (zs : List (Scene × Option Int)) : List Int := zs.filterMap fun z => if P z.1 then z.2 else none
theorem day_len : (dayS zs d).length ≤ zs.length := List.length_filterMap_le _ _
def ThereP (f : FW) : Prop := ∀ (st : Sto) (b : Book) (os : List (Option Int)) (d : Int), Cs b os → f [.d b.t, .d (caseT os), .d (.int d)] st = .ok (.d (.lst ((dayS (b.scenes.zip os) d).map Scene.t))) st
theorem there_p : ThereP (runF F G0 d_l_there) := by
 intro st b os d h
 have hz := h.z8
 rw [X_run rfl]
 unfold d_l_there
 walk_at "cq"
 generalize hX : evComp _ _ _ _ _ = X
 have e := comp_is hX (fun z => if z.2 = some d then some z.1.t else none) (by
  rintro ⟨s, o⟩ _
  refine turn_ok' rfl ?_
  by_cases ho : o = some d
  · have := decide_eq_true ho
    rw [if_pos ho]
    clear ho
    walk_at "cq"
    exact ⟨_, _, rfl, rfl, rfl⟩
  · walk_at "cq"
    exact ⟨_, _, rfl, rfl, rfl⟩)
 have e2 : (b.scenes.zip os).filterMap (fun z => if z.2 = some d then some z.1.t else none) = (dayS (b.scenes.zip os) d).map Scene.t := by
  unfold dayS
  rw [List.map_filterMap]
  simp
 walk_at "cq"
def NumP (f : FW) : Prop := ∀ (α : Type) (l : List α) (row : α → T) (nm : α → Str), (∀ a st, ixW (.d (row a)) (.d (.int 0)) st = .ok (.d (.str (nm a))) st) → ∀ a ∈ l, ∀ st, ∃ i x, l[i]? = some x ∧ nm x = nm a ∧ f [.d (.tup (l.map row)), .d (.str (nm a))] st = .ok (.d (.int (i : Nat))) st
theorem num_p {F : FT} : NumP (runF F G0 d_number_at) := by
 intro α l row nm hr a ha st
 obtain ⟨n, hn⟩ : ∃ n, nm a = n := ⟨_, rfl⟩
 obtain ⟨j, hj, hja⟩ := List.mem_iff_getElem.mp ha
 rw [hn, X_run rfl]
 have zi : ∀ x, x ∈ ((l.map row).zipIdx.map fun q => T.tup [.int (q.2 : Nat), q.1]) → ∃ (i : Nat) (a : α), l[i]? = some a ∧ x = .tup [.int i, row a] := by
  intro x hx
  obtain ⟨⟨t, i⟩, hq, rfl⟩ := List.mem_map.mp hx
  obtain ⟨c, h1, _, _, h2⟩ := map_i (List.mk_mem_zipIdx_iff_getElem?.mp hq)
  exact ⟨i, c, h1, by rw [h2]⟩
 unfold d_number_at
 walk_at "cq"
 generalize hX : evFor _ _ _ _ _ = X
 obtain ⟨w, ρ', ⟨i, x, h1, h2, rfl⟩, rfl⟩ := for_fd (fun ρ => ∃ x2 x3, ρ = [some _, some _, x2, x3]) (fun x => x = .tup [.int j, row a]) (fun w => ∃ (i : Nat) (x : α), l[i]? = some x ∧ nm x = n ∧ w = .d (.int i)) hX ⟨_, _, rfl⟩ ⟨_, List.mem_map.mpr ⟨_, List.mk_mem_zipIdx_iff_getElem?.mpr (by simp_all), rfl⟩, rfl⟩ (by
  rintro x hx _ ⟨x2, x3, rfl⟩
  obtain ⟨i, c, hi, rfl⟩ := zi x hx
  refine step_ok rfl ?_
  by_cases hc : nm c = n
  · walk_at "cq"
    exact ⟨_, _, rfl, rfl, .inr ⟨_, rfl, i, c, hi, hc, rfl⟩⟩
  · walk_at "cq"
    refine ⟨_, _, rfl, rfl, .inl ⟨?_, rfl, _, _, rfl⟩⟩
    intro e
    have hij : i = j := by injection e with e; injection e with e _; injection e with e; omega
    simp_all)
 refine ⟨i, x, h1, h2, ?_⟩
 walk_at "cq"
theorem unl_one {α : Type} {l : List α} {nm} (hu : Unlike (l.map nm)) {i j : Nat} {a c} (hi : l[i]? = some a) (hj : l[j]? = some c) (h : nm a = nm c) : a = c := by
 obtain ⟨i1, i2⟩ := List.getElem?_eq_some_iff.mp hi
 obtain ⟨j1, j2⟩ := List.getElem?_eq_some_iff.mp hj
 obtain rfl : i = j := hu i j (by simp_all) (by simp_all) (by simp_all)
 rw [← i2, ← j2]
theorem row_at {α : Type} {l : List α} {row : α → T} {i : Nat} {a} (h : l[i]? = some a) : atI (l.map row) i = some (row a) := at_nat (by omega) (by simp_all)
theorem lim1' (h : n ≤ 1000) : n ≤ LIM := Nat.le_trans h (by decide)
theorem fm_some {α β : Type} (f : α → β) : ∀ l : List α, l.filterMap (fun x => some (f x)) = l.map f
 := by simp
def kFs (ts : List T) (st : Sto) : Res W := match fmtsT ts with
 | some ys => if (ys.map (·.length)).sum ≤ LIM then .ok (.d (.str (ys.foldl (· ++ ·) Str.empty))) st else .bad
 | none => .bad
def ofI (i : Int) : Str := Str.ofString (toString i)
theorem ofI_ok {i : Int} (h0 : 0 ≤ i) (h1 : i < 10 ^ 99) : (ofI i).length ≤ 99 ∧ i.natAbs.log2 < 1920 := by
 obtain ⟨n, rfl⟩ : ∃ n : Nat, i = n := ⟨i.toNat, by omega⟩
 have hn : n < 10 ^ 99 := by omega
 constructor
 · unfold ofI
   rw [Str.ofString_eq_toList]
   show (List.toArray _).size ≤ 99
   rw [List.size_toArray, List.length_map]
   exact (Nat.length_repr_le_iff (n := n) (k := 99) (by decide)).mpr hn
 · show (n : Nat).log2 < 1920
   by_cases hz : n = 0
   · rw [hz]; decide
   · exact (Nat.log2_lt hz).mpr (Nat.lt_trans hn (by decide +kernel))
section
variable {F : FT} {G : List T} {st : Sto} {ρ : Rho} {s : Scene}
theorem X_fs {ps : List E} : evE F G (.fst ps) ρ st = (evTs F G ps ρ st).bind kFs := rfl
theorem gq_2 : G0[2]? = some (.int 2) := rfl
theorem gq_5 : G0[5]? = some (.int 2) := rfl
theorem gq_14 : G0[14]? = some (.int 1) := rfl
theorem gq_23 : G0[23]? = some (.int 3) := rfl
theorem ix_s2 : ixW (.d s.t) (.d (.int 2)) st = .ok (.d (.int s.length)) st := rfl
theorem ix_s3 : ixW (.d s.t) (.d (.int 3)) st = .ok (.d (.str s.word)) st := rfl
theorem b_lstr {xs : List T} : bfW .list [.d (.lst xs)] st = .ok (.ref st.length) (st ++ [some xs]) := rfl
theorem b_sts {z : Str} : bfW .str [.d (.str z)] st = .ok (.d (.str z)) st := rfl
theorem b_sti {i : Int} (h : i.natAbs.log2 < 1920) : bfW .str [.d (.int i)] st = .ok (.d (.str (ofI i))) st := by
 show (match (if i.natAbs.log2 < 1920 then some (T.str (ofI i)) else none) with | some t => fresh t st | none => .bad) = _
 rw [if_pos h]
 rfl
end
local macro_rules | `(tactic| walk_at "eq") => do { let ls ← ((I.ws (Hd.wsC ++ " kBin2n X_binn kTrg X_trg ix_b0 ix_b1 ix_b2 ix_b3 ix_b4 ix_b5 ix_s0 ix_s1 ix_s4 ix_p0 ix_q0 it_z it_c it_zc gq_0 gq_1 gq_15 gq_16 gq_17 gq_18 gq_20 len_m kLs kLs2 X_gt kGt kGt2 lsc_i w_mem w_eqo o_n o_s ss_l it_eT l_th List.all_cons List.all_nil Bool.and_self and_true gq_2 gq_5 gq_14 gq_23 ix_s2 ix_s3 b_lstr and_self true_and X_fs b_sti b_sts")).mapM fun n => `(Lean.Parser.Tactic.simpLemma| $(Lean.mkIdent n):term)); `(tactic| simp (disch := walk_at "dq") only [$[$ls:simpLemma],*, *]) }
def dayN (ss : List Scene) : T := .tup (ss.map fun s => .str s.name)
def planT (pl : List (List Scene)) : T := .tup (pl.map dayN)
def DayIn (b : Book) (ss : List Scene) : Prop := ss.length ≤ 8 ∧ ∀ s ∈ ss, s ∈ b.scenes
def PlanOf (b : Book) (os : List (Option Int)) (pl : List (List Scene)) : Prop := ∀ (d : Nat) ss, pl[d]? = some ss → ss.Perm (dayS (b.scenes.zip os) d)
def PlanQ (b : Book) (n : Nat) (v : T) (s' : R) : Prop := ∃ pl os, v = planT pl ∧ pl.length = b.days.length ∧ Cs b os ∧ PlanOf b os pl ∧ Fu n s'
def PlanP (f : FW) : Prop := ∀ (s : R) (b : Book) (os : List (Option Int)), Cs b os → ∀ n, Fu (n + 64) s → RowX f [.d b.t, .d (caseT os)] s (PlanQ b n)
theorem day_in {b : Book} {os} {d} {s} (h : s ∈ dayS (b.scenes.zip os) d) : s ∈ b.scenes := by
 obtain ⟨z, hz, e⟩ := List.mem_filterMap.mp h
 split at e
 · cases e; exact (List.of_mem_zip hz).1
 · cases e
theorem plan_p {F : FT} (hT : TakeP (F 1)) (hH : ThereP (F 70)) : PlanP (runF F G0 d_l_plan_drawn) := by
 intro s b os h n hf k st hs
 have hk := lt_of hs
 have d8 := h.d8
 have z8 := h.z8
 rw [← ext_set hs]
 refine run_ok rfl ?_
 unfold d_l_plan_drawn
 walk_at "eq"
 generalize hX : evFor _ _ _ _ _ = X
 obtain ⟨_, _, ⟨pl, r, l, x4, x5, x6, rfl, rfl, hl, hp, c1⟩, rfl⟩ := for_ok hX (fun i ρ σ => ∃ (pl : List (List Scene)) (r : R) (l : Sto) (x4 x5 x6 : Option W), ρ = [some (.ref k), some (.d b.t), some (.d (caseT os)), some (.ref st.length), x4, x5, x6] ∧ σ = st.set k (rowS r) ++ some (pl.map dayN) :: l ∧ pl.length = i ∧ PlanOf b os pl ∧ Fu (8 * (b.days.length - i) + n) r) ⟨[], s, [], none, none, none, rfl, rfl, rfl, (by intro d ss h; cases h), hf.le (by omega)⟩ (by
  rintro i y _ _ hy ⟨pl, r, l, x4, x5, x6, rfl, rfl, hl, hp, c1⟩
  obtain ⟨hi, rfl⟩ := rng_i hy
  have c1 := c1.it hi
  generalize 8 * (b.days.length - (i + 1)) + n = m at *
  have H0 := fun st => hH st b os i h
  have l8 := Nat.le_trans (day_len (d := (i : Int))) z8
  have lm := len_lim (f := dayN) (l := pl) (by omega)
  generalize hds : dayS (b.scenes.zip os) (i : Int) = ds at *
  refine step_ok rfl ?_
  clear hX hy hH
  replace hds : Hid _ := hds
  replace hp : Hid _ := hp
  walk_at "eq"
  generalize hY : evFor _ _ _ _ _ = Y
  obtain ⟨_, _, ⟨ss, r2, x6, rfl, rfl, sl, si, c3⟩, rfl⟩ := for_ok hY (fun j ρ σ => ∃ (ss : List Scene) (r2 : R) (x6 : Option W), ρ = [some (.ref k), some (.d b.t), some (.d (caseT os)), some (.ref st.length), some (.d (.int i)), some (.ref (st.length + (l.length + 1))), x6] ∧ σ = st.set k (rowS r2) ++ some (pl.map dayN) :: (l ++ [some (ss.map fun s => .str s.name)]) ∧ ss.length = j ∧ ss.Perm (ds.take j) ∧ Fu (1 * (ds.length - j) + m) r2) ⟨[], r, x6, rfl, rfl, rfl, .nil, c1.le (by omega)⟩ (by
   rintro j y _ _ hy ⟨ss, r2, x6, rfl, rfl, sl, si, c3⟩
   obtain ⟨sc, hj, hm, hjl, rfl⟩ := map_i hy
   obtain ⟨v, r3, v0, v1, k3, e1, _⟩ := hT.b r2 ((j : Int) + 1) hk (c3.it hjl)
   have v2 : v ≤ (j : Int) := by omega
   have ln := len_lim (f := fun s : Scene => T.str s.name) (l := ss) (by omega)
   refine step_ok rfl ?_
   clear hY hy H0 hT
   replace hj : Hid _ := hj
   replace si : Hid _ := si
   walk_at "eq"
   refine ⟨_, _, rfl, rfl, ss.take v.toNat ++ sc :: ss.drop v.toNat, r3, _, rfl, by simp, by simp; omega, ?_, k3⟩
   rw [take_i (show ds[j]? = some sc from hj)]
   refine List.perm_middle.trans (((List.perm_cons sc).mpr ?_).trans (List.perm_append_singleton sc (ds.take j)).symm)
   rw [List.take_append_drop]
   exact si)
  rw [List.length_map] at sl c3
  clear hY H0 hT
  walk_at "eq"
  refine ⟨_, _, rfl, rfl, pl ++ [ss], r2, l ++ [some (ss.map fun s => .str s.name)], _, _, _, rfl, by simp [dayN], by simp [hl], fun d ss' hd => ?_, c3.nd⟩
  rcases Nat.lt_or_ge d pl.length with q | q
  · rw [List.getElem?_append_left q] at hd
    exact (show PlanOf b os pl from hp) d ss' hd
  · rw [List.getElem?_append_right q] at hd
    have e0 : d - pl.length = 0 := by have := (List.getElem?_eq_some_iff.mp hd).1; simp only [List.length_cons, List.length_nil] at this; omega
    rw [e0] at hd
    cases hd
    have e1 : d = i := by omega
    rw [e1, show dayS (b.scenes.zip os) (i : Int) = ds from hds]
    rw [List.length_map, List.take_length] at si
    exact si)
 rw [rng_len] at hl c1
 clear hX
 walk_at "eq"
 exact ⟨_, _, rfl, _, r, rfl, rfl, pl, os, rfl, hl, h, hp, c1.nd⟩
theorem plan_in {b : Book} {os : List (Option Int)} {pl : List (List Scene)} (h : Cs b os) (hp : PlanOf b os pl) : ∀ ss ∈ pl, DayIn b ss := fun ss hs => by
 obtain ⟨d, hd⟩ := List.mem_iff_getElem?.mp hs
 have p := hp d ss hd
 exact ⟨by rw [p.length_eq]; exact Nat.le_trans day_len h.z8, fun s hs => day_in (p.mem_iff.mp hs)⟩
def AnyP (f : FW) : Prop := ∀ (s : R) (b : Book), BookOk 8 8 b → ∀ n, Fu (n + 84) s → RowX f [.d b.t] s (PlanQ b n)
theorem any_p {F : FT} (hL : LayP (F 62)) (hP : PlanP (F 151)) : AnyP (runF F G0 d_l_any_plan) := by
 intro s b hb n hf k st hs
 have hk := lt_of hs
 rw [← ext_set hs]
 refine run_ok rfl ?_
 unfold d_l_any_plan
 obtain ⟨_, r1, ⟨os, rfl, h, c1⟩, e1⟩ := (hL s b hb (n + 64) hf).a hk
 obtain ⟨_, r2, ⟨pl, os2, rfl, h1, h2, h3, c3⟩, e2⟩ := (hP r1 b os h n c1).a hk
 walk_at "eq"
 exact ⟨_, _, rfl, _, r2, rfl, rfl, pl, os2, rfl, h1, h2, h3, c3⟩
def ScAtP (f : FW) : Prop := ∀ (st : Sto) (b : Book), BookOk 8 8 b → ∀ a ∈ b.scenes, ∃ i : Nat, b.scenes[i]? = some a ∧ f [.d b.t, .d (.str a.name)] st = .ok (.d (.int i)) st
theorem sc_at (hN : NumP (F 10)) : ScAtP (runF F G0 d_scene_at) := by
 intro st b hb a ha
 obtain ⟨i, x, h1, h2, e⟩ := hN _ _ Scene.t _ (fun _ _ => rfl) a ha st
 obtain ⟨j, hj⟩ := List.mem_iff_getElem?.mp ha
 cases unl_one hb.unl.2.2 h1 hj h2
 refine ⟨i, h1, ?_⟩
 rw [X_run rfl]
 unfold d_scene_at
 walk_at "eq"
def ScNmP (f : FW) : Prop := ∀ (st : Sto) (b : Book), BookOk 8 8 b → ∀ a ∈ b.scenes, f [.d b.t, .d (.str a.name)] st = .ok (.d a.t) st
theorem sc_nm (hA : ScAtP (F 12)) : ScNmP (runF F G0 d_scene_named) := by
 intro st b hb a ha
 obtain ⟨i, h1, e⟩ := hA st b hb a ha
 have := row_at (row := Scene.t) h1
 rw [X_run rfl]
 unfold d_scene_named
 walk_at "eq"
abbrev Tm := Scene × Int × Int
def rowT (r : Tm) : T := .tup [.str r.1.name, .int r.2.1, .int r.2.2]
def startOf (b : Book) (dy : Int × Int) (s : Scene) (o : Option Tm) : Int :=
 let x := match o with
  | some a => if a.1.place = s.place then a.2.2 else a.2.2 + b.move
  | none => 0
 if s.word = "moon" then (if dy.2 > x then dy.2 else x) else x
def tstep (b : Book) (dy : Int × Int) (acc : List Tm) (s : Scene) : List Tm := acc ++ [(s, startOf b dy s acc.getLast?, startOf b dy s acc.getLast? + s.length)]
def tmd (b : Book) (dy : Int × Int) (ss : List Scene) : List Tm := ss.foldl (tstep b dy) []
theorem tmd_snoc {b : Book} {dy : Int × Int} {ss : List Scene} {s : Scene} : tmd b dy (ss ++ [s]) = tstep b dy (tmd b dy ss) s := by unfold tmd; rw [List.foldl_append]; rfl
theorem snoc_ind {α : Type} {P : List α → Prop} (h0 : P []) (h1 : ∀ l a, P l → P (l ++ [a])) (l : List α) : P l := by
 rw [← List.reverse_reverse l]
 induction l.reverse with
 | nil => exact h0
 | cons a r ih => rw [List.reverse_cons]; exact h1 _ _ ih
theorem tmd_fst (b : Book) (dy : Int × Int) (ss : List Scene) : (tmd b dy ss).map (·.1) = ss := by
 refine snoc_ind (P := fun ss => (tmd b dy ss).map (·.1) = ss) rfl (fun l s ih => ?_) ss
 rw [tmd_snoc]
 unfold tstep
 rw [List.map_append, ih]
 rfl
theorem tmd_len (b : Book) (dy : Int × Int) (ss : List Scene) : (tmd b dy ss).length = ss.length := by
 have := congrArg List.length (tmd_fst b dy ss)
 rwa [List.length_map] at this
def endT : Option Tm → Int
 | some a => a.2.2
 | none => 0
def aheadT : Option Tm → T
 | some a => a.1.t
 | none => .non
theorem aheadT_s {a : Tm} : aheadT (some a) = a.1.t := rfl
theorem endT_s {a : Tm} : endT (some a) = a.2.2 := rfl
theorem start_ok {b : Book} {dy : Int × Int} {s : Scene} {o : Option Tm} (hb : BookOk 8 8 b) (hd : DayOk dy) (h0 : 0 ≤ endT o) : 0 ≤ startOf b dy s o ∧ startOf b dy s o ≤ endT o + 2 * 10 ^ 12 := by
 have m0 := hb.move
 obtain ⟨d0, d1, d2, d3⟩ := hd
 unfold startOf
 cases o with
 | none =>
  have h0 : (0 : Int) ≤ 0 := h0
  show _ ∧ _ ≤ (0 : Int) + _
  dsimp only
  split
  · split <;> omega
  · omega
 | some a =>
  have h0 : (0 : Int) ≤ a.2.2 := h0
  show _ ∧ _ ≤ (a.2.2 : Int) + _
  dsimp only
  split <;> split <;> (try split) <;> omega
theorem tmd_ok {b : Book} {dy : Int × Int} (hb : BookOk 8 8 b) (hd : DayOk dy) (ss : List Scene) (hs : ∀ s ∈ ss, s ∈ b.scenes) : (∀ r ∈ tmd b dy ss, r.1 ∈ b.scenes ∧ 0 ≤ r.2.1 ∧ 0 ≤ r.2.2 ∧ r.2.1 ≤ 3 * 10 ^ 12 * ss.length ∧ r.2.2 ≤ 3 * 10 ^ 12 * ss.length) ∧ 0 ≤ endT (tmd b dy ss).getLast? ∧ endT (tmd b dy ss).getLast? ≤ 3 * 10 ^ 12 * ss.length := by
 refine snoc_ind (P := fun ss => (∀ s ∈ ss, s ∈ b.scenes) → (∀ r ∈ tmd b dy ss, r.1 ∈ b.scenes ∧ 0 ≤ r.2.1 ∧ 0 ≤ r.2.2 ∧ r.2.1 ≤ 3 * 10 ^ 12 * ss.length ∧ r.2.2 ≤ 3 * 10 ^ 12 * ss.length) ∧ 0 ≤ endT (tmd b dy ss).getLast? ∧ endT (tmd b dy ss).getLast? ≤ 3 * 10 ^ 12 * ss.length) (fun _ => ⟨(fun r h => nomatch h), Int.le_refl 0, Int.le_refl 0⟩) (fun l s ih hs => ?_) ss hs
 obtain ⟨h1, h2, h3⟩ := ih fun s h => hs s (List.mem_append_left _ h)
 have hm := hs s (List.mem_append_right _ List.mem_cons_self)
 obtain ⟨_, _, s0, s1, _⟩ := hb.scenes s hm
 obtain ⟨a0, a1⟩ := start_ok (s := s) hb hd h2
 rw [tmd_snoc]
 unfold tstep
 generalize startOf b dy s (tmd b dy l).getLast? = x at *
 rw [List.length_append, List.length_singleton, List.getLast?_concat]
 have e : ((l.length + 1 : Nat) : Int) = l.length + 1 := by omega
 rw [e]
 refine ⟨fun r hr => ?_, by show 0 ≤ x + s.length; omega, by show x + s.length ≤ _; omega⟩
 rcases List.mem_append.mp hr with q | q
 · obtain ⟨c0, c1, c2, c3, c4⟩ := h1 r q
   exact ⟨c0, c1, c2, by omega, by omega⟩
 · cases List.mem_singleton.mp q
   exact ⟨hm, a0, by show 0 ≤ x + s.length; omega, by show x ≤ _; omega, by show x + s.length ≤ _; omega⟩
theorem day_at {b : Book} {d : Nat} {dy : Int × Int} (h : b.days[d]? = some dy) : atI (b.days.map dayT) (d : Int) = some (.tup [.int dy.1, .int dy.2]) := row_at (row := dayT) h
def StartP (f : FW) : Prop := ∀ (st : Sto) (b : Book) (d : Nat) (dy : Int × Int) (s : Scene) (o : Option Tm), b.days[d]? = some dy → f [.d b.t, .d (.int d), .d s.t, .d (aheadT o), .d (.int (endT o))] st = .ok (.d (.int (startOf b dy s o))) st
theorem start_p : StartP (runF F G0 d_start_behind) := by
 intro st b d dy s o h
 have D0 := day_at h
 unfold d_start_behind startOf
 cases o with
 | none =>
  show (evSs F G0 _ ([.d _, .d _, .d _, .d .non, .d (.int 0)].map some ++ _) st).bind _ = _
  by_cases hw : s.word = "moon" <;> (walk_at "eq")
 | some a =>
  obtain ⟨⟨nm, pl, ln, wd, ct⟩, x, e⟩ := a
  show (evSs F G0 _ ([.d _, .d _, .d _, .d (.tup _), .d (.int e)].map some ++ _) st).bind _ = _
  by_cases hp : pl = s.place <;> by_cases hw : s.word = "moon" <;> (walk_at "eq")
def TimedP (f : FW) : Prop := ∀ (st : Sto) (b : Book) (d : Nat) (dy : Int × Int) (ss : List Scene), BookOk 8 8 b → b.days[d]? = some dy → DayIn b ss → f [.d b.t, .d (.int d), .d (dayN ss)] st = .ok (.d (.tup ((tmd b dy ss).map rowT))) st
theorem timed_p {F : FT} (hS : StartP (F 13)) (hN : ScNmP (F 14)) : TimedP (runF F G0 d_timed) := by
 intro st b d dy ss hb hd hi
 have h8 := hi.1
 unfold dayN
 rw [X_run rfl]
 unfold d_timed
 walk_at "eq"
 generalize hX : evFor _ _ _ _ _ = X
 obtain ⟨_, _, ⟨x6, x7, x8, rfl, rfl⟩, rfl⟩ := for_ok hX (fun i ρ σ => ∃ x6 x7 x8, ρ = [some (.d b.t), some (.d (.int d)), some (.d (.tup (ss.map fun s => .str s.name))), some (.ref st.length), some (.d (aheadT (tmd b dy (ss.take i)).getLast?)), some (.d (.int (endT (tmd b dy (ss.take i)).getLast?))), x6, x7, x8] ∧ σ = st ++ [some ((tmd b dy (ss.take i)).map rowT)]) ⟨none, none, none, rfl, rfl⟩ (by
  rintro i y _ _ hy ⟨x6, x7, x8, rfl, rfl⟩
  obtain ⟨s, hi2, hm, hl, rfl⟩ := map_i hy
  have N0 := fun st => hN st b hb s (hi.2 s hm)
  have lm := len_lim (f := rowT) (l := tmd b dy (ss.take i)) (by rw [tmd_len, List.length_take]; omega)
  rw [take_i hi2, tmd_snoc]
  generalize tmd b dy (ss.take i) = acc at *
  have S0 := fun st => hS st b d dy s acc.getLast? hd
  unfold tstep
  rw [List.getLast?_concat, List.map_append]
  refine step_ok rfl ?_
  clear hX hy hN hS hi2
  rw [aheadT_s, endT_s]
  dsimp only
  generalize startOf b dy s acc.getLast? = z at *
  generalize aheadT acc.getLast? = ah at *
  generalize endT acc.getLast? = en at *
  walk_at "eq"
  exact ⟨_, _, rfl, rfl, _, _, _, rfl, rfl⟩)
 rw [List.length_map, List.take_length]
 clear hX
 walk_at "eq"
def EndsP (f : FW) : Prop := ∀ (st : Sto) (b : Book) (d : Nat) (dy : Int × Int) (ss : List Scene), BookOk 8 8 b → b.days[d]? = some dy → ss.length ≤ 8 → f [.d b.t, .d (.int d), .d (.lst (ss.map Scene.t))] st = .ok (.ref st.length) (st ++ [some ((tmd b dy ss).map rowT)])
theorem sc_ix {ss : List Scene} {i : Nat} {s : Scene} {st : Sto} (h : ss[i]? = some s) : ixW (.d (.lst (ss.map Scene.t))) (.d (.int i)) st = .ok (.d s.t) st := by
 rw [w_ixl, row_at h]
 rfl
theorem ends_p {F : FT} : EndsP (runF F G0 d_l_ends) := by
 intro st b d dy ss hb hd h8
 have D0 := day_at hd
 rw [X_run rfl]
 unfold d_l_ends
 walk_at "eq"
 generalize hX : evFor _ _ _ _ _ = X
 obtain ⟨_, _, ⟨x5, x6, rfl, rfl⟩, rfl⟩ := for_ok hX (fun i ρ σ => ∃ x5 x6, ρ = [some (.d b.t), some (.d (.int d)), some (.d (.lst (ss.map Scene.t))), some (.ref st.length), some (.d (.int (endT (tmd b dy (ss.take i)).getLast?))), x5, x6] ∧ σ = st ++ [some ((tmd b dy (ss.take i)).map rowT)]) ⟨none, none, rfl, rfl⟩ (by
  rintro i y _ _ hy ⟨x5, x6, rfl, rfl⟩
  obtain ⟨hi, rfl⟩ := rng_i hy
  obtain ⟨s, hi2⟩ : ∃ s, ss[i]? = some s := ⟨_, List.getElem?_eq_getElem hi⟩
  have I0 := fun st => sc_ix (st := st) hi2
  have lm := len_lim (f := rowT) (l := tmd b dy (ss.take i)) (by rw [tmd_len, List.length_take]; omega)
  have hf := tmd_fst b dy (ss.take i)
  have hg := tmd_len b dy (ss.take i)
  rw [List.length_take] at hg
  rw [take_i hi2, tmd_snoc]
  generalize tmd b dy (ss.take i) = acc at *
  unfold tstep
  rw [List.getLast?_concat, List.map_append]
  rw [endT_s]
  dsimp only
  refine step_ok rfl ?_
  clear hX hy hd
  rcases Nat.eq_zero_or_pos i with h0 | h0
  · cases List.length_eq_zero_iff.mp (by omega : acc.length = 0)
    have e0 : startOf b dy s ([] : List Tm).getLast? = if s.word = "moon" then (if dy.2 > 0 then dy.2 else 0) else 0 := rfl
    have e1 : endT ([] : List Tm).getLast? = 0 := rfl
    have g0 : ((i : Int) > 0) = False := eq_false (by omega)
    rw [e0, e1]
    clear hf hg lm e0 e1 hi hi2 h0
    by_cases hw : s.word = "moon" <;> by_cases hx : dy.2 > 0 <;> (walk_at "eq"; exact ⟨_, _, rfl, rfl, _, _, rfl, by rw [sa_takeN]; rfl⟩)
  · obtain ⟨r, hr⟩ : ∃ r, acc.getLast? = some r := by
     cases h : acc.getLast? with
     | none => rw [List.getLast?_eq_none_iff.mp h] at hg; have : (0 : Nat) = min i ss.length := hg; omega
     | some r => exact ⟨r, rfl⟩
    have hj : ss[i - 1]? = some r.1 := by
     have := congrArg List.getLast? hf
     rw [List.getLast?_map, hr, List.getLast?_take, if_neg (by omega), List.getElem?_eq_getElem (by omega)] at this
     rw [List.getElem?_eq_getElem (by omega)]
     exact this.symm
    have I1 := fun st => sc_ix (st := st) hj
    rw [show ((i - 1 : Nat) : Int) = (i : Int) - 1 by omega] at I1
    have g0 : ((i : Int) > 0) = True := eq_true (by omega)
    rw [hr]
    have e0 : startOf b dy s (some r) = if s.word = "moon" then (if dy.2 > (if r.1.place = s.place then r.2.2 else r.2.2 + b.move) then dy.2 else (if r.1.place = s.place then r.2.2 else r.2.2 + b.move)) else (if r.1.place = s.place then r.2.2 else r.2.2 + b.move) := rfl
    rw [e0, endT_s]
    clear hf hg hr e0 hi hi2 hj h0
    generalize r.2.2 = en at *
    generalize r.1 = q at *
    obtain ⟨x, hx⟩ : ∃ x, (if q.place = s.place then en else en + b.move) = x := ⟨_, rfl⟩
    rw [hx]
    by_cases hp : q.place = s.place
    · rw [if_pos hp] at hx
      have hp' : (s.place = q.place) = True := eq_true hp.symm
      by_cases hw : s.word = "moon" <;> by_cases hz : dy.2 > x <;> (walk_at "eq"; exact ⟨_, _, rfl, rfl, _, _, rfl, rfl⟩)
    · rw [if_neg hp] at hx
      have hp' : (s.place = q.place) = False := eq_false fun e => hp e.symm
      by_cases hw : s.word = "moon" <;> by_cases hz : dy.2 > x <;> (walk_at "eq"; exact ⟨_, _, rfl, rfl, _, _, rfl, rfl⟩))
 rw [rng_len, List.take_length]
 clear hX
 walk_at "eq"
theorem look_r' {st : Sto} {k : Nat} {xs : List T} (h : st[k]? = some (some xs)) : look (.ref k) st = some (.lst xs) := by simp only [look, h]
theorem w_addL {x y : W} {st : Sto} {xs ys : List T} (hx : look x st = some (.lst xs)) (hy : look y st = some (.lst ys)) (h : xs.length + ys.length ≤ 1000) : binW .add x y st = .ok (.ref st.length) (st ++ [some (xs ++ ys)]) := by
 unfold binW
 rw [hx, hy]
 show (match (if xs.length + ys.length ≤ LIM then some (T.lst (xs ++ ys)) else none) with | some t => fresh t st | none => .bad) = _
 rw [if_pos (lim1' h)]
 rfl
def wd : T → Str
 | .str z => z
 | .int i => ofI i
 | _ => ""
def WdOk (w : T) : Prop := (wd w).length ≤ 100 ∧ ∀ st, bfW .str [.d w] st = .ok (.d (.str (wd w))) st
theorem wd_s {z : Str} (h : z.length ≤ 100) : WdOk (.str z) := ⟨h, fun _ => rfl⟩
theorem wd_i {i : Int} (h0 : 0 ≤ i) (h1 : i < 10 ^ 99) : WdOk (.int i) := ⟨Nat.le_trans (ofI_ok h0 h1).1 (by decide), fun _ => b_sti (ofI_ok h0 h1).2⟩
theorem sum_le {α : Type} {f : α → Nat} {n : Nat} : ∀ {l : List α}, (∀ a ∈ l, f a ≤ n) → (l.map f).sum ≤ l.length * n
 | [], _ => Nat.zero_le _
 | a :: l, h => by
  rw [List.map_cons, List.sum_cons, List.length_cons, Nat.succ_mul]
  have := sum_le fun b hb => h b (List.mem_cons_of_mem a hb)
  have := h a List.mem_cons_self
  omega
theorem join_le {sep : Str} {ys : List Str} {n : Nat} (hn : ∀ y ∈ ys, y.length ≤ n) (hs : sep.length = 1) : (ys.map (·.length)).sum + ys.length * sep.length ≤ ys.length * (n + 1) ∧ (Txt.join sep ys).length ≤ ys.length * (n + 1) := by
 have h : (ys.map (fun y => y.length)).sum ≤ ys.length * n := sum_le hn
 rw [hs, Nat.mul_one, Nat.mul_succ]
 refine ⟨by omega, ?_⟩
 unfold Txt.join
 rw [size_glued, hs]
 omega
theorem sp1 : (" " : Str).length = 1 := by decide +kernel
theorem nl1 : ("\n" : Str).length = 1 := by decide +kernel
theorem w_join {sep : Str} {ys : List Str} {n m : Nat} {st : Sto} (hs : sep.length = 1) (hn : ∀ y ∈ ys, y.length ≤ n) (hm : ys.length ≤ m) (h : m * (n + 1) ≤ 1000000) : mtR .join (.d (.str sep)) [.lst (ys.map T.str)] st = .ok (.d (.str (Txt.join sep ys))) st := w_joinL (Nat.le_trans (join_le hn hs).1 (Nat.le_trans (Nat.mul_le_mul_right _ hm) h))
def dayLn (d : Nat) (dy : Int × Int) : Str := Txt.join " " ["day", ofI d, ofI dy.1, ofI dy.2]
def scLn (r : Tm) : Str := Txt.join " " (ofI r.2.1 :: ofI r.2.2 :: r.1.place :: r.1.name :: r.1.cast)
theorem dayLn_is (a b c : Str) : [("day " : Str), a, " ", b, " ", c].foldl (· ++ ·) Str.empty = Txt.join " " ["day", a, b, c] := by
 obtain ⟨a⟩ := a
 obtain ⟨b⟩ := b
 obtain ⟨c⟩ := c
 have e : ("day " : Str).cps = ("day" : Str).cps ++ (" " : Str).cps := by decide +kernel
 show (⟨((((((#[] : Array Nat) ++ ("day " : Str).cps) ++ a) ++ (" " : Str).cps) ++ b) ++ (" " : Str).cps) ++ c⟩ : Str) = ⟨((("day" : Str).cps ++ (" " : Str).cps ++ a) ++ (" " : Str).cps ++ b) ++ (" " : Str).cps ++ c⟩
 rw [e]
 simp only [Array.empty_append]
theorem day_ok {b : Book} {d : Nat} {dy : Int × Int} (hb : BookOk 8 8 b) (h : b.days[d]? = some dy) : DayOk dy ∧ d < 8 ∧ WdOk (.int d) ∧ WdOk (.int dy.1) ∧ WdOk (.int dy.2) := by
 obtain ⟨hl, e⟩ := List.getElem?_eq_some_iff.mp h
 have hd : DayOk dy := hb.days dy (e ▸ List.getElem_mem hl)
 have d2 := hb.d2
 obtain ⟨a0, a1, a2, a3⟩ := hd
 exact ⟨⟨a0, a1, a2, a3⟩, by omega, wd_i (by omega) (by omega), wd_i a0 (by omega), wd_i a2 (by omega)⟩
theorem sc_ok {b : Book} {s : Scene} (hb : BookOk 8 8 b) (h : s ∈ b.scenes) : s.place.length ≤ 100 ∧ s.name.length ≤ 100 ∧ s.cast.length ≤ 8 ∧ ∀ c ∈ s.cast, c.length ≤ 100 := by
 obtain ⟨a0, a1, _, _, _, a2, a3⟩ := hb.scenes s h
 have q8 := hb.q8
 obtain ⟨p, hp, e⟩ := List.mem_map.mp a1
 refine ⟨e ▸ (hb.places p hp).1, a0, by omega, fun c hc => ?_⟩
 obtain ⟨q, hq, e⟩ := List.mem_map.mp (a3 c hc)
 exact e ▸ (hb.players q hq).1
structure LnOk (b : Book) (r : Tm) : Prop where
 sc : r.1 ∈ b.scenes
 w1 : WdOk (.int r.2.1)
 w2 : WdOk (.int r.2.2)
theorem ln_ok {b : Book} {dy : Int × Int} {ss : List Scene} (hb : BookOk 8 8 b) (hd : DayOk dy) (hi : DayIn b ss) : ∀ r ∈ tmd b dy ss, LnOk b r := fun r hr => by
 obtain ⟨h1, h2, h3, h4, h5⟩ := (tmd_ok hb hd ss hi.2).1 r hr
 have := hi.1
 exact ⟨h1, wd_i h2 (by omega), wd_i h3 (by omega)⟩
theorem LnOk.words {b : Book} {r : Tm} (hb : BookOk 8 8 b) (h : LnOk b r) : (∀ y ∈ ofI r.2.1 :: ofI r.2.2 :: r.1.place :: r.1.name :: r.1.cast, y.length ≤ 100) ∧ (ofI r.2.1 :: ofI r.2.2 :: r.1.place :: r.1.name :: r.1.cast).length ≤ 12 := by
 obtain ⟨a0, a1, a2, a3⟩ := sc_ok hb h.sc
 have b1 : (ofI r.2.1).length ≤ 100 := h.w1.1
 have b2 : (ofI r.2.2).length ≤ 100 := h.w2.1
 refine ⟨fun y hy => ?_, by simp only [List.length_cons]; omega⟩
 simp only [List.mem_cons] at hy
 rcases hy with rfl | rfl | rfl | rfl | hy
 · exact b1
 · exact b2
 · exact a0
 · exact a1
 · exact a3 y hy
theorem scLn_le {b : Book} {r : Tm} (hb : BookOk 8 8 b) (h : LnOk b r) : (scLn r).length ≤ 1212 := by
 obtain ⟨h1, h2⟩ := h.words hb
 exact Nat.le_trans (join_le h1 sp1).2 (Nat.mul_le_mul_right 101 h2)
theorem dayLn_le {b : Book} {d : Nat} {dy : Int × Int} (hb : BookOk 8 8 b) (h : b.days[d]? = some dy) : (∀ y ∈ [("day" : Str), ofI d, ofI dy.1, ofI dy.2], y.length ≤ 100) ∧ (dayLn d dy).length ≤ 1212 := by
 obtain ⟨_, _, w1, w2, w3⟩ := day_ok hb h
 have h1 : ∀ y ∈ [("day" : Str), ofI d, ofI dy.1, ofI dy.2], y.length ≤ 100 := fun y hy => by
  simp only [List.mem_cons, List.not_mem_nil, or_false] at hy
  rcases hy with rfl | rfl | rfl | rfl
  · exact (by decide +kernel : ("day" : Str).length ≤ 100)
  · exact w1.1
  · exact w2.1
  · exact w3.1
 exact ⟨h1, Nat.le_trans (join_le h1 sp1).2 (by show 4 * 101 ≤ 1212; decide)⟩
def rowsOf (b : Book) (d : Nat) (dy : Int × Int) (ss : List Scene) : List Str := dayLn d dy :: (tmd b dy ss).map scLn
theorem rows_ok {b : Book} {d : Nat} {dy : Int × Int} {ss : List Scene} (hb : BookOk 8 8 b) (h : b.days[d]? = some dy) (hi : DayIn b ss) : (∀ y ∈ rowsOf b d dy ss, y.length ≤ 1212) ∧ (rowsOf b d dy ss).length ≤ 9 := by
 refine ⟨fun y hy => ?_, by unfold rowsOf; rw [List.length_cons, List.length_map, tmd_len]; have := hi.1; omega⟩
 rcases List.mem_cons.mp hy with rfl | hy
 · exact (dayLn_le hb h).2
 · obtain ⟨r, hr, rfl⟩ := List.mem_map.mp hy
   exact scLn_le hb (ln_ok hb (day_ok hb h).1 hi r hr)
def DayLP (f : FW) : Prop := ∀ (st : Sto) (b : Book) (d : Nat) (dy : Int × Int), BookOk 8 8 b → b.days[d]? = some dy → f [.d b.t, .d (.int d)] st = .ok (.d (.str (dayLn d dy))) st
theorem fs_day {a b c : Int} {st : Sto} (ha : 0 ≤ a ∧ a < 10 ^ 99) (hb : 0 ≤ b ∧ b < 10 ^ 99) (hc : 0 ≤ c ∧ c < 10 ^ 99) : kFs [.str "day ", .int a, .str " ", .int b, .str " ", .int c] st = .ok (.d (.str (Txt.join " " ["day", ofI a, ofI b, ofI c]))) st := by
 have l1 : ("day " : Str).length = 4 := by decide +kernel
 have l2 : (" " : Str).length = 1 := by decide +kernel
 have fs : ∀ {z : Str}, z.length ≤ LIM → fmtT (.str z) = some z := fun {z} h => by unfold fmtT; dsimp only; rw [if_pos h]
 have f1 : fmtT (.str "day ") = some ("day " : Str) := fs (by rw [l1]; decide)
 have f2 : fmtT (.str " ") = some (" " : Str) := fs (by rw [l2]; decide)
 have fi : ∀ {i : Int}, 0 ≤ i ∧ i < 10 ^ 99 → fmtT (.int i) = some (ofI i) := fun h => if_pos (ofI_ok h.1 h.2).2
 have e : fmtsT [.str "day ", .int a, .str " ", .int b, .str " ", .int c] = some [("day " : Str), ofI a, " ", ofI b, " ", ofI c] := by simp only [fmtsT, f1, f2, fi ha, fi hb, fi hc]
 unfold kFs
 rw [e, ← dayLn_is]
 have a1 := (ofI_ok ha.1 ha.2).1
 have b1 := (ofI_ok hb.1 hb.2).1
 have c1 := (ofI_ok hc.1 hc.2).1
 dsimp only
 rw [if_pos]
 simp only [List.map_cons, List.map_nil, List.sum_cons, List.sum_nil, l1, l2]
 exact Nat.le_trans (m := 1000) (by omega) (by decide)
theorem dayl_p {F : FT} : DayLP (runF F G0 d_day_line) := by
 intro st b d dy hb h
 have D0 := day_at h
 obtain ⟨⟨a0, a1, a2, a3⟩, d8, _⟩ := day_ok hb h
 have F0 := fun st => fs_day (st := st) (a := d) (b := dy.1) (c := dy.2) ⟨by omega, by omega⟩ ⟨a0, by omega⟩ ⟨a2, by omega⟩
 rw [X_run rfl]
 unfold d_day_line dayLn
 clear h
 walk_at "eq"
def LinesP (f : FW) : Prop := ∀ (st : Sto) (b : Book) (d : Nat) (dy : Int × Int) (ss : List Scene), BookOk 8 8 b → b.days[d]? = some dy → DayIn b ss → f [.d b.t, .d (.int d), .d (dayN ss)] st = .ok (.ref st.length) (st ++ [some (((tmd b dy ss).map scLn).map T.str)])
theorem lines_p {F : FT} (hN : ScNmP (F 14)) (hT : TimedP (F 67)) : LinesP (runF F G0 d_scene_lines) := by
 intro st b d dy ss hb hd hi
 have T0 := fun st => hT st b d dy ss hb hd hi
 have hr := ln_ok hb (day_ok hb hd).1 hi
 have hl := tmd_len b dy ss
 have h8 := hi.1
 rw [X_run rfl]
 unfold d_scene_lines
 clear hd hT
 generalize tmd b dy ss = rs at *
 walk_at "eq"
 generalize hX : evFor _ _ _ _ _ = X
 obtain ⟨_, _, ⟨x4, x5, x6, x7, rfl, rfl⟩, rfl⟩ := for_ok hX (fun i ρ σ => ∃ x4 x5 x6 x7, ρ = [some (.d b.t), some (.d (.int d)), some (.d (dayN ss)), some (.ref st.length), x4, x5, x6, x7] ∧ σ = st ++ [some (((rs.take i).map scLn).map T.str)]) ⟨none, none, none, none, rfl, rfl⟩ (by
  rintro i y _ _ hy ⟨x4, x5, x6, x7, rfl, rfl⟩
  obtain ⟨r, hi2, hm, hil, rfl⟩ := map_i hy
  have ro := hr r hm
  have N0 := fun st => hN st b hb r.1 ro.sc
  have s1 := fun st => ro.w1.2 st
  have s2 := fun st => ro.w2.2 st
  obtain ⟨w1, w2⟩ := ro.words hb
  have c8 := (sc_ok hb ro.sc).2.2.1
  have J0 : ∀ st, mtR .join (.d (.str " ")) [.lst (.str (ofI r.2.1) :: .str (ofI r.2.2) :: .str r.1.place :: .str r.1.name :: r.1.cast.map T.str)] st = .ok (.d (.str (scLn r))) st := fun st => w_join (ys := ofI r.2.1 :: ofI r.2.2 :: r.1.place :: r.1.name :: r.1.cast) sp1 w1 w2 (by decide)
  have lm : (((rs.take i).map scLn).map T.str).length < LIM := Nat.lt_of_le_of_lt (m := 1000) (by rw [List.length_map, List.length_map, List.length_take]; omega) (by decide)
  rw [take_i hi2, List.map_append, List.map_append]
  generalize ((rs.take i).map scLn).map T.str = ls at *
  have A0 := w_addL (x := .ref (st.length + 1)) (y := .ref (st.length + 2)) (st := st ++ [some ls, some [.str (ofI r.2.1), .str (ofI r.2.2), .str r.1.place, .str r.1.name], some (r.1.cast.map T.str)]) (xs := [.str (ofI r.2.1), .str (ofI r.2.2), .str r.1.place, .str r.1.name]) (ys := r.1.cast.map T.str) (look_r' (by rw [sa_getN]; rfl)) (look_r' (by rw [sa_getN]; rfl)) (by rw [List.length_map]; show 4 + _ ≤ _; omega)
  refine step_ok rfl ?_
  clear hX hy hN hi2 T0 hr w1 w2 ro
  unfold wd at s1 s2
  dsimp only at s1 s2
  simp only [List.length_append, List.length_cons, List.length_nil, Nat.reduceAdd, List.append_assoc, List.cons_append, List.nil_append] at A0
  walk_at "eq"
  exact ⟨_, _, rfl, rfl, _, _, _, _, rfl, rfl⟩)
 rw [List.length_map, List.take_length]
 clear hX
 walk_at "eq"
def sheetOf (b : Book) (d : Nat) (dy : Int × Int) (ss : List Scene) : Str := Txt.join "\n" (rowsOf b d dy ss)
def DayShP (f : FW) : Prop := ∀ (st : Sto) (b : Book) (d : Nat) (dy : Int × Int) (ss : List Scene), BookOk 8 8 b → b.days[d]? = some dy → DayIn b ss → f [.d b.t, .d (.int d), .d (dayN ss)] st = .ok (.d (.str (sheetOf b d dy ss))) st
theorem daysh_p {F : FT} (hD : DayLP (F 106)) (hL : LinesP (F 107)) : DayShP (runF F G0 d_day_sheet) := by
 intro st b d dy ss hb hd hi
 have D0 := fun st => hD st b d dy hb hd
 have L0 := fun st => hL st b d dy ss hb hd hi
 obtain ⟨w1, w2⟩ := rows_ok hb hd hi
 have J0 : ∀ st, mtR .join (.d (.str "\n")) [.lst (.str (dayLn d dy) :: ((tmd b dy ss).map scLn).map T.str)] st = .ok (.d (.str (sheetOf b d dy ss))) st := fun st => w_join (ys := rowsOf b d dy ss) nl1 w1 w2 (by decide)
 have hl : (((tmd b dy ss).map scLn).map T.str).length ≤ 8 := by rw [List.length_map, List.length_map, tmd_len]; exact hi.1
 rw [X_run rfl]
 unfold d_day_sheet
 clear hD hL hd hi w1 w2
 generalize ((tmd b dy ss).map scLn).map T.str = ls at *
 have A0 := w_addL (x := .ref st.length) (y := .ref (st.length + 1)) (st := st ++ [some [.str (dayLn d dy)], some ls]) (xs := [.str (dayLn d dy)]) (ys := ls) (look_r' sa_get) (look_r' (by rw [sa_getN]; rfl)) (by show 1 + _ ≤ _; omega)
 simp only [List.length_append, List.length_cons, List.length_nil, Nat.reduceAdd, List.append_assoc, List.cons_append, List.nil_append] at A0
 walk_at "eq"
def SheetP (f : FW) : Prop := ∀ (st : Sto) (b : Book) (pl : List (List Scene)) (d : Nat) (dy : Int × Int) (ss : List Scene), BookOk 8 8 b → b.days[d]? = some dy → pl[d]? = some ss → DayIn b ss → f [.d b.t, .d (planT pl), .d (.int d)] st = .ok (.d (.str (sheetOf b d dy ss))) st
theorem pl_ix {pl : List (List Scene)} {d : Nat} {ss : List Scene} {st : Sto} (h : pl[d]? = some ss) : ixW (.d (planT pl)) (.d (.int d)) st = .ok (.d (dayN ss)) st := by
 unfold planT
 rw [w_ixt, row_at h]
 rfl
theorem sheet_p {F : FT} (hD : DayShP (F 108)) : SheetP (runF F G0 d_sheet) := by
 intro st b pl d dy ss hb hd hp hi
 have D0 := fun st => hD st b d dy ss hb hd hi
 have P0 := fun st => pl_ix (st := st) hp
 rw [X_run rfl]
 unfold d_sheet
 clear hD hd hp
 walk_at "eq"
def LineP (f : FW) : Prop := ∀ (st : Sto) (ws : List T), (∀ w ∈ ws, WdOk w) → ws.length ≤ 12 → f [.d (.lst ws)] st = .ok (.d (.str (Txt.join " " (ws.map wd)))) st
theorem line_p {F : FT} : LineP (runF F G0 d_l_line) := by
 intro st ws hw hl
 have J0 : ∀ st, mtR .join (.d (.str " ")) [.lst ((ws.map wd).map T.str)] st = .ok (.d (.str (Txt.join " " (ws.map wd)))) st := fun st => w_join (n := 100) sp1 (fun y hy => by
  obtain ⟨w, h, rfl⟩ := List.mem_map.mp hy
  exact (hw w h).1) (by rw [List.length_map]; exact hl) (by decide)
 have l8 : ws.length ≤ 1000 := by omega
 rw [X_run rfl]
 unfold d_l_line
 walk_at "eq"
 generalize hX : evComp _ _ _ _ _ = X
 rw [← List.map_id ws] at hX
 have e := comp_is hX (fun w => some (.str (wd w))) (by
  intro w h
  have s1 := fun st => (hw w h).2 st
  refine turn_ok' rfl ?_
  clear hX J0 hw
  show Wl ((evIfs F G0 [] [some (.d w)] st).bind (kT1 F G0 (.bf .str [.v 0]) [some (.d w)] st.length)) _
  walk_at "eq"
  exact ⟨_, _, rfl, rfl, rfl⟩)
 rw [fm_some, show (fun w => T.str (wd w)) = T.str ∘ wd from rfl, ← List.map_map] at e
 clear hX hw
 walk_at "eq"
theorem for_okG {step} {gs} {xs} {ρ} {st} {X} (h : evFor gs step xs ρ st = X) (P : Nat → Rho → Sto → Prop) (h0 : P 0 ρ st) (hs : ∀ i ρ σ, P i ρ σ → stay gs σ = true) (hp : ∀ i x ρ σ, xs[i]? = some x → P i ρ σ → Wl (step x ρ σ) fun o σ' => o.1 = .nx ∧ P (i + 1) o.2 σ') :
 ∃ ρ' σ', P xs.length ρ' σ' ∧ X = .ok (.nx, ρ') σ' := by
 obtain ⟨ρ', σ', e, p⟩ := for_inv P h0 (fun i ρ σ _ p => hs i ρ σ p) fun i x ρ σ hx p => by
  obtain ⟨⟨f, ρ'⟩, σ', e, h1, h2⟩ := hp i x ρ σ hx p
  cases h1
  exact ⟨ρ', σ', e, h2⟩
 exact ⟨ρ', σ', p, h.symm.trans e⟩
theorem it_zr {α : Type} {f g : α → T} {l : List α} {k : Nat} {st : Sto} (h : st[k]? = some (some (l.map g))) : items .zp [.d (.lst (l.map f)), .ref k] st = some (l.map fun a => .tup [f a, g a], [(k, l.map g)]) := by
 have e : seqW (.ref k) st = some (l.map g, [(k, l.map g)]) := by unfold seqW; simp only [h]
 show (match seqW (.d (.lst (l.map f))) st, seqW (.ref k) st with
  | some p, some q => if isTupW (.d (.lst (l.map f))) = isTupW (.ref k) then some ((p.1.zip q.1).map fun (z : T × T) => T.tup [z.1, z.2], p.2 ++ q.2) else none
  | _, _ => none) = _
 rw [e]
 show some (((l.map f).zip (l.map g)).map fun (z : T × T) => T.tup [z.1, z.2], [(k, l.map g)]) = _
 rw [List.zip_map', List.map_map]
 rfl
theorem one_sc {b : Book} (hb : BookOk 8 8 b) {s : Scene} (h : s ∈ b.scenes) : b.scenes.filter (fun a => decide (a.name = s.name)) = [s] := by
 obtain ⟨j, hj⟩ := List.mem_iff_getElem?.mp h
 obtain ⟨hl, he⟩ := List.getElem?_eq_some_iff.mp hj
 have hu := hb.unl.2.2
 have e1 : b.scenes = b.scenes.take j ++ s :: b.scenes.drop (j + 1) := by
  rw [← he, List.getElem_cons_drop, List.take_append_drop]
 have no : ∀ i a, b.scenes[i]? = some a → i ≠ j → a.name ≠ s.name := fun i a hi ne e => ne (by
  obtain ⟨i1, i2⟩ := List.getElem?_eq_some_iff.mp hi
  exact hu i j (by rw [List.length_map]; exact i1) (by rw [List.length_map]; exact hl) (by rw [List.getElem_map, List.getElem_map, i2, he, e]))
 rw [e1, List.filter_append, List.filter_cons, if_pos (decide_eq_true rfl)]
 have f1 : (b.scenes.take j).filter (fun a => decide (a.name = s.name)) = [] := List.filter_eq_nil_iff.mpr fun a ha => by
  obtain ⟨i, hi⟩ := List.mem_iff_getElem?.mp ha
  have hij : i < j := by have := (List.getElem?_eq_some_iff.mp hi).1; rw [List.length_take] at this; omega
  rw [List.getElem?_take_of_lt hij] at hi
  simpa using no i a hi (by omega)
 have f2 : (b.scenes.drop (j + 1)).filter (fun a => decide (a.name = s.name)) = [] := List.filter_eq_nil_iff.mpr fun a ha => by
  obtain ⟨i, hi⟩ := List.mem_iff_getElem?.mp ha
  rw [List.getElem?_drop] at hi
  simpa using no _ a hi (by omega)
 rw [f1, f2]
 rfl
def RowsP (f : FW) : Prop := ∀ (st : Sto) (b : Book) (pl : List (List Scene)) (d : Nat) (dy : Int × Int) (ss : List Scene), BookOk 8 8 b → b.days[d]? = some dy → pl[d]? = some ss → DayIn b ss → Wl (f [.d b.t, .d (planT pl), .d (.int d)] st) fun w σ => w = .ref st.length ∧ σ = st ++ [some ((rowsOf b d dy ss).map T.str)]
theorem rows_p {F : FT} (hE : EndsP (F 56)) (hL : LineP (F 132)) : RowsP (runF F G0 d_l_sheet_rows) := by
 intro st b pl d dy ss hb hd hp hi
 have P0 := fun st => pl_ix (st := st) hp
 have E0 := fun st => hE st b d dy ss hb hd hi.1
 have D0 := day_at hd
 obtain ⟨dok, d8, v1, v2, v3⟩ := day_ok hb hd
 have L0 : ∀ st, F 132 [.d (.lst [.str "day", .int d, .int dy.1, .int dy.2])] st = .ok (.d (.str (dayLn d dy))) st := fun st => hL st [.str "day", .int d, .int dy.1, .int dy.2] (fun w hw => by
  simp only [List.mem_cons, List.not_mem_nil, or_false] at hw
  rcases hw with rfl | rfl | rfl | rfl
  · exact wd_s (by decide +kernel)
  · exact v1
  · exact v2
  · exact v3) (by show 4 ≤ 12; decide)
 have hr := ln_ok hb dok hi
 have hf := tmd_fst b dy ss
 have hg := tmd_len b dy ss
 have h8 := hi.1
 have s8 : b.scenes.length ≤ 8 := by have := hb.s8; omega
 refine run_ok rfl ?_
 unfold d_l_sheet_rows dayN at *
 walk_at "eq"
 generalize hX : evFor _ _ _ _ _ = X
 obtain ⟨_, _, ⟨x4, rfl, rfl⟩, rfl⟩ := for_ok hX (fun i ρ σ => ∃ x4, ρ = [some (.d b.t), some (.d (planT pl)), some (.d (.int d)), some (.d (.lst ((ss.take i).map Scene.t))), x4, none, none, none, none] ∧ st = σ) ⟨none, rfl, rfl⟩ (by
  rintro i y _ _ hy ⟨x4, rfl, rfl⟩
  obtain ⟨s, hi2, hm, hl, rfl⟩ := map_i hy
  have h1 := one_sc hb (hi.2 s hm)
  have ll : ((ss.take i).map Scene.t).length ≤ 8 := by rw [List.length_map, List.length_take]; omega
  rw [take_i hi2, List.map_append]
  generalize (ss.take i).map Scene.t = ls at *
  refine step_ok rfl ?_
  clear hX hy hi2 P0 E0 D0 L0
  walk_at "eq"
  generalize hY : evComp _ _ _ _ _ = Y
  have e := comp_is hY (fun a => if decide (a.name = s.name) then some a.t else none) (by
   intro a _
   refine turn_ok' rfl ?_
   clear hY
   by_cases hq : a.name = s.name <;> (walk_at "eq"; exact ⟨_, _, rfl, rfl, rfl⟩))
  rw [fm_if, h1] at e
  have A0 := w_addL (x := .d (.lst ls)) (y := .ref st.length) (st := st ++ [some [s.t]]) (xs := ls) (ys := [s.t]) rfl (look_r' sa_get) (by show _ + 1 ≤ _; omega)
  simp only [List.length_append, List.length_cons, List.length_nil, Nat.reduceAdd, List.append_assoc, List.cons_append, List.nil_append] at A0
  clear hY
  walk_at "eq"
  exact ⟨_, _, rfl, rfl, _, rfl, rfl⟩)
 rw [List.length_map, List.take_length]
 clear hX P0 hE
 have es : ss.map Scene.t = (tmd b dy ss).map fun r => r.1.t := by
  conv => lhs; rw [← hf]
  rw [List.map_map]
  rfl
 unfold rowsOf
 rw [es] at E0 ⊢
 clear hf es hd
 generalize tmd b dy ss = rs at *
 have Z0 := it_zr (f := fun r : Tm => r.1.t) (g := rowT) (l := rs) (k := st.length + 1) (st := st ++ [some [.str (dayLn d dy)], some (rs.map rowT)]) (by rw [sa_getN]; rfl)
 walk_at "eq"
 generalize hX : evFor _ _ _ _ _ = X
 obtain ⟨_, _, ⟨x4, x6, x7, x8, rfl, rfl⟩, rfl⟩ := for_okG hX (fun i ρ σ => ∃ x4 x6 x7 x8, ρ = [some (.d b.t), some (.d (planT pl)), some (.d (.int d)), some (.d (.lst (rs.map fun r => r.1.t))), x4, some (.ref st.length), x6, x7, x8] ∧ σ = st ++ [some (.str (dayLn d dy) :: ((rs.take i).map scLn).map T.str), some (rs.map rowT)]) ⟨x4, none, none, none, rfl, rfl⟩ (by
  rintro i _ _ ⟨x4, x6, x7, x8, rfl, rfl⟩
  unfold stay
  rw [List.all_cons, sa_getN]
  show (beqTs (rs.map rowT) (rs.map rowT) && true) = true
  rw [beqTs_refl]
  rfl) (by
  rintro i y _ _ hy ⟨x4, x6, x7, x8, rfl, rfl⟩
  obtain ⟨r, hi2, hm, hl, rfl⟩ := map_i hy
  have ro := hr r hm
  obtain ⟨a0, a1, a2, a3⟩ := sc_ok hb ro.sc
  have L1 : ∀ st, F 132 [.d (.lst (.int r.2.1 :: .int r.2.2 :: .str r.1.place :: .str r.1.name :: r.1.cast.map T.str))] st = .ok (.d (.str (scLn r))) st := fun st => by
   have := hL st (.int r.2.1 :: .int r.2.2 :: .str r.1.place :: .str r.1.name :: r.1.cast.map T.str) (fun w hw => by
    simp only [List.mem_cons] at hw
    rcases hw with rfl | rfl | rfl | rfl | hw
    · exact ro.w1
    · exact ro.w2
    · exact wd_s a0
    · exact wd_s a1
    · obtain ⟨c, hc, rfl⟩ := List.mem_map.mp hw
      exact wd_s (a3 c hc)) (by simp only [List.length_cons, List.length_map]; omega)
   rw [this]
   unfold scLn
   rw [List.map_cons, List.map_cons, List.map_cons, List.map_cons, List.map_map, show wd ∘ T.str = id from rfl, List.map_id]
   rfl
  have lm : (.str (dayLn d dy) :: ((rs.take i).map scLn).map T.str : List T).length < LIM := Nat.lt_of_le_of_lt (m := 1000) (by rw [List.length_cons, List.length_map, List.length_map, List.length_take]; omega) (by decide)
  rw [take_i hi2, List.map_append, List.map_append]
  generalize hls : (.str (dayLn d dy) :: ((rs.take i).map scLn).map T.str : List T) = ls at *
  have A0 := w_addL (x := .ref (st.length + 2)) (y := .ref (st.length + 3)) (st := st ++ [some ls, some (rs.map rowT), some [.int r.2.1, .int r.2.2, .str r.1.place, .str r.1.name], some (r.1.cast.map T.str)]) (xs := [.int r.2.1, .int r.2.2, .str r.1.place, .str r.1.name]) (ys := r.1.cast.map T.str) (look_r' (by rw [sa_getN]; rfl)) (look_r' (by rw [sa_getN]; rfl)) (by rw [List.length_map]; show 4 + _ ≤ _; omega)
  simp only [List.length_append, List.length_cons, List.length_nil, Nat.reduceAdd, List.append_assoc, List.cons_append, List.nil_append] at A0
  refine step_ok rfl ?_
  clear hX hy hL hi2 E0 D0 L0 Z0 hr ro
  generalize rs.map rowT = rr at *
  walk_at "eq"
  exact ⟨_, _, rfl, rfl, _, _, _, _, rfl, by rw [← hls]; rfl⟩)
 rw [List.length_map, List.take_length]
 clear hX
 walk_at "eq"
 exact ⟨_, _, rfl, rfl, rfl⟩
def Fr (c : Nat) (z : Str) : Prop := c ∉ z.cps.toList
theorem join_is (sep : Str) (ys : List Str) : Txt.join sep ys = Str.join sep ys := StrLaws.glued_eq_join sep ys
theorem cut_inj {c : Nat} : ∀ {xs ys A B : List Nat}, c ∉ xs → c ∉ ys → xs ++ c :: A = ys ++ c :: B → xs = ys ∧ A = B
 | [], [], _, _, _, _, e => ⟨rfl, (List.cons.inj e).2⟩
 | [], y :: ys, _, _, _, hy, e => (hy ((List.cons.inj e).1 ▸ .head _)).elim
 | x :: xs, [], _, _, hx, _, e => (hx ((List.cons.inj e).1 ▸ .head _)).elim
 | x :: xs, y :: ys, _, _, hx, hy, e => by
  obtain ⟨e1, e2⟩ := List.cons.inj e
  obtain ⟨h1, h2⟩ := cut_inj (fun h => hx (.tail _ h)) (fun h => hy (.tail _ h)) e2
  exact ⟨by rw [e1, h1], h2⟩
theorem str_ext {a b : Str} (h : a.cps.toList = b.cps.toList) : a = b := Str.ext' (Array.toList_inj.mp h)
theorem join2 (sep x y : Str) (r : List Str) : Str.join sep (x :: y :: r) = x ++ sep ++ Str.join sep (y :: r) := rfl
theorem join_cps {c : Nat} {x y : Str} {r : List Str} : (Str.join ⟨#[c]⟩ (x :: y :: r)).cps.toList = x.cps.toList ++ c :: (Str.join ⟨#[c]⟩ (y :: r)).cps.toList := by
 rw [join2, str_app, str_app, List.append_assoc]
 rfl
theorem join_inj {c : Nat} : ∀ {xs ys : List Str}, xs ≠ [] → ys ≠ [] → (∀ x ∈ xs, Fr c x) → (∀ y ∈ ys, Fr c y) → Str.join ⟨#[c]⟩ xs = Str.join ⟨#[c]⟩ ys → xs = ys
 | [], _, h, _, _, _, _ => (h rfl).elim
 | _ :: _, [], _, h, _, _, _ => (h rfl).elim
 | [x], [y], _, _, _, _, e => by rw [show x = y from e]
 | [x], y :: y' :: r, _, _, hx, _, e => by
  have e := congrArg (fun z => z.cps.toList) e
  rw [join_cps] at e
  exact (hx x (.head _) (by show c ∈ x.cps.toList; rw [show x.cps.toList = _ from e]; exact List.mem_append_right _ (.head _))).elim
 | x :: x' :: r, [y], _, _, _, hy, e => by
  have e := congrArg (fun z => z.cps.toList) e
  rw [join_cps] at e
  exact (hy y (.head _) (by show c ∈ y.cps.toList; rw [← show _ = y.cps.toList from e]; exact List.mem_append_right _ (.head _))).elim
 | x :: x' :: r, y :: y' :: r', _, _, hx, hy, e => by
  have e := congrArg (fun z => z.cps.toList) e
  rw [join_cps, join_cps] at e
  obtain ⟨h1, h2⟩ := cut_inj (hx x (.head _)) (hy y (.head _)) e
  rw [str_ext h1, join_inj (by nofun) (by nofun) (fun z hz => hx z (.tail _ hz)) (fun z hz => hy z (.tail _ hz)) (str_ext h2)]
theorem split_join {c : Nat} {ys : List Str} (h0 : ys ≠ []) (hy : ∀ y ∈ ys, Fr c y) : Txt.split (Txt.join ⟨#[c]⟩ ys) ⟨#[c]⟩ = ys := by
 refine join_inj ?_ h0 (StrLaws.split_free _ c) hy ?_
 · unfold Txt.split
   split
   · exact List.cons_ne_nil _ _
   · split
     · exact List.cons_ne_nil _ _
     · rw [StrLaws.partsBetween_eq]
       obtain ⟨p, r, e⟩ := StrLaws.partsFrom_ne (Txt.join ⟨#[c]⟩ ys) (Str.length ⟨#[c]⟩) 0 (PySem.Builtin.Str.occurrences (Txt.join ⟨#[c]⟩ ys) ⟨#[c]⟩ 0 (Txt.join ⟨#[c]⟩ ys).length ((Txt.join ⟨#[c]⟩ ys).length + 1))
       rw [e]
       exact List.cons_ne_nil _ _
 · rw [StrLaws.join_split, join_is]
theorem join_app {sep : Str} : ∀ {xs ys : List Str}, xs ≠ [] → ys ≠ [] → Str.join sep (xs ++ ys) = Str.join sep xs ++ sep ++ Str.join sep ys
 | [], _, h, _ => (h rfl).elim
 | _ :: _, [], _, h => (h rfl).elim
 | [x], y :: ys, _, _ => rfl
 | x :: x' :: r, y :: ys, _, h => by
  show Str.join sep (x :: x' :: (r ++ y :: ys)) = _
  rw [join2, join2, show x' :: (r ++ y :: ys) = (x' :: r) ++ y :: ys from rfl, join_app (by nofun) h]
  simp only [Str.append_assoc]
theorem join_flat {sep : Str} : ∀ {L : List (List Str)}, (∀ l ∈ L, l ≠ []) → Str.join sep (L.map (Str.join sep)) = Str.join sep L.flatten
 | [], _ => rfl
 | [l], h => by simp [Str.join]
 | l :: l' :: L, h => by
  have hl := h l (.head _)
  have hn : (l' :: L).flatten ≠ [] := by
   rw [List.flatten_cons]
   exact fun e => h l' (.tail _ (.head _)) (List.append_eq_nil_iff.mp e).1
  rw [List.map_cons, List.map_cons, join2, ← List.map_cons, join_flat fun x hx => h x (.tail _ hx), show (l :: l' :: L).flatten = l ++ (l' :: L).flatten from rfl, join_app hl hn]
theorem fr_join {c d : Nat} (hd : c ≠ d) : ∀ {ys : List Str}, (∀ y ∈ ys, Fr c y) → Fr c (Str.join ⟨#[d]⟩ ys)
 | [], _ => fun h => by cases h
 | [y], h => h y (.head _)
 | y :: y' :: r, h => fun hm => by
  rw [join_cps] at hm
  rcases List.mem_append.mp hm with q | q
  · exact h y (.head _) q
  · rcases List.mem_cons.mp q with q | q
    · exact hd q
    · exact fr_join hd (fun z hz => h z (.tail _ hz)) q
theorem low_fr {c : Nat} {z : Str} (hc : c < 97) (h : Low z) : Fr c z := fun hm => by have := h c hm; omega
theorem ofI_dig {i : Int} (h0 : 0 ≤ i) : ∀ c ∈ (ofI i).cps.toList, 48 ≤ c ∧ c ≤ 57 := by
 obtain ⟨n, rfl⟩ : ∃ n : Nat, i = n := ⟨i.toNat, by omega⟩
 unfold ofI
 rw [Str.ofString_eq_toList]
 intro c hc
 rw [List.mem_map] at hc
 obtain ⟨k, hk, rfl⟩ := hc
 have h1 : (toString (n : Int)).toList = Nat.toDigits 10 n := by
  show (Nat.repr n).toList = _
  simp [Nat.repr]
 rw [h1] at hk
 have h2 := Nat.isDigit_of_mem_toDigits (by decide) (by decide) hk
 simp only [Char.isDigit, Bool.and_eq_true, decide_eq_true_eq] at h2
 exact ⟨h2.1, h2.2⟩
theorem ofI_fr {c : Nat} {i : Int} (h0 : 0 ≤ i) (hc : c < 48) : Fr c (ofI i) := fun hm => by have := (ofI_dig h0 c hm).1; omega
theorem ofI_ne {i : Int} (h0 : 0 ≤ i) : ∃ c r, (ofI i).cps.toList = c :: r ∧ c ≤ 57 := by
 cases e : (ofI i).cps.toList with
 | nil => exact absurd e (by
  obtain ⟨n, rfl⟩ : ∃ n : Nat, i = n := ⟨i.toNat, by omega⟩
  unfold ofI
  rw [Str.ofString_eq_toList]
  intro h
  have h1 : (toString (n : Int)).toList = Nat.toDigits 10 n := by
   show (Nat.repr n).toList = _
   simp [Nat.repr]
  rw [h1] at h
  have := Nat.length_toDigits_pos (b := 10) (n := n)
  rw [List.map_eq_nil_iff.mp h] at this
  simp at this)
 | cons c r => exact ⟨c, r, rfl, (ofI_dig h0 c (e ▸ .head _)).2⟩
theorem spc : (" " : Str) = ⟨#[32]⟩ := by decide +kernel
theorem nlc : ("\n" : Str) = ⟨#[10]⟩ := by decide +kernel
theorem w_split {z y : Str} {st : Sto} (h : z.length ≤ 1000000) (hy : y.length = 1) : mtR .split (.d (.str z)) [.str y] st = fresh (.lst ((Txt.split z y).map .str)) st := by
 show (match (if z.length ≤ LIM ∧ y.length = 1 then some (T.lst ((Txt.split z y).map .str)) else none) with | some u => fresh u st | none => .bad) = _
 rw [if_pos ⟨h, hy⟩]
def upto (n : Nat) : List Int := (List.range n).map fun (i : Nat) => (i : Int)
theorem upto_mem : d ∈ upto n ↔ 0 ≤ d ∧ d < n := by
 unfold upto
 rw [List.mem_map]
 constructor
 · rintro ⟨i, hi, rfl⟩
   grind
 · intro h
   exact ⟨d.toNat, List.mem_range.mpr (by omega), by omega⟩
theorem upto_len (n : Nat) : (upto n).length = n := by unfold upto; simp
theorem rng_up (n : Nat) : rng 0 n = (upto n).map T.int := by
 unfold rng upto
 simp
theorem enm_l {α : Type} {f} {l : List α} {st} : items .enm [.d (.lst (l.map f))] st = some (l.zipIdx.map fun q => .tup [.int q.2, f q.1], []) := by
 show some ((l.map f).zipIdx.map fun q => T.tup _, []) = _
 rw [List.zipIdx_map, List.map_map]
 rfl
def kGa2 (b : Bool) (st : Sto) : Res W := .ok (.d (.bl b)) st
def kGa (F : FT) (G : List T) (ix : List (Option Nat)) (t : Tg) (k : Ik) (ifs : List E) (el : E) (ρ : Rho) (ws : List W) (st : Sto) : Res W := match items k ws st with
 | some (xs, gs) => if xs.length ≤ LIM then (evAll false gs (stepE F G ix t ifs el ρ) xs st).bind kGa2 else .bad
 | none => .bad
theorem X_ga {F : FT} {G : List T} {st : Sto} {ρ : Rho} {N : List Str} {ix : List (Option Nat)} {t : Tg} {k : Ik} {src ifs : List E} {el : E} : evE F G (.gen .any N ix t k src ifs el) ρ st = (evEs F G src ρ st).bind (kGa F G ix t k ifs el ρ) := rfl
theorem any_is {α : Type} {step : T → Sto → Res (Option T)} {f : α → T} {st : Sto} : ∀ {l : List α} {X : Res Bool}, evAll false [] step (l.map f) st = X → ∀ p : α → Bool, (∀ a ∈ l, Wl (step (f a) st) fun o σ => o = some (.bl (p a)) ∧ st = σ) → X = .ok (l.any p) st
 | [], X, h, p, _ => by
  simp only [List.map_nil, evAll] at h
  rw [if_pos stay_nil] at h
  exact h.symm
 | a :: l, X, h, p, hp => by
  obtain ⟨_, _, e, rfl, rfl⟩ := hp a List.mem_cons_self
  simp only [List.map_cons, evAll] at h
  rw [if_pos stay_nil, e, bind_ok] at h
  rw [List.any_cons]
  cases hpa : p a with
  | false =>
   rw [hpa] at h
   have h : evAll false [] step (l.map f) st = X := h
   rw [Bool.false_or]
   exact any_is h p fun b hb => hp b (List.mem_cons_of_mem _ hb)
  | true =>
   rw [hpa] at h
   exact h.symm
theorem nodup_sc (hb : BookOk 8 8 b) : b.scenes.Nodup := by
 refine List.pairwise_iff_getElem.mpr fun i j hi hj hij e => ?_
 have := hb.unl.2.2 i j (by simp_all) (by simp_all) (by simp_all)
 omega
theorem nodup_day (hb : BookOk 8 8 b) (os) d : (dayS (b.scenes.zip os) d).Nodup := by
 have key : ∀ (ss) (os), (dayS (ss.zip os) d).Sublist ss := by
  intro ss
  induction ss with
  | nil => intro os; exact List.Sublist.refl _
  | cons s ss ih =>
   intro os
   cases os with
   | nil => exact List.nil_sublist _
   | cons o os =>
    unfold dayS at ih ⊢
    rw [List.zip_cons_cons, List.filterMap_cons]
    split
    · exact (ih os).cons _
    grind
 exact (nodup_sc hb).sublist (key _ _)
theorem trg_i {n : Nat} {st} (h : n ≤ 1000) : trgW (.d (.int n)) st = .ok (.d (.tup ((upto n).map T.int))) st := by
 show (if (0 : Int) ≤ n ∧ (n : Int) ≤ 1000 then Res.ok _ st else .bad) = _
 rw [if_pos (by omega), Int.toNat_natCast, rng_up]
def DaysOfP (f : FW) : Prop := ∀ (st : Sto) (b : Book), b.days.length ≤ 8 → f [.d b.t] st = .ok (.d (.tup ((upto b.days.length).map T.int))) st
local macro_rules | `(tactic| walk_at "eq") => do { let ls ← ((I.ws (Hd.wsC ++ " kBin2n X_binn kChn4 kChn3_e kChn2 kChn1 kRv kSst X_sst kTrg X_trg kExt2 kExt1 kIfe ix_b0 ix_b1 ix_b2 ix_b3 ix_b4 ix_b5 ix_s0 ix_s1 ix_s4 ix_p0 ix_q0 it_z it_c it_zc gq_0 gq_1 gq_15 gq_16 gq_17 gq_18 gq_20 len_m kLs kLs2 X_gt kGt kGt2 lsc_i w_mem w_eqo o_n o_s ss_l it_eT l_th List.all_cons List.all_nil Bool.and_self and_true gq_2 gq_5 gq_14 gq_23 ix_s2 ix_s3 b_lstr and_self true_and X_fs b_sti b_sts")).mapM fun n => `(Lean.Parser.Tactic.simpLemma| $(Lean.mkIdent n):term)); `(tactic| simp (disch := walk_at "dq") only [$[$ls:simpLemma],*, *]) }
theorem gq_21 : G0[21]? = some (.int 3) := rfl
def lastT (b : Book) (dy : Int × Int) (ss : List Scene) (s : Scene) : Tm := (s, startOf b dy s (tmd b dy ss).getLast?, startOf b dy s (tmd b dy ss).getLast? + s.length)
theorem tmd_last (b : Book) (dy : Int × Int) (ss : List Scene) (s : Scene) : tmd b dy (ss ++ [s]) = tmd b dy ss ++ [lastT b dy ss s] := tmd_snoc
structure RwF (b : Book) (r : Tm) : Prop where
 sc : r.1 ∈ b.scenes
 n1 : 0 ≤ r.2.1
 n2 : 0 ≤ r.2.2
 ok : LnOk b r
theorem last_f {b : Book} {dy : Int × Int} {ss : List Scene} {s : Scene} (hb : BookOk 8 8 b) (hd : DayOk dy) (hi : DayIn b (ss ++ [s])) : RwF b (lastT b dy ss s) := by
 have hm : lastT b dy ss s ∈ tmd b dy (ss ++ [s]) := by rw [tmd_last]; exact List.mem_append_right _ (.head _)
 obtain ⟨h1, h2, h3, _, _⟩ := (tmd_ok hb hd _ hi.2).1 _ hm
 exact ⟨h1, h2, h3, ln_ok hb hd hi _ hm⟩
def wordsOf (r : Tm) : List Str := ofI r.2.1 :: ofI r.2.2 :: r.1.place :: r.1.name :: r.1.cast
theorem words_fr {b : Book} {r : Tm} {c : Nat} (hb : BookOk 8 8 b) (h : RwF b r) (hc : c < 48) : ∀ y ∈ wordsOf r, Fr c y := fun y hy => by
 obtain ⟨_, a1, _, _, _, _, a3⟩ := hb.scenes r.1 h.sc
 obtain ⟨u1, u2, u3⟩ := hb.unl
 have hc' : c < 97 := by omega
 simp only [wordsOf, List.mem_cons] at hy
 rcases hy with rfl | rfl | rfl | rfl | hy
 · exact ofI_fr h.n1 hc
 · exact ofI_fr h.n2 hc
 · exact low_fr hc' (u1.low _ a1)
 · exact low_fr hc' (u3.low _ (List.mem_map_of_mem h.sc))
 · exact low_fr hc' (u2.low _ (a3 y hy))
theorem scLn_is (r : Tm) : scLn r = Str.join ⟨#[32]⟩ (wordsOf r) := by unfold scLn; rw [join_is, spc]; rfl
theorem scLn_fr {b : Book} {r : Tm} (hb : BookOk 8 8 b) (h : RwF b r) : Fr 10 (scLn r) := by
 rw [scLn_is]
 exact fr_join (by decide) (words_fr hb h (by decide))
theorem dayLn_is' (d : Nat) (dy : Int × Int) : dayLn d dy = Str.join ⟨#[32]⟩ ["day", ofI d, ofI dy.1, ofI dy.2] := by unfold dayLn; rw [join_is, spc]
theorem day_low : Low "day" := by show ∀ c ∈ ("day" : Str).cps.toList, 97 ≤ c; decide +kernel
theorem dayLn_fr {b : Book} {d : Nat} {dy : Int × Int} (hd : DayOk dy) : Fr 10 (dayLn d dy) := by
 rw [dayLn_is']
 refine fr_join (by decide) fun y hy => ?_
 obtain ⟨h1, h2, h3, h4⟩ := hd
 simp only [List.mem_cons, List.not_mem_nil, or_false] at hy
 rcases hy with rfl | rfl | rfl | rfl
 · exact low_fr (by decide) day_low
 · exact ofI_fr (by omega) (by decide)
 · exact ofI_fr (by omega) (by decide)
 · exact ofI_fr (by omega) (by decide)
theorem sc_day {b : Book} {r : Tm} {d : Nat} {dy : Int × Int} (h : RwF b r) : scLn r ≠ dayLn d dy := fun e => by
 have e := congrArg (fun z => z.cps.toList) e
 obtain ⟨c, t, hc, h9⟩ := ofI_ne h.n1
 rw [scLn_is, dayLn_is', show wordsOf r = ofI r.2.1 :: ofI r.2.2 :: (r.1.place :: r.1.name :: r.1.cast) from rfl] at e
 rw [join_cps (x := ofI r.2.1), join_cps (x := "day"), hc, show ("day" : Str).cps.toList = [100, 97, 121] by decide +kernel] at e
 have := (List.cons.inj e).1
 omega
theorem split_sc {b : Book} {r : Tm} {st : Sto} (hb : BookOk 8 8 b) (h : RwF b r) : mtR .split (.d (.str (scLn r))) [.str " "] st = .ok (.ref st.length) (st ++ [some ((wordsOf r).map T.str)]) := by
 have hl := scLn_le hb h.ok
 rw [w_split (by omega) sp1, scLn_is, ← join_is, spc, split_join (by simp [wordsOf]) (words_fr hb h (by decide))]
 rfl
def NamedP (f : FW) : Prop := ∀ (st : Sto) (b : Book) (r : Tm), BookOk 8 8 b → RwF b r → f [.d (.str (scLn r))] st = .ok (.d (.str r.1.name)) st
theorem named_p {F : FT} : NamedP (runF F G0 d_named_in) := by
 intro st b r hb h
 have S0 := fun st => split_sc (st := st) hb h
 have c8 := (sc_ok hb h.sc).2.2.1
 have e4 : ((wordsOf r).map T.str).length = r.1.cast.length + 4 := by simp [wordsOf]
 have i3 : ∀ st, ixW (.d (.lst ((wordsOf r).map T.str))) (.d (.int 3)) st = .ok (.d (.str r.1.name)) st := fun st => by
  show (match atI ((wordsOf r).map T.str) 3 with | some t => Res.ok (W.d t) st | none => .bad) = _
  rw [show atI ((wordsOf r).map T.str) 3 = some (.str r.1.name) from row_at (l := wordsOf r) (row := T.str) (i := 3) (a := r.1.name) rfl]
 generalize (wordsOf r).map T.str = ws at *
 rw [X_run rfl]
 unfold d_named_in
 clear h hb
 walk_at "eq"
 rw [gq_21]
 walk_at "eq"
 rw [show decide (((r.1.cast.length + 4 : Nat) : Int) ≤ 3) = false from decide_eq_false (by omega)]
 walk_at "eq"
 rw [gq_21]
 walk_at "eq"
theorem planT_app (p : List (List Scene)) (ss : List Scene) : planT (p ++ [ss]) = .tup (p.map dayN ++ [dayN ss]) := by unfold planT; rw [List.map_append]; rfl
theorem ix_end {xs : List T} {a : T} {st : Sto} : ixW (.d (.tup (xs ++ [a]))) (.d (.int (-1))) st = .ok (.d a) st := by
 have e : atI (xs ++ [a]) (-1) = some a := by
  have e : ixN (xs ++ [a]).length (-1) = some xs.length := by
   unfold ixN
   rw [if_neg (by decide), List.length_append, if_pos (by simp only [List.length_cons, List.length_nil]; omega)]
   congr 1
   show ((-1 : Int) + ((xs.length + 1 : Nat) : Int)).toNat = _
   omega
  unfold atI
  rw [e]
  exact List.getElem?_concat_length
 show (match atI (xs ++ [a]) (-1) with | some t => Res.ok (W.d t) st | none => .bad) = _
 rw [e]
theorem ixl_end {xs : List T} {a : T} {st : Sto} {k : Nat} (h : st[k]? = some (some (xs ++ [a]))) : ixW (.ref k) (.d (.int (-1))) st = .ok (.d a) st := by
 have e := ix_end (xs := xs) (a := a) (st := st)
 have l : look (.ref k) st = some (.lst (xs ++ [a])) := look_r' h
 unfold ixW at *
 rw [l]
 exact e
theorem sl_end {xs : List T} {a : T} {st : Sto} : slW (.d (.tup (xs ++ [a]))) none (some (-1)) st = .ok (.d (.tup xs)) st := by
 have e : HT.sIx (xs ++ [a]).length (xs ++ [a]).length (some (-1)) = xs.length := by
  show (if (-1 : Int) < 0 then ((-1 : Int) + ((xs ++ [a]).length : Int)).toNat else min (-1 : Int).toNat (xs ++ [a]).length) = _
  rw [if_pos (by decide), List.length_append]
  show ((-1 : Int) + ((xs.length + 1 : Nat) : Int)).toNat = _
  omega
 show (if HT.sIx (xs ++ [a]).length 0 none = 0 ∧ HT.sIx (xs ++ [a]).length (xs ++ [a]).length (some (-1)) = (xs ++ [a]).length then Res.bad else Res.ok (W.d (.tup (cutT (xs ++ [a]) none (some (-1))))) st) = _
 unfold cutT
 rw [e, HT.sIx_none, if_neg (by rw [List.length_append]; simp only [List.length_cons, List.length_nil]; omega)]
 simp
theorem w_addTT {xs ys : List T} {st : Sto} (h : xs.length + ys.length ≤ 1000) : binW .add (.d (.tup xs)) (.d (.tup ys)) st = .ok (.d (.tup (xs ++ ys))) st := by
 show (match (if xs.length + ys.length ≤ LIM then some (T.tup (xs ++ ys)) else none) with | some t => fresh t st | none => .bad) = _
 rw [if_pos (lim1' h)]
 rfl
def NewIn (p : List (List Scene)) (s : Scene) : Prop := ∀ ss ∈ p, ∀ a ∈ ss, a.name ≠ s.name
def WslP (f : FW) : Prop := ∀ (st : Sto) (b : Book) (p : List (List Scene)) (dy : Int × Int) (ss : List Scene) (s : Scene), BookOk 8 8 b → b.days[p.length]? = some dy → DayIn b (ss ++ [s]) → NewIn (p ++ [ss]) s → f [.d b.t, .d (planT (p ++ [ss])), .d (.str (scLn (lastT b dy ss s)))] st = .ok (.d (planT (p ++ [ss ++ [s]]))) st
theorem wsl_p {F : FT} (hN : NamedP (F 224)) (hA : ScAtP (F 12)) (hL : LinesP (F 107)) : WslP (runF F G0 d_with_scene_line) := by
 intro st b p dy ss s hb hd hi hn
 obtain ⟨dk, d8, _⟩ := day_ok hb hd
 have hf := last_f hb dk hi
 have N0 := fun st => hN st b (lastT b dy ss s) hb hf
 obtain ⟨j, A0⟩ : ∃ i : Nat, ∀ st, F 12 [.d b.t, .d (.str s.name)] st = .ok (.d (.int i)) st := by
  obtain ⟨i, h1, _⟩ := hA st b hb s hf.sc
  refine ⟨i, fun σ => ?_⟩
  obtain ⟨i', h2, e⟩ := hA σ b hb s hf.sc
  obtain ⟨l1, g1⟩ := List.getElem?_eq_some_iff.mp h1
  obtain ⟨l2, g2⟩ := List.getElem?_eq_some_iff.mp h2
  rw [hb.unl.2.2 i i' (by rw [List.length_map]; exact l1) (by rw [List.length_map]; exact l2) (by rw [List.getElem_map, List.getElem_map, g1, g2])]
  exact e
 have L0 : ∀ st, F 107 [.d b.t, .d (.int p.length), .d (dayN (ss ++ [s]))] st = .ok (.ref st.length) (st ++ [some (((tmd b dy ss).map scLn).map T.str ++ [.str (scLn (lastT b dy ss s))])]) := fun st => by
  rw [hL st b p.length dy (ss ++ [s]) hb hd hi, tmd_last, List.map_append, List.map_append]
  rfl
 have B0 : ∀ st, binW .add (.d (dayN ss)) (.d (.tup [.str s.name])) st = .ok (.d (dayN (ss ++ [s]))) st := fun st => by
  have h8 := hi.1
  rw [List.length_append] at h8
  unfold dayN
  rw [w_addTT (by rw [List.length_map]; simp at *; omega), List.map_append]
  rfl
 have any0 : ∀ st, evE F G0 (.gen .any ["name", "shot"] [some 3, none] (.nm 1) .seq [(.v 1)] [] (.cmp .mem (.v 0) (.v 1))) [some (.d b.t), some (.d (planT (p ++ [ss]))), some (.d (.str (scLn (lastT b dy ss s)))), some (.d (.str s.name)), none] st = .ok (.d (.bl false)) st := fun st => by
  have hsrc : evEs F G0 [(.v 1)] [some (.d b.t), some (.d (planT (p ++ [ss]))), some (.d (.str (scLn (lastT b dy ss s)))), some (.d (.str s.name)), none] st = .ok [.d (planT (p ++ [ss]))] st := rfl
  rw [X_ga, hsrc, bind_ok]
  show (if ((p ++ [ss]).map dayN).length ≤ LIM then _ else _) = _
  rw [lim_if (by rw [List.length_map, List.length_append]; simp; omega)]
  have a := any_is rfl (fun _ => false) (l := p ++ [ss]) (f := dayN) (st := st) (step := stepE F G0 [some 3, none] (.nm 1) [] (.cmp .mem (.v 0) (.v 1)) [some (.d b.t), some (.d (planT (p ++ [ss]))), some (.d (.str (scLn (lastT b dy ss s)))), some (.d (.str s.name)), none]) (fun q hq => by
   have M0 : ∀ st, cmpW .mem (.d (.str s.name)) (.d (dayN q)) st = .ok (.d (.bl false)) st := fun st => by
    unfold dayN
    rw [show (q.map fun s => T.str s.name) = (q.map (·.name)).map T.str by rw [List.map_map]; rfl, w_mem, decide_eq_false]
    intro h
    obtain ⟨a, ha, e⟩ := List.mem_map.mp h
    exact hn q hq a ha e
   refine turn_ok' rfl ?_
   clear hn hA hL hN N0 A0 L0 B0
   walk_at "eq"
   exact ⟨_, _, rfl, rfl, rfl⟩)
  rw [a, bind_ok]
  simp [kGa2]
 have X0 := fun st => ix_end (xs := p.map dayN) (a := dayN ss) (st := st)
 have Y0 := fun st => sl_end (xs := p.map dayN) (a := dayN ss) (st := st)
 have Z0 : ∀ st, binW .add (.d (.tup (p.map dayN))) (.d (.tup [dayN (ss ++ [s])])) st = .ok (.d (.tup (p.map dayN ++ [dayN (ss ++ [s])]))) st := fun st => w_addTT (by rw [List.length_map]; simp only [List.length_cons, List.length_nil]; omega)
 have I0 : ∀ st : Sto, ixW (.ref st.length) (.d (.int (-1))) (st ++ [some (((tmd b dy ss).map scLn).map T.str ++ [.str (scLn (lastT b dy ss s))])]) = .ok (.d (.str (scLn (lastT b dy ss s)))) (st ++ [some (((tmd b dy ss).map scLn).map T.str ++ [.str (scLn (lastT b dy ss s))])]) := fun st => ixl_end sa_get
 have len0 : (((p.map dayN).length + 1 : Nat) : Int) - 1 = p.length := by rw [List.length_map]; omega
 rw [planT_app, planT_app] at *
 have T0 : ∀ st, truW (.d (.tup (p.map dayN ++ [dayN ss]))) st = some true := fun st => by cases p <;> rfl
 have e0 : (lastT b dy ss s).1.name = s.name := rfl
 rw [X_run rfl]
 unfold d_with_scene_line
 clear hN hA hL hn hf hi hd
 simp only [e0] at N0
 generalize scLn (lastT b dy ss s) = row at *
 generalize ((tmd b dy ss).map scLn).map T.str = rows at *
 walk_at "eq"
inductive Stp (b : Book) : List (List Scene) → Str → List (List Scene) → Prop where
 | day (p : List (List Scene)) (dy : Int × Int) (h : b.days[p.length]? = some dy) : Stp b p (dayLn p.length dy) (p ++ [[]])
 | sc (p : List (List Scene)) (dy : Int × Int) (ss : List Scene) (s : Scene) (h : b.days[p.length]? = some dy) (hi : DayIn b (ss ++ [s])) (hn : NewIn (p ++ [ss]) s) : Stp b (p ++ [ss]) (scLn (lastT b dy ss s)) (p ++ [ss ++ [s]])
def StpP (f : FW) : Prop := ∀ (st : Sto) (b : Book) (p p' : List (List Scene)) (row : Str), BookOk 8 8 b → Stp b p row p' → f [.d b.t, .d (planT p), .d (.str row)] st = .ok (.d (planT p')) st
theorem b_lenp {p : List (List Scene)} {st : Sto} : bfW .len [.d (planT p)] st = .ok (.d (.int p.length)) st := by
 unfold planT
 rw [b_lent, List.length_map]
theorem w_eqs {x y : Str} {st : Sto} : cmpW .eq (.d (.str x)) (.d (.str y)) st = .ok (.d (.bl (decide (x = y)))) st := by
 refine cmp_d ?_
 show some (x == y) = _
 rw [Bool.beq_eq_decide_eq]
theorem wl_p {F : FT} (hD : DayLP (F 106)) (hS : WslP (F 225)) : StpP (runF F G0 d_with_line) := by
 intro st b p p' row hb h
 have L0 := fun p st => b_lenp (p := p) (st := st)
 rw [X_run rfl]
 unfold d_with_line
 cases h with
 | day _ dy hd =>
  have D0 := fun st => hD st b p.length dy hb hd
  obtain ⟨_, d8, _⟩ := day_ok hb hd
  have lt0 : decide ((p.length : Int) < b.days.length) = true := by
   have := (List.getElem?_eq_some_iff.mp hd).1
   exact decide_eq_true (by omega)
  have A0 : ∀ st, binW .add (.d (planT p)) (.d (.tup [.tup []])) st = .ok (.d (planT (p ++ [[]]))) st := fun st => by
   rw [planT_app]
   exact w_addTT (by rw [List.length_map]; simp only [List.length_cons, List.length_nil]; omega)
  clear hD hS hd
  generalize dayLn p.length dy = row at *
  generalize planT (p ++ [[]]) = p2 at *
  walk_at "eq"
 | sc p dy ss s hd hi hn =>
  obtain ⟨dk, d8, _⟩ := day_ok hb hd
  have hf := last_f hb dk hi
  have S0 := fun st => hS st b p dy ss s hb hd hi hn
  have E0 : ∀ (d : Nat) dy' st, cmpW .eq (.d (.str (scLn (lastT b dy ss s)))) (.d (.str (dayLn d dy'))) st = .ok (.d (.bl false)) st := fun d dy' st => by rw [w_eqs, decide_eq_false (sc_day hf)]
  have hl : (p ++ [ss]).length = p.length + 1 := by rw [List.length_append]; rfl
  by_cases h : p.length + 1 < b.days.length
  · obtain ⟨dy', hd'⟩ : ∃ dy', b.days[p.length + 1]? = some dy' := ⟨_, List.getElem?_eq_getElem (by omega)⟩
    have D0 := fun st => hD st b (p.length + 1) dy' hb hd'
    have lt0 : decide (((p.length + 1 : Nat) : Int) < b.days.length) = true := decide_eq_true (by omega)
    have E1 := E0 (p.length + 1) dy'
    clear hD hS hd hf hd' h hn hi E0
    generalize scLn (lastT b dy ss s) = row at *
    generalize dayLn (p.length + 1) dy' = row2 at *
    generalize p ++ [ss] = p1 at *
    generalize p ++ [ss ++ [s]] = p2 at *
    walk_at "eq"
  · have lt0 : decide (((p.length + 1 : Nat) : Int) < b.days.length) = false := decide_eq_false (by omega)
    clear hD hS hd hf h hn hi E0
    generalize scLn (lastT b dy ss s) = row at *
    generalize p ++ [ss] = p1 at *
    generalize p ++ [ss ++ [s]] = p2 at *
    walk_at "eq"
inductive Rn (b : Book) : List (List Scene) → List Str → List (List Scene) → Prop where
 | nil (p : List (List Scene)) : Rn b p [] p
 | cons {p p' q : List (List Scene)} {row : Str} {rows : List Str} (h : Stp b p row p') (r : Rn b p' rows q) : Rn b p (row :: rows) q
theorem Rn.app {b : Book} {p q r : List (List Scene)} {xs ys : List Str} (h : Rn b p xs q) (k : Rn b q ys r) : Rn b p (xs ++ ys) r := by
 induction h with
 | nil => exact k
 | cons h _ ih => exact .cons h (ih k)
def Dst (p : List (List Scene)) (ss : List Scene) : Prop := ∀ l a r, ss = l ++ a :: r → NewIn (p ++ [l]) a
theorem run_sc {b : Book} {p : List (List Scene)} {dy : Int × Int} (h : b.days[p.length]? = some dy) (ss : List Scene) : DayIn b ss → Dst p ss → Rn b (p ++ [[]]) ((tmd b dy ss).map scLn) (p ++ [ss]) := by
 refine snoc_ind (P := fun ss => DayIn b ss → Dst p ss → Rn b (p ++ [[]]) ((tmd b dy ss).map scLn) (p ++ [ss])) (fun _ _ => .nil _) (fun l a ih hi hd => ?_) ss
 rw [tmd_last, List.map_append]
 refine (ih ⟨?_, fun s hs => hi.2 s (List.mem_append_left _ hs)⟩ fun l1 a1 r1 e => hd l1 a1 (r1 ++ [a]) ?_).app (.cons (.sc p dy l a h hi (hd l a [] rfl)) (.nil _))
 · have := hi.1
   rw [List.length_append] at this
   omega
 · rw [e, List.append_assoc]
   rfl
theorem run_day {b : Book} {p : List (List Scene)} {dy : Int × Int} {ss : List Scene} (h : b.days[p.length]? = some dy) (hi : DayIn b ss) (hd : Dst p ss) : Rn b p (rowsOf b p.length dy ss) (p ++ [ss]) := .cons (.day p dy h) (run_sc h ss hi hd)
def rowsAll (b : Book) (pl : List (List Scene)) : List (List Str) := pl.mapIdx fun d ss => rowsOf b d (b.days[d]?.getD (0, 0)) ss
theorem all_at {b : Book} {pl : List (List Scene)} {d : Nat} {dy : Int × Int} {ss : List Scene} (hd : b.days[d]? = some dy) (h : pl[d]? = some ss) : (rowsAll b pl)[d]? = some (rowsOf b d dy ss) := by
 unfold rowsAll
 rw [List.getElem?_mapIdx, h, hd]
 rfl
theorem all_len {b : Book} {pl : List (List Scene)} : (rowsAll b pl).length = pl.length := List.length_mapIdx
def PlOk (b : Book) (pl : List (List Scene)) : Prop := ∀ (d : Nat) ss, pl[d]? = some ss → DayIn b ss ∧ Dst (pl.take d) ss
theorem run_all {b : Book} (pl : List (List Scene)) : PlOk b pl → pl.length ≤ b.days.length → Rn b [] (rowsAll b pl).flatten pl := by
 refine snoc_ind (P := fun pl => PlOk b pl → pl.length ≤ b.days.length → Rn b [] (rowsAll b pl).flatten pl) (fun _ _ => .nil _) (fun l a ih hp hl => ?_) pl
 rw [List.length_append] at hl
 simp only [List.length_cons, List.length_nil] at hl
 obtain ⟨dy, hd⟩ : ∃ dy, b.days[l.length]? = some dy := ⟨_, List.getElem?_eq_getElem (by omega)⟩
 have e : rowsAll b (l ++ [a]) = rowsAll b l ++ [rowsOf b l.length dy a] := by
  unfold rowsAll
  rw [List.mapIdx_concat, hd]
  rfl
 obtain ⟨h1, h2⟩ := hp l.length a List.getElem?_concat_length
 rw [List.take_left' rfl] at h2
 rw [e, List.flatten_append]
 refine (ih (fun d ss h => ?_) (by omega)).app ?_
 · obtain ⟨hl', _⟩ := List.getElem?_eq_some_iff.mp h
   obtain ⟨g1, g2⟩ := hp d ss (by rw [List.getElem?_append_left hl']; exact h)
   rw [List.take_append_of_le_length (by omega)] at g2
   exact ⟨g1, g2⟩
 · rw [List.flatten_cons, List.flatten_nil, List.append_nil]
   exact run_day hd h1 h2
def ReadP (f : FW) : Prop := ∀ (st : Sto) (b : Book) (pl : List (List Scene)) (rows : List Str), BookOk 8 8 b → rows ≠ [] → (∀ y ∈ rows, Fr 10 y ∧ y.length ≤ 1212) → rows.length ≤ 72 → Rn b [] rows pl → pl.length = b.days.length → f [.d b.t, .d (.str (Txt.join "\n" rows))] st = .ok (.d (planT pl)) st
theorem read_p {F : FT} (hW : StpP (F 226)) : ReadP (runF F G0 d_read_sheets) := by
 intro st b pl rows hb h0 hr h72 hn hl
 suffices h : Wl (runF F G0 d_read_sheets [.d b.t, .d (.str (Txt.join "\n" rows))] st) fun w σ => w = .d (planT pl) ∧ σ = st by
  obtain ⟨_, _, e, rfl, rfl⟩ := h
  exact e
 refine run_ok rfl ?_
 unfold d_read_sheets
 have j1 := (join_le (n := 1212) (fun y hy => (hr y hy).2) nl1).2
 have S0 : ∀ st, mtR .split (.d (.str (Txt.join "\n" rows))) [.str "\n"] st = .ok (.ref st.length) (st ++ [some (rows.map T.str)]) := fun st => by
  rw [w_split (by omega) nl1, nlc, split_join h0 fun y hy => (hr y hy).1]
  rfl
 have I0 := fun σ => enm_l (f := T.str) (l := rows) (st := σ)
 have d8 := hb.d2
 have hT : isT .str (.str (Txt.join "\n" rows)) = true := rfl
 have P0 : T.tup [] = planT [] := rfl
 generalize Txt.join "\n" rows = tx at *
 walk_at "eq"
 generalize hX : evFor _ _ _ _ _ = X
 obtain ⟨_, _, ⟨p, x4, x5, rfl, rfl, hp⟩, rfl⟩ := for_ok hX (fun i ρ σ => ∃ (p : List (List Scene)) (x4 x5 : Option W), ρ = [some (.d b.t), some (.d (.str tx)), some (.d (.lst (rows.map T.str))), some (.d (planT p)), x4, x5] ∧ σ = st ∧ Rn b p (rows.drop i) pl) ⟨[], none, none, rfl, rfl, hn⟩ (by
  rintro i y _ _ hy ⟨p, x4, x5, rfl, rfl, hp⟩
  obtain ⟨⟨row, i'⟩, hj, _, _, rfl⟩ := map_i hy
  obtain ⟨hi, e⟩ : rows[i]? = some row ∧ i' = i := by
   rw [List.getElem?_zipIdx] at hj
   cases h : rows[i]? with
   | none => rw [h] at hj; cases hj
   | some r => rw [h] at hj; cases hj; exact ⟨rfl, by omega⟩
  obtain ⟨hil, hie⟩ := List.getElem?_eq_some_iff.mp hi
  rw [List.drop_eq_getElem_cons hil, hie] at hp
  obtain ⟨p', q1, q2⟩ : ∃ p', Stp b p row p' ∧ Rn b p' (rows.drop (i + 1)) pl := by
   cases hp with
   | cons h r => exact ⟨_, h, r⟩
  have W0 := fun st => hW st b p p' row hb q1
  refine step_ok rfl ?_
  clear hX hy hW I0 S0 hr hn h0 hp q1
  replace q2 : Hid _ := q2
  have N0 : ∀ st : Sto, evE F G0 (.isN (.v 3)) [some (.d b.t), some (.d (.str tx)), some (.d (.lst (rows.map T.str))), some (.d (planT p')), some (.d (.int i)), some (.d (.str row))] st = .ok (.d (.bl false)) st := fun _ => rfl
  subst e
  dsimp only
  walk_at "eq"
  exact ⟨_, _, rfl, rfl, p', _, _, rfl, rfl, q2⟩)
 rw [List.length_map, List.length_zipIdx, List.drop_length] at hp
 cases hp
 have L0 := fun st => b_lenp (p := pl) (st := st)
 clear hX hW S0 I0 hr hn
 walk_at "eq"
 rw [decide_eq_false (Int.lt_irrefl _)]
 walk_at "eq"
 exact ⟨_, _, rfl, rfl, rfl⟩
theorem all_days_t {F : FT} : DaysOfP (runF F G0 d_all_days) := by
 intro st b h8
 have t0 := fun st => trg_i (n := b.days.length) (st := st) (by omega)
 rw [X_run rfl]
 unfold d_all_days
 walk_at "eq"
theorem upto_all {α β : Type} (f : List α → β) (L : List (List α)) : (upto L.length).map (fun d => f (L[d.toNat]?.getD [])) = L.map f := by
 refine List.ext_getElem (by rw [List.length_map, List.length_map, upto_len]) fun i h1 h2 => ?_
 rw [List.length_map] at h2
 rw [List.getElem_map, List.getElem_map]
 have : (upto L.length)[i]'(by rw [upto_len]; exact h2) = (i : Int) := by unfold upto; rw [List.getElem_map, List.getElem_range]
 rw [this, Int.toNat_natCast, List.getElem?_eq_getElem h2]
 rfl
def SheetsP (f : FW) : Prop := ∀ (st : Sto) (b : Book) (pl : List (List Scene)), BookOk 8 8 b → PlOk b pl → pl.length = b.days.length → f [.d b.t, .d (planT pl)] st = .ok (.d (.str (Txt.join "\n" (rowsAll b pl).flatten))) st
theorem sheets_p {F : FT} (hD : DaysOfP (F 68)) (hS : SheetP (F 156)) : SheetsP (runF F G0 d_sheets) := by
 intro st b pl hb hp hl
 have d8 := hb.d2
 have d8' : b.days.length ≤ 8 := by omega
 have row : ∀ (d : Nat), d < pl.length → ∃ dy ss, b.days[d]? = some dy ∧ pl[d]? = some ss ∧ DayIn b ss := fun d h => ⟨_, _, List.getElem?_eq_getElem (by omega), List.getElem?_eq_getElem h, (hp d _ (List.getElem?_eq_getElem h)).1⟩
 have J0 : ∀ st, mtR .join (.d (.str "\n")) [.lst (((rowsAll b pl).map (Txt.join "\n")).map T.str)] st = .ok (.d (.str (Txt.join "\n" (rowsAll b pl).flatten))) st := fun st => by
  rw [w_join (n := 10917) (m := 8) nl1 ?_ ?_ (by decide), show Txt.join "\n" = Str.join "\n" from funext (join_is _), join_flat]
  · intro l hl
    obtain ⟨d, hd⟩ := List.mem_iff_getElem?.mp hl
    have := (List.getElem?_eq_some_iff.mp hd).1
    rw [all_len] at this
    obtain ⟨dy, ss, h1, h2, _⟩ := row d this
    rw [all_at h1 h2] at hd
    cases hd
    nofun
  · intro y hy
    obtain ⟨l, hl, rfl⟩ := List.mem_map.mp hy
    obtain ⟨d, hd⟩ := List.mem_iff_getElem?.mp hl
    have := (List.getElem?_eq_some_iff.mp hd).1
    rw [all_len] at this
    obtain ⟨dy, ss, h1, h2, h3⟩ := row d this
    rw [all_at h1 h2] at hd
    cases hd
    obtain ⟨w1, w2⟩ := rows_ok hb h1 h3
    exact Nat.le_trans (join_le w1 nl1).2 (Nat.mul_le_mul_right 1213 w2)
  · rw [List.length_map, all_len]
    omega
 rw [X_run rfl]
 have D0 := fun st => hD st b d8'
 unfold d_sheets
 clear hD
 have hm : (upto b.days.length).length = b.days.length := upto_len _
 walk_at "eq"
 generalize hX : evComp _ _ _ _ _ = X
 have e := comp_is hX (fun d => some (.str (Txt.join "\n" ((rowsAll b pl)[d.toNat]?.getD [])))) (by
  intro d hd
  obtain ⟨h0, h1⟩ := upto_mem.mp hd
  obtain ⟨i, rfl⟩ : ∃ i : Nat, d = i := ⟨d.toNat, by omega⟩
  obtain ⟨dy, ss, g1, g2, g3⟩ := row i (by omega)
  have S0 := fun st => hS st b pl i dy ss hb g1 g2 g3
  rw [Int.toNat_natCast, all_at g1 g2]
  refine turn_ok' rfl ?_
  clear hX hS J0 D0 row hp
  show Wl ((evIfs F G0 [] [some (.d b.t), some (.d (planT pl)), some (.d (.int i))] st).bind (kT1 F G0 (.call 156 [.v 0, .v 1, .v 2]) [some (.d b.t), some (.d (planT pl)), some (.d (.int i))] st.length)) _
  walk_at "eq"
  exact ⟨_, _, rfl, rfl, rfl⟩)
 rw [fm_some, ← hl, ← all_len (b := b) (pl := pl), show (fun d => T.str (Txt.join "\n" ((rowsAll b pl)[d.toNat]?.getD []))) = (fun d => (T.str ∘ Txt.join "\n") ((rowsAll b pl)[(d : Int).toNat]?.getD [])) from rfl, upto_all, ← List.map_map] at e
 clear hX hS D0
 walk_at "eq"
theorem in_zip {b : Book} {os : List (Option Int)} {d : Int} {s : Scene} (h : s ∈ dayS (b.scenes.zip os) d) : ∃ i : Nat, b.scenes[i]? = some s ∧ os[i]? = some (some d) := by
 obtain ⟨⟨a, o⟩, hz, e⟩ := List.mem_filterMap.mp h
 obtain ⟨i, hi⟩ := List.mem_iff_getElem?.mp hz
 obtain ⟨h1, h2⟩ := List.getElem?_zip_eq_some.mp hi
 dsimp only at e
 split at e
 · rename_i q
   cases e
   exact ⟨i, h1, q ▸ h2⟩
 · cases e
theorem pl_ok {b : Book} {os : List (Option Int)} {pl : List (List Scene)} (h : Cs b os) (hp : PlanOf b os pl) : PlOk b pl := fun d ss hd => by
 refine ⟨plan_in h hp ss (List.mem_of_getElem? hd), fun l a r e => ?_⟩
 have pd := hp d ss hd
 have ha : a ∈ dayS (b.scenes.zip os) d := pd.mem_iff.mp (e ▸ List.mem_append_right _ (.head _))
 have one : ∀ x ∈ b.scenes, x.name = a.name → x = a := fun x hx e => by
  obtain ⟨i, hi⟩ := List.mem_iff_getElem?.mp hx
  obtain ⟨j, hj⟩ := List.mem_iff_getElem?.mp (day_in ha)
  exact unl_one h.ok.unl.2.2 hi hj e
 intro s2 hs x hx en
 rcases List.mem_append.mp hs with q | q
 · obtain ⟨d', hd'⟩ := List.mem_iff_getElem?.mp q
   rw [List.getElem?_take] at hd'
   split at hd'
   · have hx' := (hp d' s2 hd').mem_iff.mp hx
     cases one x (day_in hx') en
     obtain ⟨i, i1, i2⟩ := in_zip ha
     obtain ⟨j, j1, j2⟩ := in_zip hx'
     have hij := (List.getElem?_inj (List.getElem?_eq_some_iff.mp i1).1 (nodup_sc h.ok)).mp (i1.trans j1.symm)
     rw [hij, j2] at i2
     have := Option.some.inj (Option.some.inj i2)
     omega
   · cases hd'
 · cases List.mem_singleton.mp q
   have hx' : x ∈ dayS (b.scenes.zip os) d := pd.mem_iff.mp (e ▸ List.mem_append_left _ hx)
   cases one x (day_in hx') en
   have nd := pd.nodup_iff.mpr (nodup_day h.ok os d)
   rw [e] at nd
   exact (List.nodup_append.mp nd).2.2 _ hx _ (.head _) rfl
theorem all_ok {b : Book} {pl : List (List Scene)} (hb : BookOk 8 8 b) (hp : PlOk b pl) (hl : pl.length = b.days.length) : ∀ l ∈ rowsAll b pl, (∀ y ∈ l, Fr 10 y ∧ y.length ≤ 1212) ∧ l.length ≤ 9 ∧ l ≠ [] := fun l h => by
 obtain ⟨d, hd⟩ := List.mem_iff_getElem?.mp h
 have hlt := (List.getElem?_eq_some_iff.mp hd).1
 rw [all_len] at hlt
 obtain ⟨dy, h1⟩ : ∃ dy, b.days[d]? = some dy := ⟨_, List.getElem?_eq_getElem (by omega)⟩
 obtain ⟨ss, h2⟩ : ∃ ss, pl[d]? = some ss := ⟨_, List.getElem?_eq_getElem hlt⟩
 rw [all_at h1 h2] at hd
 cases hd
 have hi := (hp d ss h2).1
 have dk := (day_ok hb h1).1
 obtain ⟨w1, w2⟩ := rows_ok hb h1 hi
 refine ⟨fun y hy => ⟨?_, w1 y hy⟩, w2, by nofun⟩
 rcases List.mem_cons.mp hy with rfl | hy
 · exact dayLn_fr (b := b) dk
 · obtain ⟨r, hr, rfl⟩ := List.mem_map.mp hy
   obtain ⟨g1, g2, g3, _, _⟩ := (tmd_ok hb dk ss hi.2).1 r hr
   exact scLn_fr hb ⟨g1, g2, g3, ln_ok hb dk hi r hr⟩
theorem flat_len {b : Book} {pl : List (List Scene)} (hb : BookOk 8 8 b) (hp : PlOk b pl) (hl : pl.length = b.days.length) (i : Nat) : ((rowsAll b pl).take i).flatten.length ≤ 72 := by
 have d8 := hb.d2
 have h := sum_le (f := List.length) (n := 9) (l := (rowsAll b pl).take i) fun l hl' => (all_ok hb hp hl l (List.mem_of_mem_take hl')).2.1
 rw [List.length_flatten]
 refine Nat.le_trans h ?_
 rw [List.length_take, all_len]
 omega
theorem plan_plain {b : Book} {pl : List (List Scene)} (hb : BookOk 8 8 b) (hp : PlOk b pl) (hl : pl.length = b.days.length) : plain (planT pl) = true ∧ dep (planT pl) < 4 := by
 have d8 := hb.d2
 have hx : ∀ t ∈ pl.map dayN, plain t = true ∧ dep t ≤ 1 := fun t ht => by
  obtain ⟨ss, hs, rfl⟩ := List.mem_map.mp ht
  obtain ⟨d, hd⟩ := List.mem_iff_getElem?.mp hs
  have l8 := (hp d ss hd).1.1
  have e0 : deps (ss.map fun s => T.str s.name) ≤ 0 := deps_map _ 0 (fun _ => Nat.le_refl _) ss
  exact ⟨plain_tup (plains_all fun t ht => by obtain ⟨s, _, rfl⟩ := List.mem_map.mp ht; rfl) (by rw [List.length_map]; omega), by unfold dayN; simp only [dep]; omega⟩
 have : deps (pl.map dayN) ≤ 1 := deps_all fun t ht => (hx t ht).2
 exact ⟨plain_tup (plains_all fun t ht => (hx t ht).1) (by rw [List.length_map]; omega), by unfold planT; simp only [dep]; omega⟩
def lvl : Nat := 20
theorem headD : HeadD Ds := ⟨rfl, rfl, rfl, rfl, rfl, rfl, rfl, rfl, rfl, rfl, rfl⟩
def PlanS (b : Book) (pl : List (List Scene)) : Prop := pl.length = b.days.length ∧ PlOk b pl
theorem law_s {F : FT} (hC : CellP (F 0)) (hB : BookP (F 11)) (hP : AnyP (F 193)) (hS : SheetsP (F 194)) (hR : RowsP (F 192)) (hG : ReadP (F 227)) (hA : AlikeP 4 (F 57)) (ns : List Int) : Wl (runF F G0 d_law [.d (.lst (ns.map T.int))] []) fun w _ => w = .d (.bl true) := by
 refine run_ok rfl ?_
 unfold d_law
 obtain ⟨b, hb, B0⟩ := hB [] ns 8 8 (by decide) (by decide) (by decide) (by decide)
 obtain ⟨c, C0⟩ := hC ns 12 (by decide)
 have hrow := row_mk
 obtain ⟨_, r1, ⟨p1, os1, rfl, l1, h1, g1, c1⟩, e1⟩ := (hP ⟨c, 0⟩ b hb 816 ⟨by show (0 : Int) ≤ 0; decide, by show (0 : Int) + 900 ≤ 10 ^ 6; decide⟩).c [] []
 obtain ⟨_, r2, ⟨p2, os2, rfl, l2, h2, g2, c2⟩, e2⟩ := (hP r1 b hb 732 c1).c [] []
 obtain ⟨_, r3, ⟨p3, os3, rfl, l3, h3, g3, _⟩, e3⟩ := (hP r2 b hb 648 c2).c [] []
 have k1 : PlanS b p1 := ⟨l1, pl_ok h1 g1⟩
 have k2 : PlanS b p2 := ⟨l2, pl_ok h2 g2⟩
 have k3 : PlanS b p3 := ⟨l3, pl_ok h3 g3⟩
 have e1' : F 193 [.ref 0, .d b.t] [rowS ⟨c, 0⟩] = .ok (.d (planT p1)) [rowS r1] := e1
 have e2' : F 193 [.ref 0, .d b.t] [rowS r1] = .ok (.d (planT p2)) [rowS r2] := e2
 have e3' : F 193 [.ref 0, .d b.t] [rowS r2] = .ok (.d (planT p3)) [rowS r3] := e3
 have S0 : slW (.d (.lst [planT p1, planT p2, planT p3])) none (some 1) [rowS r3] = .ok (.ref 1) [rowS r3, some [planT p1]] := rfl
 have A0 : binW .add (.d (.lst [planT p1, planT p2, planT p3])) (.ref 1) [rowS r3, some [planT p1]] = .ok (.ref 2) [rowS r3, some [planT p1], some [planT p1, planT p2, planT p3, planT p1]] := w_addL (xs := [planT p1, planT p2, planT p3]) (ys := [planT p1]) rfl rfl (by show 4 ≤ 1000; decide)
 clear e1 e2 e3 hC hB hP c1 c2 l1 l2 l3 h1 h2 h3 g1 g2 g3
 walk_at "eq"
 generalize hX : evFor _ _ _ _ _ = X
 obtain ⟨_, _, ⟨x4, x5, x6, x7, rfl⟩, rfl⟩ := for_ok hX (fun i ρ σ => ∃ x4 x5 x6 x7, ρ = [some (.d (.lst (ns.map T.int))), some (.d b.t), some (.ref 0), some (.d (.lst [planT p1, planT p2, planT p3])), x4, x5, x6, x7]) ⟨none, none, none, none, rfl⟩ (by
  rintro i y _ σ hy ⟨x4, x5, x6, x7, rfl⟩
  obtain ⟨pl, rfl, hl, hp⟩ : ∃ pl, y = planT pl ∧ PlanS b pl := by
   match i, hy with
   | 0, hy => cases hy; exact ⟨p1, rfl, k1⟩
   | 1, hy => cases hy; exact ⟨p2, rfl, k2⟩
   | 2, hy => cases hy; exact ⟨p3, rfl, k3⟩
   | 3, hy => cases hy; exact ⟨p1, rfl, k1⟩
   | n + 4, hy => cases hy
  have N0 := fun st => b_lenp (p := pl) (st := st)
  have d2 := hb.d2
  have d1 := hb.d1
  have ao := all_ok hb hp hl
  have fl := flat_len hb hp hl
  obtain ⟨w1, w2⟩ := plan_plain hb hp hl
  have A1 := fun st => hA st (planT pl) w1 w2
  have T1 := fun st => hS st b pl hb hp hl
  have ne0 : (rowsAll b pl).flatten ≠ [] := fun e => by
   obtain ⟨l, hl'⟩ : ∃ l, l ∈ rowsAll b pl := ⟨_, List.getElem_mem (n := 0) (by rw [all_len]; omega)⟩
   exact (ao l hl').2.2 (List.flatten_eq_nil_iff.mp e l hl')
  have each : ∀ y ∈ (rowsAll b pl).flatten, Fr 10 y ∧ y.length ≤ 1212 := fun y hy => by
   obtain ⟨l, h1, h2⟩ := List.mem_flatten.mp hy
   exact (ao l h1).1 y h2
  have f72 : (rowsAll b pl).flatten.length ≤ 72 := by
   have := fl (rowsAll b pl).length
   rw [List.take_length] at this
   exact this
  have G1 := fun st => hG st b pl _ hb ne0 each f72 (run_all pl hp (by omega)) hl
  have J1 : ∀ st, mtR .join (.d (.str "\n")) [.lst (((rowsAll b pl).flatten).map T.str)] st = .ok (.d (.str (Txt.join "\n" (rowsAll b pl).flatten))) st := fun st => w_join (n := 1212) (m := 72) nl1 (fun y hy => (each y hy).2) f72 (by decide)
  have A2 := fun st => hA st (.str (Txt.join "\n" (rowsAll b pl).flatten)) rfl (by show 0 < 4; decide)
  refine step_ok rfl ?_
  clear hX hy B0 C0 e1' e2' e3' hrow S0 A0 k1 k2 k3 hA hS hG each ne0 f72 ao
  generalize T.lst [planT p1, planT p2, planT p3] = cs at *
  walk_at "eq"
  generalize hY : evFor _ _ _ _ _ = Y
  obtain ⟨_, _, ⟨x6, rfl, rfl⟩, rfl⟩ := for_ok hY (fun i ρ σ' => ∃ x6, ρ = [some (.d (.lst (ns.map T.int))), some (.d b.t), some (.ref 0), some (.d cs), some (.d (planT pl)), some (.d (.lst ((((rowsAll b pl).take i).flatten).map T.str))), x6, x7] ∧ σ' = σ) ⟨x6, rfl, rfl⟩ (by
   rintro d y _ _ hy ⟨x6, rfl, rfl⟩
   obtain ⟨hd, rfl⟩ := rng_i hy
   obtain ⟨ss, hs⟩ : ∃ ss, pl[d]? = some ss := ⟨_, List.getElem?_eq_getElem (by omega)⟩
   obtain ⟨dy, hdy⟩ : ∃ dy, b.days[d]? = some dy := ⟨_, List.getElem?_eq_getElem (by omega)⟩
   have hin := (hp d ss hs).1
   have R1 : ∀ st, F 192 [.d b.t, .d (planT pl), .d (.int d)] st = .ok (.ref st.length) (st ++ [some ((rowsOf b d dy ss).map T.str)]) := fun st => by
    obtain ⟨_, _, e, rfl, rfl⟩ := hR st b pl d dy ss hb hdy hs hin
    exact e
   have hi8 := (rows_ok hb hdy hin).2
   have fd := fl d
   have nx : (((rowsAll b pl).take (d + 1)).flatten).map T.str = (((rowsAll b pl).take d).flatten).map T.str ++ (rowsOf b d dy ss).map T.str := by
    rw [List.take_add_one, all_at hdy hs, List.flatten_append, List.map_append]
    simp
   have B1 : ∀ st, binW .add (.d (.lst ((((rowsAll b pl).take d).flatten).map T.str))) (.ref st.length) (st ++ [some ((rowsOf b d dy ss).map T.str)]) = .ok (.ref (st.length + 1)) (st ++ [some ((rowsOf b d dy ss).map T.str)] ++ [some ((((rowsAll b pl).take (d + 1)).flatten).map T.str)]) := fun st => by
    rw [w_addL (xs := (((rowsAll b pl).take d).flatten).map T.str) (ys := (rowsOf b d dy ss).map T.str) rfl (look_r' sa_get) (by rw [List.length_map, List.length_map]; omega), nx]
    rw [List.length_append]
    rfl
   refine step_ok rfl ?_
   clear hY hy hR hdy hs hp hd J1 T1 G1 A1 A2 nx fl fd
   generalize (((rowsAll b pl).take (d + 1)).flatten).map T.str = r2 at *
   generalize (((rowsAll b pl).take d).flatten).map T.str = r1 at *
   generalize (rowsOf b d dy ss).map T.str = rr at *
   simp only [List.append_assoc, List.cons_append, List.nil_append] at B1
   walk_at "eq"
   exact ⟨_, _, rfl, rfl, _, rfl, rfl⟩)
  rw [rng_len, List.take_of_length_le (by rw [all_len]; omega)]
  clear hY
  generalize (rowsAll b pl).flatten.map T.str = rr at *
  generalize Txt.join "\n" (rowsAll b pl).flatten = tx at *
  walk_at "eq"
  exact ⟨_, _, rfl, rfl, _, _, _, _, rfl⟩)
 clear hX
 walk_at "eq"
 exact ⟨_, _, rfl, rfl⟩
theorem law_true (ns : List Int) (hl : ns.length ≤ 63) : ∃ st', runF (run G0 Ds lvl) G0 d_law [.d (.lst (ns.map T.int))] [] = .ok (.d (.bl true)) st' := by
 have kl : LayP (run G0 Ds 19 62) := up rfl (lay_p (headD.take 17) (up rfl (case_p (headD.take 16))))
 have ka : AnyP (run G0 Ds 20 193) := up rfl (any_p kl (up rfl (plan_p (headD.take 17) (up rfl there_p))))
 have k1 : ScAtP (run G0 Ds 17 12) := up rfl (sc_at (up rfl num_p))
 have k2 : ScNmP (run G0 Ds 15 14) := up rfl (sc_nm (up rfl (sc_at (up rfl num_p))))
 have k3 : ScNmP (run G0 Ds 16 14) := up rfl (sc_nm (up rfl (sc_at (up rfl num_p))))
 have k4 : TimedP (run G0 Ds 16 67) := up rfl (timed_p (up rfl start_p) k2)
 have k5 : LinesP (run G0 Ds 17 107) := up rfl (lines_p k3 k4)
 have k6 : SheetP (run G0 Ds 19 156) := up rfl (sheet_p (up rfl (daysh_p (up rfl dayl_p) k5)))
 have k7 : SheetsP (run G0 Ds 20 194) := up rfl (sheets_p (up rfl all_days_t) k6)
 have k8 : ReadP (run G0 Ds 20 227) := up rfl (read_p (up rfl (wl_p (up rfl dayl_p) (up rfl (wsl_p (up rfl named_p) k1 k5)))))
 have k9 : RowsP (run G0 Ds 20 192) := up rfl (rows_p (up rfl ends_p) (up rfl line_p))
 obtain ⟨_, st, e, rfl⟩ := law_s (headD.cell 19) (headD.book 15) ka k7 k9 k8 (alike_l rfl rfl 4 15) ns
 exact ⟨st, e⟩
end Hd
end
section
namespace Hd
open PySem L2 I PySem.Spec PyProof.Rows
theorem law_fn {P : Program} {w : World} {K : PySem.W.Frag} {mg : Str → Option Value} {tabs : List (Addr × Addr)} (base : Heap) (kb : K.In base) (nb : base.Ns mainGlobals mg) (bm : Bm mg base) (hcd : ∀ q ∈ tabs, PySem.W.CodeHd base q.1 q.2) (ht : AllL (TabsK K tabs) tbl) (hd : AllL (RwOk (gmOf P w K mg base (tabs.map Prod.snd) (gnOf gns) G0)) tbl) (hcs : ∀ q ∈ cnw, ∃ C, ClsNm K C q ∧ mg q = some (.ref C) ∧ Mk0 K C) (hsb : ∀ z ∈ csb, ∃ C C', ClsNm K C z.1 ∧ mg z.2.1 = some (.ref C') ∧ Cls K C ∧ IsO K C C' z.2.2) (hc : AllL (fun r => G0[r.1]? = some (.int r.2.2) ∧ ∃ t, mg r.2.1 = some (.int r.2.2 t)) gns) (hb : ∀ x ∈ blts, mg x = none) (d : Df K mg "law" rlaw.st) {f : Addr} {fd : FuncData} (F : Fun K "law" "law" rlaw.st f fd) : FnOk P w K mg base CX0 (2 * lvl + 2) f fd ["_law_script"] (spLawG K tabs) := by
 refine law_ok (Γ := gmOf P w K mg base (tabs.map Prod.snd) (gnOf gns) G0) (tx_of checks hd (tb_of ht kb nb bm hcd) hcs hsb rfl (gok_of rfl hc) hb) (n := lvl) F "_law_script" (chk_ok check_law d nofun) (spLawG K tabs) fun vs H Q E h => ?_
 obtain ⟨a, ns, rfl, hS, hl, hT, q⟩ := h
 exact ⟨rfl, law_sp (Γ := gmOf P w K mg base (tabs.map Prod.snd) (gnOf gns) G0) hS (fun P hP => by obtain ⟨z, hz, rfl⟩ := List.mem_map.mp hP; exact hT z hz) (law_true ns hl) fun H' h' => q H' fun z hz => h' z.2 (List.mem_map_of_mem hz)⟩
theorem all_mk {l : PySem.W.OpenLaw} {w : World} {K : PySem.W.Frag} {h : Heap} {mg : Str → Option Value} {fa : Addr} {tabs : List (Addr × Addr)} (X : K.In h) (G : h.Ns mainGlobals mg) (hfa : mg "law" = some (.ref fa)) (hT : AllL (fun q => PySem.W.CodeHd h q.1 q.2 ∧ h.get? q.2 = some (PySem.W.tabObj #[])) tabs) (ht : AllL (TabsK K tabs) tbl) (hl : Kf K "law" rlaw.st) (hd : AllL (RwK K) tbl) (hk : AllL (Kc K) ccs) (hn : AllL (Kn K) cnw) (hs : AllL (Ks K) csb) (hc : AllL (fun r => ∃ t, PySem.W.nsIn K mainGlobals r.2.1 = some (some (.int r.2.2 t))) gns) (hb : AllL (fun x => PySem.W.nsIn K mainGlobals x = some none) blts) : LawFnG l w K mg fa h (2 * lvl + 2) :=
 lawFnG_of X G hfa hT hl (chk_hb check_law "law") fun base f fd kb nb bm hcd F d => law_fn base kb nb bm hcd ht (AllL.of_mem fun r hr => rws_of (Γ := gmOf l.prog w K mg base (tabs.map Prod.snd) (gnOf gns) G0) check_cls X G hk r hr (hd.mem r hr)) (news_of check_cls X G hk hn) (subs_of check_cls X G hk hs) (gs_of (by decide) hc X G) (fun x hx => PySem.W.mg_none_of X G (hb.mem x hx)) d F
end Hd
open PySem PySem.W PyProof.Rows
set_option maxHeartbeats 0 in
theorem PySem.Challenge.cw_shootdays_k57_whole_sheets_read_back_holds : PySem.Challenge.rw_shootdays_k57_whole_sheets_read_back.Holds := by
 refine holds_law Hd.tlook fun said => ?_
 refine holds_open (q := Hd.vw) (loose := []) (XP := XL Hd.vw []) (YP := Hook.says (kHook Hd.kf Hd.ka Hd.kae)) (N := 3576) Hd.thl (Hook.of (kHook Hd.kf Hd.ka Hd.kae)) (Hook.keeps (kHook Hd.kf Hd.ka Hd.kae)) (fun s e => xl_of s (Bool.and_eq_true_iff.mp e).1) XL.keeps (by rfl) (by rfl) (by rfl) (fun s e => recFacts_of (Bool.and_eq_true_iff.mp e).2) rfl said (by kernel_rfl) ⟨rfl, rfl, rfl, rfl, rfl, by kernel_rfl⟩ ?hw ?hc
 case hw => w_witness2
 k_fill
 refine I.walkG (l := PySem.Challenge.rw_shootdays_k57_whole_sheets_read_back) (n := 2 * Hd.lvl + 2) rfl rfl (by decide) (fun w h Y => PySem.W.kIn_of Y) (fun w => by kernel_rfl) ?F
 case F =>
  intro w mg mb fa h s0 GG KX G hmg
  have hs12 : (PySem.W.tabIn (L2.KOf KX) "with_scene_line").isSome = true := by dsimp only [L2.KOf]; kernel_rfl
  obtain ⟨⟨tc12, tP12⟩, tt12⟩ := Option.isSome_iff_exists.mp hs12
  have tT12 := PySem.W.tab_of (x := PySem.Str.ofString "with_scene_line") (W.Ground.T GG) KX rfl tt12
  refine' Hd.all_mk (tabs := [(tc12, tP12)]) KX G hmg ⟨tT12, trivial⟩ ⟨nofun, nofun, nofun, nofun, nofun, nofun, nofun, nofun, nofun, nofun, nofun, nofun, (fun _ => ⟨_, (.head _), tt12⟩), nofun, nofun, nofun, nofun, nofun, nofun, nofun, nofun, nofun, nofun, nofun, nofun, nofun, nofun, nofun, nofun, nofun, nofun, nofun, nofun, nofun, nofun, nofun, trivial⟩ (I.kf_mk (x := "law") (st := Hd.top 51) ?_ ?_ ?_ ?_) ⟨I.kf_mk .., I.kf_mk .., I.kf_mk .., I.kf_mk .., I.kf_mk .., I.kf_mk .., I.kf_mk .., I.kf_mk .., I.kf_mk .., I.kf_mk .., I.kf_mk .., I.kf_mk .., I.kf_mk .., I.kf_mk .., I.kf_mk .., I.kf_mk .., I.kf_mk .., I.kf_mk .., I.kf_mk .., I.kf_mk .., I.kf_mk .., I.kf_mk .., I.kf_mk .., I.kf_mk .., I.kf_mk .., I.kf_mk .., I.kf_mk .., I.kf_mk .., I.kf_mk .., I.kf_mk .., I.kf_mk .., I.kf_mk .., I.kf_mk .., I.kf_mk .., I.kf_mk .., I.kf_mk .., trivial⟩ trivial trivial trivial ⟨I.ng_mk .., I.ng_mk .., I.ng_mk .., I.ng_mk .., I.ng_mk .., I.ng_mk .., I.ng_mk .., I.ng_mk .., trivial⟩ ⟨I.nz_mk .., I.nz_mk .., I.nz_mk .., I.nz_mk .., I.nz_mk .., I.nz_mk .., I.nz_mk .., I.nz_mk .., I.nz_mk .., I.nz_mk .., I.nz_mk .., I.nz_mk .., I.nz_mk .., I.nz_mk .., I.nz_mk .., I.nz_mk .., I.nz_mk .., I.nz_mk .., trivial⟩
  all_goals first | k_is | skip
end
