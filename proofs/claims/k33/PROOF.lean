import PyProof.Rows.All
import Wide.All
import OpenK.AllK
import Wide.FinOn
import Lean
import PyProof.EqAt
import PyProof.EqKinds
import PyProof.TupleCall
import PyProof.NeKinds
import PyProof.TupleOfGen
import PyProof.Rows.SortWalk
import PyProof.Rows.SumAny
import PyProof.Rows.SortRev
import PyProof.Rows.SortStr
import PyProof.TupleOfSeq
import PyProof.MeetsSeq
import KE.KSortAsk
import KE.KSortTup
import PySem.Challenge.RW_shootdays_k33_bounds
set_option maxRecDepth 100000
set_option maxHeartbeats 8000000
set_option Elab.async false
set_option linter.unusedVariables false
open PySem PySem.Spec PyProof.Rows
noncomputable section
section
open PySem PySem.Spec PyProof.Rows
namespace L2
def aV (s : Stmt) : Arguments := match s with
 | .FunctionDef _ a _ _ _ _ _ _ _ _ => a
 | _ => { posonlyargs := [], args := [], vararg := none, kwonlyargs := [], kw_defaults := [], kwarg := none, defaults := [] }
end L2
end
section
open PySem PySem.Spec PyProof.Rows
namespace L2
def aF (s : Stmt) : List Stmt := match s with
 | .FunctionDef _ _ b _ _ _ _ _ _ _ => b
 | _ => []
end L2
end
section
open PySem PySem.Spec PyProof.Rows
namespace L2
def ai (s : Stmt) : Scope := match s with
 | .FunctionDef _ _ _ _ _ _ sc _ _ _ => sc
 | _ => { kind := .function, names := [], isGenerator := false, isCoroutine := false }
end L2
end
section
open PySem PySem.Spec PyProof.Rows
namespace Hd
open L2
def au (i : Nat) : Stmt := PySem.Challenge.pw_shootdays_k33_bounds.main.body.getD i (.Pass ⟨0, 0, 0, 0⟩)
end Hd
end
section
open PySem PySem.Spec PyProof.Rows
namespace Hd
open L2
def dn : Stmt → Str | .FunctionDef x .. => x | _ => ""
def Gi : Value := .str "shootdays.books" 187
def JF : Value := .str "shootdays.cases" 249
def Bh : Value := .str "shootdays.costs" 257
def zc : Value := .str "shootdays.bounds" 328
def iX : Value := .str "law_shootdays_k33_bounds" 409
def HS : Str := "/claim/cut.py"
def fo (s : Stmt) (q : Str) (pm : Value) (c : Addr) : Obj := ⟨.type "function", none, .func (PySem.W.fnOf (dn s) q (aV s) (aF s) (ai s) .none .none .none pm none (.ref c) .none), #[]⟩
def co (s : Stmt) (y : Str) (t : Tok) (l n : Int) (a b : Addr) (u v : Value) (c : Addr) (p q : Int) (z : Tok) : Obj := ⟨.type "code", none, .fields #[.str (dn s) t, .str y (t + 1), .str HS (t + 2), .int l 0, .int n 0, .int 0 0, .int 0 0, .int 3 0, .ref a, .bool true, .int 181 0, .ref b, .none, u, v, .ref c, .int p 0, .int q 0, .str HS z], #[]⟩
def f0 (i : Nat) (pm : Value) (c : Addr) : Obj := fo (au i) (dn (au i)) pm c
def c0 (i : Nat) : Tok → Int → Int → Addr → Addr → Value → Value → Addr → Int → Int → Tok → Obj := co (au i) (dn (au i))
def ke (P : Params) (x : Str) (t : Tok) (v : Value) : DictEntry := ⟨PyData.keyHash P x, .str x t, v⟩
def JP (P : Params) : List DictEntry := [ke P "__name__" 165 iX, ke P "__doc__" 166 (.none), ke P "__package__" 167 (.none), ke P "__loader__" 168 (.builtin "__main__.__loader__#opaque"), ke P "__spec__" 169 (.none), ke P "__annotations__" 170 (.ref 6)]
def JW (P : Params) : List DictEntry := [ke P "__builtins__" 171 (.ref 4), ke P "__file__" 173 (.str HS 172), ke P "__cached__" 174 (.none), ke P "CREW" 190 (.int 0 189), ke P "DAYS" 192 (.int 2 191), ke P "PLACES" 194 (.int 3 193)]
def Jy (P : Params) : List DictEntry := [ke P "PLAYERS" 196 (.int 4 195), ke P "SCENES" 198 (.int 5 197), ke P "NAME" 200 (.int 0 199), ke P "PLACE" 202 (.int 1 201), ke P "LENGTH" 204 (.int 2 203), ke P "CAST" 206 (.int 4 205)]
def JO (P : Params) : List DictEntry := [ke P (dn (au 10)) 216 (.ref 21), ke P (dn (au 11)) 224 (.ref 28), ke P (dn (au 12)) 232 (.ref 35), ke P (dn (au 13)) 240 (.ref 42), ke P (dn (au 14)) 248 (.ref 49), ke P (dn (au 16)) 256 (.ref 54)]
def JB (P : Params) : List DictEntry := [ke P (dn (au 18)) 277 (.ref 61), ke P (dn (au 19)) 283 (.ref 66), ke P (dn (au 20)) 289 (.ref 71), ke P (dn (au 21)) 298 (.ref 78), ke P (dn (au 22)) 313 (.ref 85), ke P (dn (au 23)) 319 (.ref 90)]
def JG (P : Params) : List DictEntry := [ke P (dn (au 24)) 327 (.ref 97), ke P (dn (au 26)) 341 (.ref 104), ke P (dn (au 27)) 347 (.ref 109), ke P (dn (au 28)) 353 (.ref 114), ke P (dn (au 29)) 364 (.ref 121), ke P (dn (au 30)) 370 (.ref 126)]
def JE (P : Params) : List DictEntry := [ke P (dn (au 31)) 381 (.ref 133), ke P (dn (au 32)) 394 (.ref 140), ke P (dn (au 33)) 408 (.ref 147), ke P (dn (au 35)) 418 (.ref 154), ke P (dn (au 36)) 428 (.ref 161), ke P (dn (au 37)) 438 (.ref 168)]
def JA (P : Params) : List DictEntry := [ke P (dn (au 38)) 446 (.ref 175), ke P (dn (au 39)) 452 (.ref 180), ke P (dn (au 40)) 465 (.ref 187), ke P (dn (au 41)) 471 (.ref 192), ke P (dn (au 42)) 477 (.ref 197), ke P (dn (au 43)) 491 (.ref 204)]
def JS (P : Params) : List DictEntry := [ke P (dn (au 44)) 497 (.ref 209), ke P (dn (au 45)) 518 (.ref 216), ke P (dn (au 46)) 530 (.ref 223), ke P (dn (au 47)) 536 (.ref 228), ke P (dn (au 48)) 542 (.ref 233), ke P (dn (au 49)) 548 (.ref 238)]
def Jw (P : Params) : List DictEntry := [ke P (dn (au 50)) 554 (.ref 243), ke P (dn (au 51)) 561 (.ref 250), ke P (dn (au 52)) 567 (.ref 255), ke P (dn (au 53)) 583 (.ref 262), ke P (dn (au 54)) 594 (.ref 269)]
def kg (P : Params) : Obj := ⟨.type "dict", none, .dict (JP P ++ (JW P ++ (Jy P ++ (JO P ++ (JB P ++ (JG P ++ (JE P ++ (JA P ++ (JS P ++ (Jw P)))))))))).toArray 59, #[]⟩
def kf (P : Params) : PySem.W.Frag := (nat_lit 3, kg P) :: (nat_lit 20, c0 10 207 11 2 15 16 (.ref 17) (.ref 18) 19 214 11 215) :: (nat_lit 21, f0 10 Gi 20) :: (nat_lit 27, c0 11 217 16 2 22 23 (.ref 24) (.ref 25) 26 222 16 223) :: (nat_lit 28, f0 11 Gi 27) :: (nat_lit 34, c0 12 225 18 2 29 30 (.ref 31) (.ref 32) 33 230 18 231) :: (nat_lit 35, f0 12 Gi 34) :: (nat_lit 41, c0 13 233 20 2 36 37 (.ref 38) (.ref 39) 40 238 20 239) :: (nat_lit 42, f0 13 Gi 41) :: (nat_lit 48, c0 14 241 22 2 43 44 (.ref 45) (.ref 46) 47 246 22 247) :: (nat_lit 49, f0 14 Gi 48) :: (nat_lit 53, c0 16 251 25 3 50 51 .none .none 52 254 25 255) :: (nat_lit 54, f0 16 JF 53) :: (nat_lit 60, c0 18 259 29 3 55 56 (.ref 57) (.ref 58) 59 275 29 276) :: (nat_lit 61, f0 18 Bh 60) :: (nat_lit 65, c0 19 278 37 3 62 63 .none .none 64 281 37 282) :: (nat_lit 66, f0 19 Bh 65) :: (nat_lit 70, c0 20 284 41 1 67 68 .none .none 69 287 41 288) :: (nat_lit 71, f0 20 Bh 70) :: (nat_lit 77, c0 21 290 43 3 72 73 (.ref 74) (.ref 75) 76 296 43 297) :: (nat_lit 78, f0 21 Bh 77) :: (nat_lit 84, c0 22 299 45 3 79 80 (.ref 81) (.ref 82) 83 311 45 312) :: (nat_lit 85, f0 22 Bh 84) :: (nat_lit 89, c0 23 314 51 2 86 87 .none .none 88 317 51 318) :: (nat_lit 90, f0 23 Bh 89) :: (nat_lit 96, c0 24 320 57 2 91 92 (.ref 93) (.ref 94) 95 325 57 326) :: (nat_lit 97, f0 24 Bh 96) :: (nat_lit 103, c0 26 330 60 1 98 99 (.ref 100) (.ref 101) 102 339 60 340) :: (nat_lit 104, f0 26 zc 103) :: (nat_lit 108, c0 27 342 70 1 105 106 .none .none 107 345 70 346) :: (nat_lit 109, f0 27 zc 108) :: (nat_lit 113, c0 28 348 72 1 110 111 .none .none 112 351 72 352) :: (nat_lit 114, f0 28 zc 113) :: (nat_lit 120, c0 29 354 74 3 115 116 (.ref 117) (.ref 118) 119 362 74 363) :: (nat_lit 121, f0 29 zc 120) :: (nat_lit 125, c0 30 365 76 2 122 123 .none .none 124 368 76 369) :: (nat_lit 126, f0 30 zc 125) :: (nat_lit 132, c0 31 371 82 2 127 128 (.ref 129) (.ref 130) 131 379 82 380) :: (nat_lit 133, f0 31 zc 132) :: (nat_lit 139, c0 32 382 85 2 134 135 (.ref 136) (.ref 137) 138 392 85 393) :: (nat_lit 140, f0 32 zc 139) :: (nat_lit 146, c0 33 395 88 2 141 142 (.ref 143) (.ref 144) 145 406 88 407) :: (nat_lit 147, f0 33 zc 146) :: (nat_lit 153, c0 35 411 95 2 148 149 (.ref 150) (.ref 151) 152 416 95 417) :: (nat_lit 154, f0 35 iX 153) :: (nat_lit 160, c0 36 419 99 2 155 156 (.ref 157) (.ref 158) 159 426 99 427) :: (nat_lit 161, f0 36 iX 160) :: (nat_lit 167, c0 37 429 108 2 162 163 (.ref 164) (.ref 165) 166 436 108 437) :: (nat_lit 168, f0 37 iX 167) :: (nat_lit 174, c0 38 439 113 1 169 170 (.ref 171) (.ref 172) 173 444 113 445) :: (nat_lit 175, f0 38 iX 174) :: (nat_lit 179, c0 39 447 118 2 176 177 .none .none 178 450 118 451) :: (nat_lit 180, f0 39 iX 179) :: (nat_lit 186, c0 40 453 128 3 181 182 (.ref 183) (.ref 184) 185 463 128 464) :: (nat_lit 187, f0 40 iX 186) :: (nat_lit 191, c0 41 466 135 2 188 189 .none .none 190 469 135 470) :: (nat_lit 192, f0 41 iX 191) :: (nat_lit 196, c0 42 472 138 2 193 194 .none .none 195 475 138 476) :: (nat_lit 197, f0 42 iX 196) :: (nat_lit 203, c0 43 478 141 2 198 199 (.ref 200) (.ref 201) 202 489 141 490) :: (nat_lit 204, f0 43 iX 203) :: (nat_lit 208, c0 44 492 150 5 205 206 .none .none 207 495 150 496) :: (nat_lit 209, f0 44 iX 208) :: (nat_lit 215, c0 45 498 158 3 210 211 (.ref 212) (.ref 213) 214 516 158 517) :: (nat_lit 216, f0 45 iX 215) :: (nat_lit 222, c0 46 519 172 3 217 218 (.ref 219) (.ref 220) 221 528 172 529) :: (nat_lit 223, f0 46 iX 222) :: (nat_lit 227, c0 47 531 180 3 224 225 .none .none 226 534 180 535) :: (nat_lit 228, f0 47 iX 227) :: (nat_lit 232, c0 48 537 182 3 229 230 .none .none 231 540 182 541) :: (nat_lit 233, f0 48 iX 232) :: (nat_lit 237, c0 49 543 188 2 234 235 .none .none 236 546 188 547) :: (nat_lit 238, f0 49 iX 237) :: (nat_lit 242, c0 50 549 201 2 239 240 .none .none 241 552 201 553) :: (nat_lit 243, f0 50 iX 242) :: (nat_lit 249, c0 51 555 220 1 244 245 (.ref 246) (.ref 247) 248 559 220 560) :: (nat_lit 250, f0 51 iX 249) :: (nat_lit 254, c0 52 562 222 2 251 252 .none .none 253 565 222 566) :: (nat_lit 255, f0 52 iX 254) :: (nat_lit 261, c0 53 568 232 2 256 257 (.ref 258) (.ref 259) 260 581 232 582) :: (nat_lit 262, f0 53 iX 261) :: (nat_lit 268, c0 54 584 247 1 263 264 (.ref 265) (.ref 266) 267 592 247 593) :: (nat_lit 269, f0 54 iX 268) :: []
def ka : List Addr := [3, 20, 21, 27, 28, 34, 35, 41, 42, 48, 49, 53, 54, 60, 61, 65, 66, 70, 71, 77, 78, 84, 85, 89, 90, 96, 97, 103, 104, 108, 109, 113, 114, 120, 121, 125, 126, 132, 133, 139, 140, 146, 147, 153, 154, 160, 161, 167, 168, 174, 175, 179, 180, 186, 187, 191, 192, 196, 197, 203, 204, 208, 209, 215, 216, 222, 223, 227, 228, 232, 233, 237, 238, 242, 243, 249, 250, 254, 255, 261, 262, 268, 269]
theorem FF (P : Params) : ka = (kf P).map (·.1) := by kernel_rfl
def vw : Program := { PySem.Challenge.pw_shootdays_k33_bounds with main := { PySem.Challenge.pw_shootdays_k33_bounds.main with body := [au 1, au 2, au 3, au 4, au 5, au 6, au 7, au 8, au 9, au 10, au 11, au 12, au 13, au 14, au 16, au 18, au 19, au 20, au 21, au 22, au 23, au 24, au 26, au 27, au 28, au 29, au 30, au 31, au 32, au 33, au 35, au 36, au 37, au 38, au 39, au 40, au 41, au 42, au 43, au 44, au 45, au 46, au 47, au 48, au 49, au 50, au 51, au 52, au 53, au 54] } }
end Hd
end
section
open PySem PySem.W PyProof.Rows
theorem Hd.tlook : PySem.Challenge.rw_shootdays_k33_bounds.wellSaid = true := by kernel_rfl
theorem Hd.thl : LeftO (OpenLaw.row PySem.Challenge.rw_shootdays_k33_bounds).prog Hd.vw [] (fun s => xlAt Hd.vw [] s && recOk (OpenRow.toRowW (OpenLaw.row PySem.Challenge.rw_shootdays_k33_bounds)).records s) (Hook.obs (kHook Hd.kf Hd.ka Hd.FF)) (Hook.val (kHook Hd.kf Hd.ka Hd.FF)) 2878 := fun w => by kernel_rfl
end
section
namespace L2
inductive V where
 | non | bl (b : Bool) | int (i : Int) | str (x : Str) | byt (b : Array UInt8) | flt (b : UInt64) | ref (a : Addr) | ty (n : String)
 deriving DecidableEq
def RelV : V → Value → Prop
 | .non, u => u = Value.none
 | .bl b, u => u = Value.bool b
 | .int i, u => ∃ t, u = Value.int i t
 | .str x, u => ∃ t, u = Value.str x t
 | .byt b, u => ∃ t, u = Value.bytes b t
 | .flt b, u => ∃ t, u = Value.float b t
 | .ref a, u => u = Value.ref a
 | .ty n, u => u = Value.type n
abbrev am : List V → List Value → Prop := Paired RelV
theorem am.length (r : am xs us) : xs.length = us.length := Paired.length r
theorem am.get : ∀ {xs} {us} {i : Nat} {x}, am xs us → xs[i]? = some x → ∃ u, us[i]? = some u ∧ RelV x u
 | _, _, _, _, .nil, e => by simp at e
 | _, _, 0, _, .cons r _, e => by grind
 | _, _, i + 1, x, .cons _ t, e => by
  obtain ⟨u, h1, h2⟩ := am.get t (by simpa using e)
  grind
theorem am.set (r : RelV x u) : ∀ {xs} {us} (i : Nat), am xs us → am (xs.set i x) (us.set i u)
 | _, _, _, .nil => .nil
 | _, _, 0, .cons _ t => .cons r t
 | _, _, i + 1, .cons q t => .cons q (am.set r i t)
theorem am.append : ∀ {xs ys} {us ws}, am xs us → am ys ws → am (xs ++ ys) (us ++ ws)
 | _, _, _, _, .nil, s => s
 | _, _, _, _, .cons r t, s => .cons r (am.append t s)
theorem am.take : ∀ {xs} {us} (n : Nat), am xs us → am (xs.take n) (us.take n)
 | _, _, 0, _ => .nil
 | _, _, _ + 1, .nil => .nil
 | _, _, n + 1, .cons r t => .cons r (am.take n t)
theorem am.drop : ∀ {xs} {us} (n : Nat), am xs us → am (xs.drop n) (us.drop n)
 | _, _, 0, r => r
 | _, _, _ + 1, .nil => .nil
 | _, _, n + 1, .cons _ t => am.drop n t
inductive HO where
 | lst (xs : List V)
 | tup (xs : List V)
 | set (S : Int → Bool) (n : Nat)
 | own (x : Addr)
 | rng (lo hi : Int)
 | frz (o : Obj) (u : HO)
 | tbl (ps : Array Value)
 | ext (φ : Heap → Prop)
abbrev Hp := Addr → Option HO
def bB (H : Hp) (a : Addr) (o : HO) : Hp := fun b => if b = a then some o else H b
theorem cc : bB H a o a = some o := by unfold bB; rw [if_pos rfl]
theorem ay {a b} {o} (h : b ≠ a) : bB H a o b = H b := by unfold bB; rw [if_neg h]
theorem aR {H : Hp} {a b} {o} (h : H a = some o) (h' : H b = none) : a ≠ b := by
 grind
section
variable (P : Program) (w : World)
def bz (H : Hp) (h : Heap) (a : Addr) : HO → Prop
 | .lst xs => xs.length ≤ sizeLine ∧ ∃ (its : List Value) (n : Nat), am xs its ∧ h.get? a = some { cls := .type "list", data := .seq its.toArray n }
 | .tup xs => xs.length ≤ sizeLine ∧ ∃ its : List Value, am xs its ∧ IsTup h a its.toArray
 | .set S n => h.SetOf (intKind P w) a S n
 | .own _ => ∃ o, h.get? a = some o
 | .rng lo hi => ∃ t u v, h.get? a = some { cls := .type "range", data := .fields #[.int lo t, .int hi u, .int 1 v] }
 | .frz o u => h.get? a = some o ∧ bz H h a u
 | .tbl ps => h.get? a = some { cls := .none, data := .fields ps }
 | .ext φ => φ h ∧ (∃ o, h.get? a = some o) ∧ ∀ h1 h2 : Heap, φ h1 → (∀ o, h1.get? a = some o → h2.get? a = some o) → φ h2
def gh (H : Hp) (h : Heap) : Prop := ∀ a o, H a = some o → bz P w H h a o
end
section
variable {P : Program} {w : World} {H H' : Hp} {h h' : Heap} {a : Addr} {o : HO}
theorem bz.lt (x : bz P w H h a o) : a < h.objs.size := by
 cases o with
 | lst xs => obtain ⟨_, _, _, _, e⟩ := x; exact Heap.lt_size e
 | tup xs => obtain ⟨_, _, _, p⟩ := x; exact p.lt
 | set S n => obtain ⟨o, _, _, _, e, _⟩ := x; exact Heap.lt_size e
 | own y => obtain ⟨_, e⟩ := x; exact Heap.lt_size e
 | rng lo hi => obtain ⟨_, _, _, e⟩ := x; exact Heap.lt_size e
 | frz ob u => obtain ⟨e, _⟩ := x; exact Heap.lt_size e
 | tbl ps => exact Heap.lt_size (show h.get? a = some _ from x)
 | ext φ => obtain ⟨_, ⟨_, e⟩, _⟩ := x; exact Heap.lt_size e
theorem bz.stay (x : bz P w H h a o) (k : ∀ b u, (b = a ∨ H b = some (.own a)) → h.get? b = some u → h'.get? b = some u)
 (ho : ∀ b, H b = some (.own a) → H' b = some (.own a)) : bz P w H' h' a o := by
 induction o with
 | lst xs => obtain ⟨z, its, n, r, e⟩ := x; exact ⟨z, its, n, r, k _ _ (.inl rfl) e⟩
 | tup xs => obtain ⟨z, its, r, ob, e, c⟩ := x; exact ⟨z, its, r, ob, k _ _ (.inl rfl) e, c⟩
 | set S n => obtain ⟨ob, es, ep, t, e, c⟩ := x; exact ⟨ob, es, ep, t, k _ _ (.inl rfl) e, c⟩
 | own y => obtain ⟨ob, e⟩ := x; exact ⟨ob, k _ _ (.inl rfl) e⟩
 | rng lo hi => obtain ⟨t, u, v, e⟩ := x; exact ⟨t, u, v, k _ _ (.inl rfl) e⟩
 | frz ob u ih => obtain ⟨e, q⟩ := x; exact ⟨k _ _ (.inl rfl) e, ih q⟩
 | tbl ps =>
  have e : h.get? a = some { cls := .none, data := .fields ps } := x
  show h'.get? a = some { cls := .none, data := .fields ps }
  exact k a _ (.inl rfl) e
 | ext φ => obtain ⟨p, ⟨o, e⟩, st⟩ := x; exact ⟨st _ _ p fun o q => k _ _ (.inl rfl) q, ⟨o, k _ _ (.inl rfl) e⟩, st⟩
theorem gh.lt (x : gh P w H h) (e : H a = some o) : a < h.objs.size := (x a o e).lt
theorem gh.fresh (x : gh P w H h) (e : h.objs.size ≤ a) : H a = none := by
 cases q : H a with
 | none => rfl
 | some u => exact absurd (Nat.lt_of_lt_of_le (x.lt q) e) (Nat.lt_irrefl _)
theorem gh.kept (x : gh P w H h) (k : ∀ b u, h.get? b = some u → h'.get? b = some u) : gh P w H h' := fun a o e =>
 (x a o e).stay (fun b u _ q => k b u q) fun _ q => q
theorem gh.laid (x : gh P w H h) (k : ∀ b u, h.get? b = some u → h'.get? b = some u) (hp : h.objs.size ≤ a) (new : bz P w (bB H a o) h' a o) : gh P w (bB H a o) h' := fun b u e => by
 have hn := x.fresh hp
 by_cases hb : b = a
 · subst hb; rw [cc] at e; cases e; exact new
 · rw [ay hb] at e
   exact (x b u e).stay (fun c v _ q => k c v q) fun c q => by rw [ay (aR q hn)]; exact q
end
def Rd (H : Hp) (a : Addr) (u : HO) : Prop := H a = some u ∨ ∃ o, H a = some (.frz o u)
theorem Rd.ok {H} {h} {a} {u} (r : Rd H a u) (x : gh P w H h) : bz P w H h a u := by
 rcases r with r | ⟨o, r⟩
 · exact x a u r
 · obtain ⟨_, q⟩ := x a _ r
   exact q
def Gs : Option HO → Prop
 | some (.lst _) => True
 | some (.set _ _) => True
 | some (.ext _) => True
 | _ => False
section
variable {P : Program} {w : World} {H : Hp} {h h' : Heap} {x e : Addr} {o' : HO}
theorem gh.write (ok : gh P w H h) (mu : Gs (H x)) (he : e = x ∨ H e = some (.own x)) (k : ∀ b u, b ≠ e → h.get? b = some u → h'.get? b = some u) (heo : ∃ u, h'.get? e = some u)
 (new : bz P w (bB H x o') h' x o') : gh P w (bB H x o') h' := fun b u q => by
 have nown : ∀ c y, H c = some (.own y) → c ≠ x := fun c y r z => by subst z; rw [r] at mu; exact mu
 by_cases hb : b = x
 · subst hb; rw [cc] at q; cases q; exact new
 · rw [ay hb] at q
   by_cases hbe : b = e
   · have q' : H b = some (.own x) := by
      rcases he with z | z
      · exact absurd (hbe.trans z) hb
      · rw [hbe]; exact z
     rw [q] at q'; cases q'
     obtain ⟨v, hv⟩ := heo
     exact ⟨v, by rw [hbe]; exact hv⟩
   · refine (ok b u q).stay (fun c v hc r => k c v ?_ r) fun c r => by rw [ay (nown c b r)]; exact r
     rcases hc with rfl | hc
     · exact hbe
     · rintro rfl
       rcases he with z | z
       · exact nown c b hc z
       · rw [hc] at z; cases z; exact hb rfl
end
structure Un (fs ex : List Addr) (H H' : Hp) (h h' : Heap) : Prop where
 keep : ∀ b o, h.get? b = some o → H b = none → b ∉ fs → b ∉ ex → h'.get? b = some o
 slot : ∀ b o, h.get? b = some o → H b = none → b ∈ fs → b ∉ ex → ∃ sl, h'.get? b = some { o with slots := sl }
 free : ∀ b o, h.get? b = some o → H b = none → b ∉ ex → H' b = none
 there : ∀ b o, h.get? b = some o → b ∉ ex → ∃ o', h'.get? b = some o'
 tups : ∀ b xs, H b = some (.tup xs) → H' b = some (.tup xs)
 frzs : ∀ b o u, H b = some (.frz o u) → H' b = some (.frz o u)
 tbls : ∀ b ps, H b = some (.tbl ps) → ∃ more, H' b = some (.tbl (ps ++ more))
section
variable {fs fs' ex ex' : List Addr} {H H1 H2 : Hp} {h h1 h2 h' : Heap} {a x e : Addr} {o : HO}
theorem Un.any (u : Un fs ex H H1 h h1) {b} {ob} (q : h.get? b = some ob) (n : H b = none) (hx : b ∉ ex) : ∃ sl, h1.get? b = some { ob with slots := sl } := by
 by_cases hb : b ∈ fs
 · exact u.slot b ob q n hb hx
 · exact ⟨_, u.keep b ob q n hb hx⟩
theorem Un.kept (k : ∀ b u, h.get? b = some u → h'.get? b = some u) : Un fs ex H H h h' :=
 ⟨fun b ob q _ _ _ => k b ob q, fun b ob q _ _ _ => ⟨_, k b ob q⟩, fun _ _ _ n _ => n, fun b ob q _ => ⟨ob, k b ob q⟩, fun _ _ q => q, fun _ _ _ q => q, fun _ ps q => ⟨#[], by rw [q]; simp⟩⟩
theorem Un.refl : Un fs ex H H h h := Un.kept fun _ _ q => q
theorem Un.laid (k : ∀ b u, h.get? b = some u → h'.get? b = some u) (hp : h.objs.size ≤ a) (hn : H a = none) : Un fs ex H (bB H a o) h h' where
 keep := fun b u q _ _ _ => k b u q
 slot := fun b u q _ _ _ => ⟨_, k b u q⟩
 free := fun b u q n _ => by rw [ay (Nat.ne_of_lt (Nat.lt_of_lt_of_le (Heap.lt_size q) hp))]; exact n
 there := fun b u q _ => ⟨u, k b u q⟩
 tups := fun b xs q => by rw [ay (aR q hn)]; exact q
 frzs := fun b u xs q => by rw [ay (aR q hn)]; exact q
 tbls := fun b ps q => ⟨#[], by rw [ay (aR q hn), q]; simp⟩
theorem Un.write (mu : Gs (H x)) (he : e = x ∨ H e = some (.own x)) (k : ∀ b u, b ≠ e → h.get? b = some u → h'.get? b = some u) (heo : ∃ u, h'.get? e = some u) : Un fs ex H (bB H x o) h h' := by
 have hx : ∀ b, H b = none → b ≠ x := fun b n z => by subst z; rw [n] at mu; exact mu
 have hb : ∀ b, H b = none → b ≠ e := fun b n z => by
  grind
 have hm : ∀ b u, H b = some u → ¬ Gs (some u) → b ≠ x := fun b u q nm z => by grind
 refine ⟨fun b u q n _ _ => k b u (hb b n) q, fun b u q n _ _ => ⟨_, k b u (hb b n) q⟩, fun b u q n _ => by rw [ay (hx b n)]; exact n, fun b u q _ => ?_,
  fun b xs q => by rw [ay (hm b _ q fun z => z)]; exact q, fun b u xs q => by rw [ay (hm b _ q fun z => z)]; exact q, fun b ps q => ⟨#[], by rw [ay (hm b _ q fun z => z), q]; simp⟩⟩
 by_cases hbe : b = e
 · subst hbe; exact heo
 · exact ⟨u, k b u hbe q⟩
end
def Jj (h : Heap) (H : Hp) : List Addr := (List.range h.objs.size).filter fun a => (H a).isSome
def ik (h : Heap) (H : Hp) : Heap := PySem.W.hideAll h (Jj h H)
theorem qV (h : Heap) (H : Hp) : (ik h H).objs.size = h.objs.size := PySem.W.hideAll_size _ _
theorem sv {H} {b} {o} (e : h.get? b = some o) (n : H b = none) : (ik h H).get? b = some o :=
 PySem.W.hideAll_get _ e fun hm => by
  have q := (List.mem_filter.mp hm).2
  rw [n] at q; simp at q
theorem vQ {o} (e : (ik h H).get? b = some o) : h.get? b = some o ∧ H b = none := by
 have e' := PySem.W.of_hideAll _ e
 refine ⟨e', ?_⟩
 cases q : H b with
 | none => rfl
 | some x =>
  have hm : b ∈ Jj h H := List.mem_filter.mpr ⟨List.mem_range.mpr (Heap.lt_size e'), by simp [q]⟩
  have z : (ik h H).get? b = none := PySem.W.hideAll_none _ hm
  rw [z] at e; cases e
def yi (g h : Heap) (L : Addr) : List (Addr × Obj) := (List.range h.objs.size).filterMap fun a => if a = L ∨ (g.get? a).isSome = true then none else (h.get? a).map fun o => (a, o)
def gg (g h : Heap) (L d : Addr) : List (Addr × Obj) := (yi g h L).filter fun p => decide (p.1 ≠ d)
structure Mod (K : PySem.W.Frag) (mg : Str → Option Value) (base : Heap) : Prop where
 kin : K.In base
 glob : base.Ns mainGlobals mg
 blt : ∃ mb, base.Ns builtinsNs mb ∧ ∀ x : Str, x ≠ "__name__" → mb x = bootBuiltins x
 nolimit : base.NoLimit
structure Cx where
 prog : Program
 w : World
 K : PySem.W.Frag
 mg : Str → Option Value
 base : Heap
 A : Around
 N : List Str
 s₀ : Shared
 H₀ : Hp
 env : Env
 outer : List Env
 stack : List Env
 ex : List Addr
 fn : Str → Bool
 calm : Bool
 pn : List (Addr × Obj)
 xe : Value → Shared → Prop
def n9 (l : List Env) : List Addr := l.filterMap (·.frame)
abbrev Cx.fs (X : Cx) : List Addr := n9 X.outer
def zw (sc : Scope) (x : Str) : Prop := sc.names.lookup x = some .local ∨ sc.names.lookup x = some .cell ∨ sc.names.lookup x = some .free
def Loc (sc : Scope) (x : Str) : Prop := sc.names.lookup x = some .local ∨ sc.names.lookup x = some .cell
def Look (env : Env) (h : Heap) (m : Str → Option Value) (x : Str) (u : Value) : Prop :=
 (env.kindOf x = some .local ∧ m x = some u) ∨ ((env.kindOf x = some .cell ∨ env.kindOf x = some .free) ∧ ∃ c, env.cells.lookup x = some c ∧ h.IsCell c (some u))
structure Cx.Ok (X : Cx) : Prop where
 mod : Mod X.K X.mg X.base
 kind : X.env.scope.kind = .function
 glob : X.env.globals = mainGlobals
 blt : X.env.builtins = builtinsNs
 above : X.s₀.heap.objs.size ≤ X.env.locals
 inj : ∀ x y c, X.env.cells.lookup x = some c → X.env.cells.lookup y = some c → x = y
 has : ∀ x, (X.env.kindOf x = some .cell ∨ X.env.kindOf x = some .free) → ∃ c, X.env.cells.lookup x = some c
 cab : ∀ x c, X.fn x = true → X.env.cells.lookup x = some c → X.s₀.heap.objs.size ≤ c
 hd : X.calm = true → X.A.handled = none
 frames : X.A.frames = some X.stack
 stk : X.stack = X.outer ∨ (X.stack = X.env :: X.outer ∧ X.env.frame = some X.env.locals)
 exf : ∀ b ∈ X.ex, b ≠ X.env.locals ∧ ∀ x c, X.env.cells.lookup x = some c → c ≠ b
 bs : ∀ b o, X.base.get? b = some o → X.s₀.heap.get? b = some o ∧ X.H₀ b = none
 bsz : X.base.objs.size ≤ X.s₀.heap.objs.size
 noex : ∀ b o, X.base.get? b = some o → b ∉ X.ex
 exfs : ∀ b ∈ X.ex, b ∉ X.fs
 funs : X.s₀.heap.FunFrames X.base X.outer
 frf : ∀ b ∈ X.fs, X.H₀ b = none
def IT (s0 s : Shared) : Prop := s.os = s0.os ∧ s0.gens.size ≤ s.gens.size
structure Inv (X : Cx) (pins : List (Addr × Obj)) (σ : List (Option V)) (H : Hp) (s : Shared) : Prop where
 ok : X.Ok
 os : IT X.s₀ s
 bare : AllBare s.gens
 base : Un X.fs X.ex X.H₀ H X.s₀.heap s.heap
 loc : ∃ m, s.heap.Ns X.env.locals m ∧ ∀ (i : Nat) (x : Str) (v : V), X.N[i]? = some x → σ[i]? = some (some v) → zw X.env.scope x → ∃ u, RelV v u ∧ Look X.env s.heap m x u
 cell : ∀ x c, X.env.cells.lookup x = some c → ∃ v, s.heap.IsCell c v
 free : H X.env.locals = none
 freeC : ∀ x c, X.env.cells.lookup x = some c → H c = none
 pin : ∀ p ∈ X.pn ++ pins, s.heap.get? p.1 = some p.2 ∧ H p.1 = none ∧ p.1 ≠ X.env.locals ∧ p.1 ∉ X.fs ∧ ∀ v, p.2.data ≠ .cell v
 hok : gh X.prog X.w H s.heap
 len : σ.length = X.N.length
section
variable {X : Cx} {pins : List (Addr × Obj)} {σ : List (Option V)} {H H' : Hp} {s : Shared} {h' : Heap}
theorem Cx.Ok.nofr (ok : X.Ok) {b} {o} (e : X.base.get? b = some o) : b ∉ X.fs := fun hb => by
 have := (ok.funs.mem hb).1
 grind
theorem Inv.bs (I : Inv X pins σ H s) : ∀ b o, X.base.get? b = some o → s.heap.get? b = some o ∧ H b = none := fun b o e =>
 ⟨I.base.keep b o (I.ok.bs b o e).1 (I.ok.bs b o e).2 (I.ok.nofr e) (I.ok.noex b o e), I.base.free b o (I.ok.bs b o e).1 (I.ok.bs b o e).2 (I.ok.noex b o e)⟩
theorem Inv.bk (I : Inv X pins σ H s) : ∀ b o, X.base.get? b = some o → s.heap.get? b = some o := fun b o e => (I.bs b o e).1
theorem Inv.mod (I : Inv X pins σ H s) : Mod X.K X.mg X.base := I.ok.mod
theorem Inv.kIn (I : Inv X pins σ H s) : X.K.In s.heap := I.ok.mod.kin.keeps I.bk
theorem Inv.nolimit (I : Inv X pins σ H s) : s.heap.NoLimit := I.ok.mod.nolimit.keeps I.bk
theorem Inv.lt (I : Inv X pins σ H s) : X.env.locals < s.heap.objs.size := let ⟨_, hn, _⟩ := I.loc; hn.lt
theorem Inv.sz (I : Inv X pins σ H s) : X.s₀.heap.objs.size ≤ s.heap.objs.size := Nat.le_trans I.ok.above (Nat.le_of_lt I.lt)
theorem Inv.nofs (I : Inv X pins σ H s) {a : Addr} (h : s.heap.objs.size ≤ a) : a ∉ X.fs := fun hb => by
 obtain ⟨_, o, ho, _⟩ := I.ok.funs.mem hb
 exact absurd (Nat.lt_of_lt_of_le (Heap.lt_size ho) (Nat.le_trans I.sz h)) (Nat.lt_irrefl _)
theorem Inv.cne (I : Inv X pins σ H s) : ∀ x c, X.env.cells.lookup x = some c → c ≠ X.env.locals := fun x c e z => by
 obtain ⟨v, o, ho, hd⟩ := I.cell x c e
 obtain ⟨m, ⟨o', es, ep, ho', hd', _⟩, _⟩ := I.loc
 grind
theorem Inv.funs (I : Inv X pins σ H s) : s.heap.FunFrames X.base X.outer := by
 have all : ∀ (l : List _), (∀ b ∈ n9 l, b ∈ X.fs) → X.s₀.heap.FunFrames X.base l → s.heap.FunFrames X.base l := by
  intro l
  induction l with
  | nil => intro _ _; trivial
  | cons env r ih =>
   intro hs hl
   obtain ⟨hk, ⟨L, o, hf, hn, ho, hd⟩, hr⟩ := hl
   have hL := hs L (by unfold n9; simp_all)
   obtain ⟨sl, e⟩ := I.base.slot L o ho (I.ok.frf L hL) hL fun z => I.ok.exfs L z hL
   exact ⟨hk, ⟨L, _, hf, hn, e, hd⟩, ih (fun b hb => hs b (by unfold n9; rw [List.filterMap_cons, hf]; exact List.mem_cons_of_mem _ hb)) hr⟩
 exact all _ (fun _ hb => hb) I.ok.funs
theorem Inv.stack (I : Inv X pins σ H s) : s.heap.FunFrames X.base X.stack := by
 rcases I.ok.stk with e | ⟨e, hf⟩
 · rw [e]; exact I.funs
 · rw [e]
   obtain ⟨m, hn, _⟩ := I.loc
   refine .cons (by rw [I.ok.kind]; decide) hf hn ?_ I.funs
   exact Heap.get?_none_of_le (Nat.le_trans I.ok.bsz I.ok.above)
theorem Inv.stkSub (I : Inv X pins σ H s) : ∀ b ∈ n9 X.stack, b ∈ X.env.locals :: X.fs := fun b hb => by
 rcases I.ok.stk with e | ⟨e, hf⟩
 · simp_all
 · rw [e] at hb
   unfold n9 at hb
   rw [List.filterMap_cons, hf] at hb
   exact hb
theorem Inv.stkFree (I : Inv X pins σ H s) : ∀ b ∈ n9 X.stack, H b = none := fun b hb => by
 rcases List.mem_cons.mp (I.stkSub b hb) with e | hb
 · rw [e]; exact I.free
 · obtain ⟨_, o, ho, _⟩ := I.ok.funs.mem hb
   exact I.base.free b o ho (I.ok.frf b hb) fun z => I.ok.exfs b z hb
theorem Inv.step {g' : Array GenState} {t' : Nat} {d' : Drawn} {ch : List Addr} (I : Inv X pins σ H s)
 (hch : ∀ b ∈ ch, (b ∈ X.ex ∨ X.s₀.heap.objs.size ≤ b) ∧ b ≠ X.env.locals ∧ (∀ x c, X.env.cells.lookup x = some c → c ≠ b) ∧ ∀ p ∈ X.pn ++ pins, p.1 ≠ b)
 (keep : ∀ b o, b ≠ X.env.locals → b ∉ X.fs → b ∉ ch → s.heap.get? b = some o → H b = none → h'.get? b = some o)
 (slot : ∀ b o, b ≠ X.env.locals → b ∈ X.fs → b ∉ ch → s.heap.get? b = some o → H b = none → ∃ sl, h'.get? b = some { o with slots := sl }) (free : ∀ b o, b ∉ ch → s.heap.get? b = some o → H b = none → H' b = none)
 (there : ∀ b o, b ∉ ch → s.heap.get? b = some o → ∃ o', h'.get? b = some o')
 (tups : ∀ b xs, H b = some (.tup xs) → H' b = some (.tup xs)) (frzs : ∀ b o u, H b = some (.frz o u) → H' b = some (.frz o u)) (tbls : ∀ b ps, H b = some (.tbl ps) → ∃ more, H' b = some (.tbl (ps ++ more)))
 (ns : ∀ m, s.heap.Ns X.env.locals m → h'.Ns X.env.locals m) (hok : gh X.prog X.w H' h') (hg : AllBare g') (hgs : s.gens.size ≤ g'.size) :
 Inv X pins σ H' { s with heap := h', gens := g', drawn := d', toks := t' } := by
 have neL : ∀ b o, X.s₀.heap.get? b = some o → b ≠ X.env.locals := fun b o e => Nat.ne_of_lt (Nat.lt_of_lt_of_le (Heap.lt_size e) I.ok.above)
 have neC : ∀ b o, X.s₀.heap.get? b = some o → b ∉ X.ex → b ∉ ch := fun b o e hx hb => by
  rcases (hch b hb).1 with z | z
  · exact hx z
  · exact absurd (Nat.lt_of_lt_of_le (Heap.lt_size e) z) (Nat.lt_irrefl _)
 have cellK : ∀ x c, X.env.cells.lookup x = some c → ∀ v, s.heap.IsCell c v → h'.IsCell c v := fun x c e v ⟨o, ho, hd⟩ => by
  have nch : c ∉ ch := fun z => (hch c z).2.2.1 x c e rfl
  by_cases hc : c ∈ X.fs
  · obtain ⟨sl, q⟩ := slot c o (I.cne x c e) hc nch ho (I.freeC x c e)
    exact ⟨_, q, hd⟩
  · exact ⟨o, keep c o (I.cne x c e) hc nch ho (I.freeC x c e), hd⟩
 refine ⟨I.ok, ⟨I.os.1, Nat.le_trans I.os.2 hgs⟩, hg, ⟨fun b o e n hb hx => ?_, fun b o e n hb hx => ?_, fun b o e n hx => ?_, fun b o e hx => ?_, fun b xs e => tups b xs (I.base.tups b xs e), fun b o xs e => frzs b o xs (I.base.frzs b o xs e), fun b ps e => ?_⟩, ?_, fun x c e => ?_, ?_, fun x c e => ?_, fun p hp => ?_, hok, I.len⟩
 · exact keep b o (neL b o e) hb (neC b o e hx) (I.base.keep b o e n hb hx) (I.base.free b o e n hx)
 · obtain ⟨sl, e1⟩ := I.base.slot b o e n hb hx
   obtain ⟨sl', e2⟩ := slot b _ (neL b o e) hb (neC b o e hx) e1 (I.base.free b o e n hx)
   exact ⟨sl', e2⟩
 · obtain ⟨o', e1⟩ := I.base.there b o e hx
   exact free b o' (neC b o e hx) e1 (I.base.free b o e n hx)
 · obtain ⟨o', e1⟩ := I.base.there b o e hx
   exact there b o' (neC b o e hx) e1
 · obtain ⟨m1, e1⟩ := I.base.tbls b ps e
   obtain ⟨m2, e2⟩ := tbls b _ e1
   exact ⟨m1 ++ m2, by rw [e2, Array.append_assoc]⟩
 · obtain ⟨m, hn, hl⟩ := I.loc
   refine ⟨m, ns m hn, fun i x v e1 e2 e3 => ?_⟩
   obtain ⟨u, r, l⟩ := hl i x v e1 e2 e3
   refine ⟨u, r, ?_⟩
   rcases l with l | ⟨k, c, e, z⟩
   · exact .inl l
   · exact .inr ⟨k, c, e, cellK x c e _ z⟩
 · obtain ⟨v, z⟩ := I.cell x c e
   exact ⟨v, cellK x c e v z⟩
 · obtain ⟨m, ⟨o, _, _, ho, _⟩, _⟩ := I.loc
   exact free _ o (fun z => (hch _ z).2.1 rfl) ho I.free
 · obtain ⟨v, o, ho, hd⟩ := I.cell x c e
   exact free c o (fun z => (hch c z).2.2.1 x c e rfl) ho (I.freeC x c e)
 · obtain ⟨e, n, ne, nf, d⟩ := I.pin p hp
   have nch : p.1 ∉ ch := fun z => (hch p.1 z).2.2.2 p hp rfl
   exact ⟨keep p.1 p.2 ne nf nch e n, free p.1 p.2 nch e n, ne, nf, d⟩
theorem Inv.un (I : Inv X pins σ H s) (u : Un X.fs [] H H' s.heap h') (hok : gh X.prog X.w H' h') : Inv X pins σ H' { s with heap := h', toks := t' } := by
 obtain ⟨m, ⟨o, es, ep, ho, r⟩, _⟩ := id I.loc
 obtain ⟨sl, hL⟩ := u.any ho I.free (by simp)
 exact I.step (ch := []) (fun _ z => nomatch z) (fun b o _ hb _ e n => u.keep b o e n hb (by simp)) (fun b o _ hb _ e n => u.slot b o e n hb (by simp)) (fun b o _ e n => u.free b o e n (by simp)) (fun b o _ e => u.there b o e (by simp)) u.tups u.frzs u.tbls (fun m' hm => by
  obtain ⟨o', es', ep', ho', r'⟩ := hm
  rw [ho] at ho'; cases ho'
  exact ⟨_, es', ep', hL, r'⟩) hok I.bare (Nat.le_refl _)
theorem Inv.call {d'} {ch} (I : Inv X pins σ H s) (u : Un (n9 X.stack) ch H H' s.heap h') (hok : gh X.prog X.w H' h') (hg : AllBare g') (hgs : s.gens.size ≤ g'.size)
 (hch : ∀ b ∈ ch, (b ∈ X.ex ∨ X.s₀.heap.objs.size ≤ b) ∧ b ≠ X.env.locals ∧ (∀ x c, X.env.cells.lookup x = some c → c ≠ b) ∧ ∀ p ∈ X.pn ++ pins, p.1 ≠ b) :
 Inv X pins σ H' { s with heap := h', gens := g', drawn := d', toks := t' } := by
 obtain ⟨m, ⟨o, es, ep, ho, r⟩, _⟩ := id I.loc
 obtain ⟨sl, hL⟩ := u.any ho I.free fun z => (hch _ z).2.1 rfl
 exact I.step hch (fun b o hL hb hc e n => u.keep b o e n (fun z => (List.mem_cons.mp (I.stkSub b z)).elim hL hb) hc) (fun b o _ _ hc e n => u.any e n hc) (fun b o hc e n => u.free b o e n hc) (fun b o hc e => u.there b o e hc) u.tups u.frzs u.tbls (fun m' hm => by
  obtain ⟨o', es', ep', ho', r'⟩ := hm
  rw [ho] at ho'; cases ho'
  exact ⟨_, es', ep', hL, r'⟩) hok hg hgs
theorem Inv.turned {t' : Nat} {it : Addr} (I : Inv X pins σ H s) (k : ∀ b o, b ≠ it → s.heap.get? b = some o → h'.get? b = some o) (hn : H it = none) (hL : it ≠ X.env.locals)
 (h1 : it ∈ X.ex ∨ X.s₀.heap.objs.size ≤ it) (h2 : ∀ x c, X.env.cells.lookup x = some c → c ≠ it) (h3 : ∀ p ∈ X.pn ++ pins, p.1 ≠ it) : Inv X pins σ H { s with heap := h', toks := t' } := by
 have nit : ∀ b u, H b = some u → b ≠ it := fun b u e z => by rw [z, hn] at e; cases e
 refine I.step (g' := s.gens) (d' := s.drawn) (ch := [it]) (fun b hb => ?_) (fun b o _ _ hc e _ => k b o (fun z => hc (by simp [z])) e) (fun b o _ _ hc e _ => ⟨o.slots, k b o (fun z => hc (by simp [z])) e⟩) (fun _ _ _ _ n => n)
  (fun b o hc e => ⟨o, k b o (fun z => hc (by simp [z])) e⟩) (fun _ _ e => e) (fun _ _ _ e => e) (fun b ps e => ⟨#[], by rw [e]; simp⟩) (fun m hm => ?_) (fun b u e => ?_) I.bare (Nat.le_refl _)
 · have e : b = it := by simpa using hb
   subst e
   exact ⟨h1, hL, h2, h3⟩
 · obtain ⟨o, es, ep, ho, r⟩ := hm
   exact ⟨o, es, ep, k _ o (Ne.symm hL) ho, r⟩
 · refine (I.hok b u e).stay (fun c v hc q => k c v ?_ q) fun _ q => q
   rcases hc with z | z
   · rw [z]; exact nit b u e
   · exact nit c _ z
theorem Inv.tok (I : Inv X pins σ H s) (t : Nat) : Inv X pins σ H { s with toks := t } := I.un (h' := s.heap) (t' := t) Un.refl I.hok
theorem Inv.kept (I : Inv X pins σ H s) (k : ∀ b u, s.heap.get? b = some u → h'.get? b = some u) : Inv X pins σ H { s with heap := h', toks := t' } := I.un (Un.kept k) (I.hok.kept k)
theorem Inv.laid {a : Addr} {o} {t'} (I : Inv X pins σ H s) (k : ∀ b u, s.heap.get? b = some u → h'.get? b = some u) (hp : s.heap.objs.size ≤ a) (new : bz X.prog X.w (bB H a o) h' a o) :
 Inv X pins σ (bB H a o) { s with heap := h', toks := t' } := I.un (Un.laid k hp (I.hok.fresh hp)) (I.hok.laid k hp new)
theorem Inv.write (I : Inv X pins σ H s) (mu : Gs (H x)) (he : e = x ∨ H e = some (.own x)) (k : ∀ b u, b ≠ e → s.heap.get? b = some u → h'.get? b = some u) (heo : ∃ u, h'.get? e = some u)
 (new : bz X.prog X.w (bB H x o) h' x o) : Inv X pins σ (bB H x o) { s with heap := h', toks := t' } := I.un (Un.write mu he k heo) (I.hok.write mu he k heo new)
theorem Inv.weak (I : Inv X pins σ H s) (hl : σ'.length = σ.length) (w : ∀ (i : Nat) v, σ'[i]? = some (some v) → σ[i]? = some (some v)) : Inv X pins σ' H s :=
 ⟨I.ok, I.os, I.bare, I.base, let ⟨m, hn, hl'⟩ := I.loc; ⟨m, hn, fun i x v e1 e2 e3 => hl' i x v e1 (w i v e2) e3⟩, I.cell, I.free, I.freeC, I.pin, I.hok, hl.trans I.len⟩
theorem Inv.pins_of (I : Inv X pins σ H s) (h : ∀ p ∈ pins', s.heap.get? p.1 = some p.2 ∧ H p.1 = none ∧ p.1 ≠ X.env.locals ∧ p.1 ∉ X.fs ∧ ∀ v, p.2.data ≠ .cell v) : Inv X pins' σ H s :=
 ⟨I.ok, I.os, I.bare, I.base, I.loc, I.cell, I.free, I.freeC, fun p hp => (List.mem_append.mp hp).elim (fun z => I.pin p (List.mem_append_left _ z)) (h p), I.hok, I.len⟩
theorem cU {N : List Str} (hN : N.Nodup) {i j : Nat} {x} (a : N[i]? = some x) (b : N[j]? = some x) : i = j := by
 obtain ⟨h1, e1⟩ := List.getElem?_eq_some_iff.mp a
 obtain ⟨h2, e2⟩ := List.getElem?_eq_some_iff.mp b
 exact (List.getElem_inj hN).mp (e1.trans e2.symm)
theorem iZ {M : Model} {A : Around} {E : Value → Shared → Prop} {i : Nat} {x : Str} {v : V} {u : Value} {Q : Unit → Shared → Prop} (I : Inv X pins σ H s) (hN : X.N.Nodup) (hi : X.N[i]? = some x) (hx : Loc X.env.scope x) (r : RelV v u)
 (h : ∀ s', Inv X pins (σ.set i (some v)) H s' → (∃ a, Heap.SameBut a s.heap s'.heap ∧ (a = X.env.locals ∨ X.env.cells.lookup x = some a)) → Q () s') (hf : X.fn x = true ∨ X.env.scope.names.lookup x = some .local := by first | exact .inl rfl | exact .inr rfl | assumption) : wpAny M A (storeName X.env x u) Q E s := by
 obtain ⟨m, hn, hl⟩ := id I.loc
 have hcls : (X.env.scope.kind == .class || (X.env.scope.kind == .module && X.env.locals != X.env.globals)) = false := by rw [I.ok.kind]; rfl
 have hiσ : i < σ.length := by rw [I.len]; exact (List.getElem?_eq_some_iff.mp hi).1
 have cne := I.cne
 have tracked : ∀ {a : Addr} {h' : Heap}, (∃ o, s.heap.get? a = some o ∧ H a = none) → Heap.SameBut a s.heap h' → gh X.prog X.w H h' := fun {a h'} ha hs b ob e => by
  obtain ⟨_, _, hfree⟩ := ha
  refine (I.hok b ob e).stay (fun c w' hc q => (hs.2 c ?_).trans q) fun _ q => q
  rintro rfl
  rcases hc with rfl | hc
  · rw [hfree] at e; cases e
  · rw [hfree] at hc; cases hc
 rcases hx with hk | hk
 · refine wpAny_storeName_local hk hn (fun h' hn' hs => ?_) hcls
   obtain ⟨oL, _, _, hoL, _⟩ := id hn
   refine h _ ⟨I.ok, I.os, I.bare, ⟨fun b o e n hb hx => ?_, fun b o e n hb hx => ?_, I.base.free, fun b o e hx => ?_, I.base.tups, I.base.frzs, I.base.tbls⟩, ⟨_, hn', fun j y v' e1 e2 e3 => ?_⟩, fun y c e => ?_, I.free, I.freeC, fun p hp => ?_, tracked ⟨oL, hoL, I.free⟩ hs, by simpa using I.len⟩ ⟨_, hs, .inl rfl⟩
   · exact (hs.2 b (Nat.ne_of_lt (Nat.lt_of_lt_of_le (Heap.lt_size e) I.ok.above))).trans (I.base.keep b o e n hb hx)
   · obtain ⟨sl, e1⟩ := I.base.slot b o e n hb hx
     exact ⟨sl, (hs.2 b (Nat.ne_of_lt (Nat.lt_of_lt_of_le (Heap.lt_size e) I.ok.above))).trans e1⟩
   · obtain ⟨o', e1⟩ := I.base.there b o e hx
     exact ⟨o', (hs.2 b (Nat.ne_of_lt (Nat.lt_of_lt_of_le (Heap.lt_size e) I.ok.above))).trans e1⟩
   · by_cases hj : j = i
     · subst hj
       rw [hi] at e1; cases e1
       rw [List.getElem?_set_self hiσ] at e2
       cases e2
       exact ⟨u, r, .inl ⟨hk, by simp⟩⟩
     · rw [List.getElem?_set_ne (Ne.symm hj)] at e2
       obtain ⟨u', r', q⟩ := hl j y v' e1 e2 e3
       refine ⟨u', r', ?_⟩
       rcases q with ⟨k, e⟩ | ⟨k, c, e, z⟩
       · refine .inl ⟨k, ?_⟩
         have : y ≠ x := fun e => hj (cU hN e1 (e ▸ hi))
         simp [this, e]
       · exact .inr ⟨k, c, e, z.sameBut hs (cne y c e)⟩
   · obtain ⟨w', z⟩ := I.cell y c e
     exact ⟨w', z.sameBut hs (cne y c e)⟩
   · obtain ⟨e, n, ne, nf, d⟩ := I.pin p hp
     exact ⟨(hs.2 p.1 ne).trans e, n, ne, nf, d⟩
 · have hfn : X.fn x = true := by
    rcases hf with z | z
    · exact z
    · rw [z] at hk; cases hk
   obtain ⟨c, hc⟩ := I.ok.has x (.inl hk)
   obtain ⟨w', z⟩ := I.cell x c hc
   refine wpAny_storeName_cell I.ok.kind hk hc z (fun h' hc' hs => ?_)
   obtain ⟨oc, hoc, hocd⟩ := id z
   refine h { s with heap := h' } ⟨I.ok, I.os, I.bare, ⟨fun b o e n hb hx => ?_, fun b o e n hb hx => ?_, I.base.free, fun b o e hx => ?_, I.base.tups, I.base.frzs, I.base.tbls⟩, ⟨m, hn.sameBut hs (Ne.symm (cne x c hc)), fun j y v' e1 e2 e3 => ?_⟩, fun y c' e => ?_, I.free, I.freeC, fun p hp => ?_, tracked ⟨oc, hoc, I.freeC x c hc⟩ hs, by simpa using I.len⟩ ⟨c, hs, .inr hc⟩
   · exact (hs.2 b (Nat.ne_of_lt (Nat.lt_of_lt_of_le (Heap.lt_size e) (I.ok.cab x c hfn hc)))).trans (I.base.keep b o e n hb hx)
   · obtain ⟨sl, e1⟩ := I.base.slot b o e n hb hx
     exact ⟨sl, (hs.2 b (Nat.ne_of_lt (Nat.lt_of_lt_of_le (Heap.lt_size e) (I.ok.cab x c hfn hc)))).trans e1⟩
   · obtain ⟨o', e1⟩ := I.base.there b o e hx
     exact ⟨o', (hs.2 b (Nat.ne_of_lt (Nat.lt_of_lt_of_le (Heap.lt_size e) (I.ok.cab x c hfn hc)))).trans e1⟩
   · by_cases hj : j = i
     · subst hj
       rw [hi] at e1; cases e1
       rw [List.getElem?_set_self hiσ] at e2
       cases e2
       exact ⟨u, r, .inr ⟨.inl hk, c, hc, hc'⟩⟩
     · rw [List.getElem?_set_ne (Ne.symm hj)] at e2
       obtain ⟨u', r', q⟩ := hl j y v' e1 e2 e3
       refine ⟨u', r', ?_⟩
       rcases q with q | ⟨k, c', e, z'⟩
       · exact .inl q
       · refine .inr ⟨k, c', e, z'.sameBut hs ?_⟩
         rintro rfl
         exact hj (cU hN e1 (I.ok.inj _ _ _ e hc ▸ hi))
   · by_cases hcc : c' = c
     · subst hcc; exact ⟨_, hc'⟩
     · obtain ⟨w2, z2⟩ := I.cell y c' e
       exact ⟨w2, z2.sameBut hs hcc⟩
   · obtain ⟨e, n, ne, nf, d⟩ := I.pin p hp
     refine ⟨(hs.2 p.1 ?_).trans e, n, ne, nf, d⟩
     intro q
     rw [q, hoc] at e
     have q' : oc = p.2 := Option.some.inj e
     exact d w' (by rw [← q']; exact hocd)
theorem cy {M : Model} {A : Around} {E : Value → Shared → Prop} {i : Nat} {x : Str} {v : V} {u : Value} {Q : Unit → Shared → Prop} (I : Inv X pins σ H s) (hN : X.N.Nodup) (hi : X.N[i]? = some x) (hx : Loc X.env.scope x) (r : RelV v u)
 (h : ∀ s', Inv X pins (σ.set i (some v)) H s' → Q () s') (hf : X.fn x = true ∨ X.env.scope.names.lookup x = some .local := by first | exact .inl rfl | exact .inr rfl | assumption) : wpAny M A (storeName X.env x u) Q E s :=
 iZ I hN hi hx r (fun s' I' _ => h s' I') hf
theorem Inv.call' (I : Inv X pins σ H s) (ho : IT s s') (u : Un (n9 X.stack) ch H H' s.heap s'.heap) (hok : gh X.prog X.w H' s'.heap) (hg : AllBare s'.gens)
 (hch : ∀ b ∈ ch, (b ∈ X.ex ∨ X.s₀.heap.objs.size ≤ b) ∧ b ≠ X.env.locals ∧ (∀ x c, X.env.cells.lookup x = some c → c ≠ b) ∧ ∀ p ∈ X.pn ++ pins, p.1 ≠ b) : Inv X pins σ H' s' := by
 obtain ⟨h', g', d', t', o'⟩ := s'
 have e := ho.1
 subst e
 exact I.call u hok hg ho.2 hch
end
abbrev XK := Value → Option Addr → Hp → Prop
abbrev St := List (Option V)
abbrev VK := V → Hp → Prop
abbrev TE := St → Hp → VK → Prop
abbrev TT := St → Hp → (Bool → Hp → Prop) → Prop
abbrev TA := St → Hp → (List V → Hp → Prop) → Prop
structure nI where
 nx : St → Hp → Prop
 rt : VK
 bk : St → Hp → Prop := fun _ _ => False
 ct : St → Hp → Prop := fun _ _ => False
abbrev TS := nI → St → Hp → Prop
def EP (X : Cx) (pins : List (Addr × Obj)) (σ : St) (Q : VK) (u : Value) (s' : Shared) : Prop := ∃ v H', Inv X pins σ H' s' ∧ RelV v u ∧ Q v H'
def TP (X : Cx) (pins : List (Addr × Obj)) (σ : St) (Q : Bool → Hp → Prop) (b : Bool) (s' : Shared) : Prop := ∃ H', Inv X pins σ H' s' ∧ Q b H'
def AP (X : Cx) (pins : List (Addr × Obj)) (σ : St) (Q : List V → Hp → Prop) (us : List Value) (s' : Shared) : Prop := ∃ vs H', Inv X pins σ H' s' ∧ am vs us ∧ Q vs H'
def SP (X : Cx) (pins : List (Addr × Obj)) (D : nI) (f : Flow) (s' : Shared) : Prop :=
 match f with
 | .next => ∃ σ' H', Inv X pins σ' H' s' ∧ D.nx σ' H'
 | .brk => ∃ σ' H', Inv X pins σ' H' s' ∧ D.bk σ' H'
 | .cont => ∃ σ' H', Inv X pins σ' H' s' ∧ D.ct σ' H'
 | .ret u => ∃ v σ' H', Inv X pins σ' H' s' ∧ RelV v u ∧ D.rt v H'
def PE (X : Cx) (e : Expr) (t : TE) : Prop :=
 ∀ (pins : List (Addr × Obj)) (s : Shared) (σ : St) (H : Hp) (Q : VK), Inv X pins σ H s → t σ H Q → wpAny (model X.prog X.w) X.A (eval e X.env) (EP X pins σ Q) X.xe s
def PT (X : Cx) (e : Expr) (t : TT) : Prop :=
 ∀ (pins : List (Addr × Obj)) (s : Shared) (σ : St) (H : Hp) (Q : Bool → Hp → Prop), Inv X pins σ H s → t σ H Q → wpAny (model X.prog X.w) X.A (isTrue e X.env (eval e X.env)) (TP X pins σ Q) X.xe s
def PW (X : Cx) (e : Expr) (t : TT) : Prop :=
 ∀ (whole : Sem Value) (pins : List (Addr × Obj)) (s : Shared) (σ : St) (H : Hp) (Q : Bool → Hp → Prop), Inv X pins σ H s → t σ H Q → wpAny (model X.prog X.w) X.A (isTrue e X.env whole) (TP X pins σ Q) X.xe s
theorem PW.pt (h : PW X e t) : PT X e t := h _
def PA (X : Cx) (es : List Expr) (t : TA) : Prop :=
 ∀ (pos : Pos) (pins : List (Addr × Obj)) (s : Shared) (σ : St) (H : Hp) (Q : List V → Hp → Prop), Inv X pins σ H s → t σ H Q → wpAny (model X.prog X.w) X.A (spliced (backTo pos (starEach es X.env))) (AP X pins σ Q) X.xe s
def PS (X : Cx) (st : Stmt) (t : TS) : Prop :=
 ∀ (pins : List (Addr × Obj)) (s : Shared) (σ : St) (H : Hp) (D : nI), Inv X pins σ H s → t D σ H → wpAny (model X.prog X.w) X.A (exec st X.env) (SP X pins D) X.xe s
def fV (X : Cx) (st : List Stmt) (t : TS) : Prop :=
 ∀ (pins : List (Addr × Obj)) (s : Shared) (σ : St) (H : Hp) (D : nI), Inv X pins σ H s → t D σ H → wpAny (model X.prog X.w) X.A (execs st X.env) (SP X pins D) X.xe s
theorem aU {M} {A} {E} {s} (h : wpAny M A t Q E s) (hQ : ∀ a s, Q a s → Q' a s) : wpAny M A t Q' E s := wpAny_mono h hQ fun _ _ x => x
section
variable {X : Cx}
theorem bin {a b : Expr} {ta tb : TE} (ha : PE X a ta) (hb : PE X b tb) {pins : List (Addr × Obj)} {s : Shared} {σ : St} {H : Hp} {R : V → V → Hp → Prop} (I : Inv X pins σ H s) (h : ta σ H fun x H1 => tb σ H1 fun y H2 => R x y H2)
 {α : Type} {Q : α → Shared → Prop} {f : Value → Value → Sem α}
 (hf : ∀ v u s2 x y H2, Inv X pins σ H2 s2 → RelV x v → RelV y u → R x y H2 → wpAny (model X.prog X.w) X.A (f v u) Q X.xe s2) :
 wpAny (model X.prog X.w) X.A (eval a X.env) (fun v s₁ => wpAny (model X.prog X.w) X.A (eval b X.env) (fun u s₂ => wpAny (model X.prog X.w) X.A (f v u) Q X.xe s₂) X.xe s₁) X.xe s := by
 refine aU (ha pins s σ H _ I h) fun v s1 ⟨x, H1, I1, r1, q1⟩ => ?_
 refine aU (hb pins s1 σ H1 _ I1 q1) fun u s2 ⟨y, H2, I2, r2, q2⟩ => ?_
 exact hf v u s2 x y H2 I2 r1 r2 q2
def DM (i : Nat) : TE := fun σ H Q => ∃ v, σ[i]? = some (some v) ∧ Q v H
def tC (v : V) : TE := fun _ H Q => Q v H
theorem uK {pos} (hN : X.N[i]? = some x) (hv : zw X.env.scope x) (hd : (x == "__debug__") = false := by decide) (hcd : (x == "__classdict__") = false := by decide) : PE X (.Name x pos) (DM i) := by
 intro pins s σ H Q I h
 obtain ⟨v, e, h⟩ := h
 obtain ⟨m, hn, hl⟩ := I.loc
 obtain ⟨u, r, l⟩ := hl i x v hN e hv
 have dy : EP X _ σ Q u s := ⟨v, H, I, r, h⟩
 rcases l with ⟨hk, hm⟩ | ⟨hk, c, hc, hcell⟩
 · exact wpAny_Name (wpAny_loadName_local I.ok.kind hk hn hm dy) hd
 · rcases hk with hk | hk
   · exact wpAny_Name (wpAny_loadName_cell I.ok.kind hk hc hcell dy) hd
   · exact wpAny_Name (wpAny_loadName_free I.ok.kind hk hc hcell dy hcd) hd
theorem rK : PE X (.Constant (.int i) j pos) (tC (.int i)) := fun _ _ _ H _ I h => wpAny_Constant_int ⟨.int i, H, I.tok _, ⟨_, rfl⟩, h⟩
theorem yU : PE X (.Constant (.bool b) j pos) (tC (.bl b)) := fun _ _ _ H _ I h => Constant_bool ⟨.bl b, H, I, rfl, h⟩
theorem ir : PE X (.Constant .none j pos) (tC .non) := fun _ _ _ H _ I h => Constant_none ⟨.non, H, I, rfl, h⟩
theorem Ak : PE X (.Constant (.str x) j pos) (tC (.str x)) := fun _ _ _ H _ I h => Calls.Constant_str ⟨.str x, H, I.tok _, ⟨_, rfl⟩, h⟩
def Gl (X : Cx) (x : Str) : Prop := X.env.kindOf x = some .globalImplicit
theorem jU {pins} {s} {σ : St} {H} {x} {u} {pos} {Q} (I : Inv X pins σ H s) (hg : Gl X x) (hm : X.mg x = some u) (h : Q u s)
 (hd : (x == "__debug__") = false := by decide) : wpAny (model X.prog X.w) X.A (eval (.Name x pos) X.env) Q E s :=
 Calls.Name_function_global I.ok.kind hg (Calls.loadGlobal_global (by rw [I.ok.glob]; exact I.mod.glob.keeps I.bk) hm h) hd
theorem cz {E} {pins} {s} {σ : St} {H} {x} {u} {pos} {Q} (I : Inv X pins σ H s) (hg : Gl X x) (hm : X.mg x = none) (hv : bootBuiltins x = some u) (h : Q u s)
 (hn : x ≠ "__name__" := by decide) (hd : (x == "__debug__") = false := by decide) : wpAny (model X.prog X.w) X.A (eval (.Name x pos) X.env) Q E s := by
 obtain ⟨mb, h1, h2⟩ := I.mod.blt
 exact Calls.Name_function_global I.ok.kind hg (Calls.loadGlobal_builtin (by rw [I.ok.glob]; exact I.mod.glob.keeps I.bk) hm (by rw [I.ok.blt]; exact h1.keeps I.bk) ((h2 x hn).trans hv) h) hd
theorem wj {u} {pos} (hg : Gl X x) (hm : X.mg x = some u) (r : RelV v u) (hd : (x == "__debug__") = false := by decide) : PE X (.Name x pos) (tC v) :=
 fun _ _ _ H _ I h => jU I hg hm ⟨v, H, I, r, h⟩ hd
theorem wB {u} {pos} (hg : Gl X x) (hm : X.mg x = none) (hv : bootBuiltins x = some u) (r : RelV v u) (hn : x ≠ "__name__" := by decide) (hd : (x == "__debug__") = false := by decide) : PE X (.Name x pos) (tC v) :=
 fun _ _ _ H _ I h => cz I hg hm hv ⟨v, H, I, r, h⟩ hn hd
variable {a b : Expr} {ta tb : TE} {pos : Pos}
variable {tA tB' : TT} {gg : List Expr}
def AD (t u : TT) : TT := fun σ H Q => t σ H fun c H1 => if c = true then u σ H1 Q else Q false H1
def Je (t u : TT) : TT := fun σ H Q => t σ H fun c H1 => if c = true then Q true H1 else u σ H1 Q
def Ei (t : TT) : TT := fun σ H Q => t σ H fun c H1 => Q (!c) H1
theorem wV (ha : PT X a tA) : PW X (.BoolOp .And [a] pos) tA := by
 intro wh pins s σ H Q I h
 refine isTrue_and (aU (ha _ s σ H Q I h) fun c s1 e => ?_)
 cases c with
 | true => exact isTrue_and_nil e
 | false => exact e
theorem AK (ha : PT X a tA) : PW X (.BoolOp .Or [a] pos) tA := by
 intro wh pins s σ H Q I h
 refine isTrue_or (aU (ha _ s σ H Q I h) fun c s1 e => ?_)
 cases c with
 | false => exact isTrue_or_nil e
 | true => exact e
theorem vq (ha : PT X a tA) (hb : PW X (.BoolOp .And (b :: gg) pos) tB') : PW X (.BoolOp .And (a :: b :: gg) pos) (AD tA tB') := by
 intro wh pins s σ H Q I h
 refine isTrue_and (aU (ha _ s σ H _ I h) fun c s1 ⟨H1, I1, q1⟩ => ?_)
 cases c with
 | true => exact hb wh _ s1 σ H1 Q I1 q1
 | false => exact ⟨H1, I1, q1⟩
theorem zx (ha : PT X a tA) (hb : PW X (.BoolOp .Or (b :: gg) pos) tB') : PW X (.BoolOp .Or (a :: b :: gg) pos) (Je tA tB') := by
 intro wh pins s σ H Q I h
 refine isTrue_or (aU (ha _ s σ H _ I h) fun c s1 ⟨H1, I1, q1⟩ => ?_)
 cases c with
 | true => exact ⟨H1, I1, q1⟩
 | false => exact hb wh _ s1 σ H1 Q I1 q1
theorem Ba (ha : PT X a tA) : PT X (.UnaryOp .Not a pos) (Ei tA) := by
 intro pins s σ H Q I h
 exact isTrue_not (ha _ s σ H _ I h)
theorem sH {t} (h : PE X a t) : PE X (.BoolOp op [a] pos) t := fun pins s σ H Q I hw => BoolOp_one (h _ s σ H Q I hw)
end
def cF (K : PySem.W.Frag) (H : Hp) (a : Addr) (xs : List V) : Prop :=
 Rd H a (.lst xs) ∨
  ∃ (o : Obj) (its : Array Value) (n : Nat), K.lookup a = some o ∧ o.cls = .type "list" ∧ o.dict = none ∧ o.data = .seq its n ∧ its.size ≤ sizeLine ∧ am xs its.toList
def eB (K : PySem.W.Frag) (H : Hp) (a : Addr) (xs : List V) : Prop :=
 Rd H a (.tup xs) ∨
  ∃ (o : Obj) (its : Array Value) (n : Nat), K.lookup a = some o ∧ o.cls = .type "tuple" ∧ o.data = .seq its n ∧ its.size ≤ sizeLine ∧ am xs its.toList
def ID : Value → Option V
 | .none => some .non
 | .bool b => some (.bl b)
 | .int i _ => some (.int i)
 | .str x _ => some (.str x)
 | .bytes b _ => some (.byt b)
 | .float b _ => some (.flt b)
 | .ref a => some (.ref a)
 | .type n => some (.ty n)
 | _ => none
theorem RelV.abs (r : RelV x u) : ID u = some x := by
 cases x with
 | non => cases r; rfl
 | bl _ => cases r; rfl
 | int _ => obtain ⟨t, rfl⟩ := r; rfl
 | str _ => obtain ⟨t, rfl⟩ := r; rfl
 | byt _ => obtain ⟨t, rfl⟩ := r; rfl
 | flt _ => obtain ⟨t, rfl⟩ := r; rfl
 | ref _ => cases r; rfl
 | ty _ => cases r; rfl
theorem RelV.inj {u} (r : RelV x u) (q : RelV y u) : x = y := Option.some.inj (r.abs.symm.trans q.abs)
theorem am.inj : ∀ {xs ys} {us}, am xs us → am ys us → xs = ys
 | _, _, _, .nil, .nil => rfl
 | _, _, _, .cons r t, .cons r' t' => by rw [r.inj r', am.inj t t']
section
variable {X : Cx} {pins : List (Addr × Obj)} {σ : St} {H : Hp} {s : Shared} {a : Addr} {xs ys : List V}
theorem cF.of {K} (h : H a = some (.lst xs)) : cF K H a xs := .inl (.inl h)
theorem Inv.list (I : Inv X pins σ H s) (h : cF X.K H a xs) : ∃ its : List _, am xs its ∧ PlainL s.heap a its.toArray ∧ xs.length ≤ sizeLine := by
 rcases h with h | ⟨o, its, n, hk, hc, hd, hs, hz, r⟩
 · obtain ⟨z, its, n, r, e⟩ := h.ok I.hok
   exact ⟨its, r, ⟨_, n, e, rfl, rfl, rfl⟩, z⟩
 · refine ⟨_, r, ⟨o, n, I.kIn a o hk, hc, hd, by simpa using hs⟩, ?_⟩
   have e := r.length
   grind
theorem Inv.tuple (I : Inv X pins σ H s) (h : eB X.K H a xs) : ∃ its : List _, am xs its ∧ IsTup s.heap a its.toArray ∧ xs.length ≤ sizeLine := by
 rcases h with h | ⟨o, its, n, hk, hc, hs, hz, r⟩
 · obtain ⟨z, its, r, p⟩ := h.ok I.hok
   exact ⟨its, r, p, z⟩
 · refine ⟨_, r, ⟨o, I.kIn a o hk, hc, n, by simpa using hs⟩, ?_⟩
   have e := r.length
   simp_all
theorem Inv.list_inj (I : Inv X pins σ H s) (h : cF X.K H a xs) (h' : cF X.K H a ys) : xs = ys := by
 obtain ⟨its, r, ⟨o, n, e, _, _, d⟩, _⟩ := I.list h
 obtain ⟨its', r', ⟨o', n', e', _, _, d'⟩, _⟩ := I.list h'
 have : its = its' := by grind
 subst this
 exact r.inj r'
theorem Inv.tuple_inj (I : Inv X pins σ H s) (h : eB X.K H a xs) (h' : eB X.K H a ys) : xs = ys := by
 obtain ⟨its, r, ⟨o, e, _, n, d⟩, _⟩ := I.tuple h
 obtain ⟨its', r', ⟨o', e', _, n', d'⟩, _⟩ := I.tuple h'
 have : its = its' := by grind
 subst this
 exact r.inj r'
end
abbrev Cx.wish (X : Cx) (E : Value → Shared → Prop) : Cx := { X with xe := E }
abbrev Cx.nox (X : Cx) : Cx := X.wish fun _ _ => False
theorem Cx.Ok.wish {X : Cx} (ok : X.Ok) (E : Value → Shared → Prop) : (X.wish E).Ok :=
 ⟨ok.mod, ok.kind, ok.glob, ok.blt, ok.above, ok.inj, ok.has, ok.cab, ok.hd, ok.frames, ok.stk, ok.exf, ok.bs, ok.bsz, ok.noex, ok.exfs, ok.funs, ok.frf⟩
theorem Cx.Ok.unwish {X : Cx} {E} (ok : (X.wish E).Ok) : X.Ok :=
 ⟨ok.mod, ok.kind, ok.glob, ok.blt, ok.above, ok.inj, ok.has, ok.cab, ok.hd, ok.frames, ok.stk, ok.exf, ok.bs, ok.bsz, ok.noex, ok.exfs, ok.funs, ok.frf⟩
section
variable {X : Cx} {pins : List (Addr × Obj)} {σ : St} {H : Hp} {s : Shared} {E : Value → Shared → Prop}
theorem Inv.wish (I : Inv X pins σ H s) (E : Value → Shared → Prop) : Inv (X.wish E) pins σ H s := ⟨I.ok.wish E, I.os, I.bare, I.base, I.loc, I.cell, I.free, I.freeC, I.pin, I.hok, I.len⟩
theorem Inv.unwish (I : Inv (X.wish E) pins σ H s) : Inv X pins σ H s := ⟨I.ok.unwish, I.os, I.bare, I.base, I.loc, I.cell, I.free, I.freeC, I.pin, I.hok, I.len⟩
theorem SP.unwish (h : SP (X.wish E) pins D f s') : SP X pins D f s' := by
 cases f with
 | next => obtain ⟨σ', H', I, q⟩ := h; exact ⟨σ', H', I.unwish, q⟩
 | brk => obtain ⟨σ', H', I, q⟩ := h; exact ⟨σ', H', I.unwish, q⟩
 | cont => obtain ⟨σ', H', I, q⟩ := h; exact ⟨σ', H', I.unwish, q⟩
 | ret u => obtain ⟨v, σ', H', I, r, q⟩ := h; exact ⟨v, σ', H', I.unwish, r, q⟩
theorem fV.nox {st} {t} (h : fV X.nox st t) : fV X st t := fun pins s σ H D I hw =>
 wpAny_mono (h _ s σ H D (I.wish _) hw) (fun _ _ q => q.unwish) fun _ _ z => False.elim z
end
section
variable {X : Cx} {st : Stmt} {gg : List Stmt} {t u : TS} {e : Expr} {te : TE} {pos : Pos}
def sD : TS := fun D σ H => D.nx σ H
def Hm (t u : TS) : TS := fun D σ H => t { D with nx := u D } σ H
theorem wF : fV X [] sD := fun _ _ σ H _ I h => wpAny_execs_nil ⟨σ, H, I, h⟩
theorem ub (h1 : PS X st t) (h2 : fV X gg u) : fV X (st :: gg) (Hm t u) := by
 intro pins s σ H D I h
 refine wpAny_execs_cons (aU (h1 _ s σ H _ I h) fun f s1 q => ?_)
 cases f with
 | next =>
  obtain ⟨σ', H', I', q⟩ := q
  exact h2 _ s1 _ H' D I' q
 | ret v => exact q
 | brk => exact q
 | cont => exact q
def By : TS := fun D σ H => D.bk σ H
def C5 : TS := fun D σ H => D.ct σ H
theorem wT : PS X (.Pass pos) sD := fun _ _ σ H _ I h => wpAny_Pass ⟨σ, H, I, h⟩
theorem t5 : PS X (.Break pos) By := fun _ _ σ H _ I h => wpAny_Break ⟨σ, H, I, h⟩
theorem lD : PS X (.Continue pos) C5 := fun _ _ σ H _ I h => wpAny_Continue ⟨σ, H, I, h⟩
theorem Inv.quiet {σ : St} {H} {s} (I : Inv X pins σ H s) : interactive X.env = false := by simp [interactive, I.ok.kind]
theorem Cz {x j pos pos'} : PS X (.Expr (.Constant (.str x) j pos) pos') sD := fun _ s σ H _ I h => wpAny_Expr (Calls.Constant_str ⟨σ, H, I.tok _, h⟩) I.quiet
def Ej (te : TE) : TS := fun D σ H => te σ H fun _ H1 => D.nx σ H1
theorem xv (he : PE X e te) (hs : swapsWith e none pos.line X.env = pure false := by rfl) : PS X (.Expr e pos) (Ej te) := by
 intro pins s σ H D I h
 exact wpAny_Expr_any (aU (he _ s σ H _ I h) fun v s1 ⟨x, H1, I1, r1, q1⟩ => ⟨σ, H1, I1, q1⟩) I.quiet hs
def GY (te : TE) : TS := fun D σ H => te σ H D.rt
theorem zY (he : PE X e te) : PS X (.Return (some e) pos) (GY te) := by
 intro pins s σ H D I h
 exact wpAny_Return_some (aU (he _ s σ H _ I h) fun v s1 ⟨x, H1, I1, r1, q1⟩ => ⟨x, σ, H1, I1, r1, q1⟩)
def D4 : TS := fun D _ H => D.rt .non H
theorem wz : PS X (.Return none pos) D4 := fun _ _ σ H _ I h => wpAny_Return_none ⟨.non, σ, H, I, rfl, h⟩
def Hn (c : TT) (t u : TS) : TS := fun D σ H => c σ H fun b H1 => if b = true then t D σ H1 else u D σ H1
theorem Ef {tc} (hc : PT X c tc) (ha : fV X a t) (hb : fV X b u) : PS X (.If c a b pos) (Hn tc t u) := by
 intro pins s σ H D I h
 refine wpAny_If (aU (hc _ s σ H _ I h) fun d s1 ⟨H1, I1, q1⟩ => ?_)
 cases d with
 | true => exact ha _ s1 σ H1 D I1 q1
 | false => exact hb _ s1 σ H1 D I1 q1
end
abbrev TG := V → St → Hp → (St → Hp → Prop) → Prop
abbrev CH := List V → St → Hp → (St → Hp → Prop) → Prop
def PG (X : Cx) (target : Expr) (t : TG) : Prop :=
 ∀ (pins : List (Addr × Obj)) (s : Shared) (σ : St) (H : Hp) (v : V) (u : Value) (Q : St → Hp → Prop), Inv X pins σ H s → RelV v u → t v σ H Q →
  wpAny (model X.prog X.w) X.A (assign target X.env u) (fun _ s' => ∃ σ' H', Inv X pins σ' H' s' ∧ Q σ' H') X.xe s
def CJ (X : Cx) (ts : List Expr) (t : CH) : Prop :=
 ∀ (pins : List (Addr × Obj)) (s : Shared) (σ : St) (H : Hp) (vs : List V) (us : List Value) (Q : St → Hp → Prop), Inv X pins σ H s → am vs us → t vs σ H Q →
  wpAny (model X.prog X.w) X.A (assignInOrder ((assignEach ts X.env).map (·.2)) us) (fun _ s' => ∃ σ' H', Inv X pins σ' H' s' ∧ Q σ' H') X.xe s
abbrev DY := V → V → V → Hp → (Hp → Prop) → Prop
def Fh (X : Cx) (t : DY) : Prop :=
 ∀ (pins : List (Addr × Obj)) (s : Shared) (σ : St) (H : Hp) (o i v : V) (ov iv u : Value) (Q : Hp → Prop), Inv X pins σ H s → RelV o ov → RelV i iv → RelV v u → t o i v H Q →
  wpAny (model X.prog X.w) X.A (setItem ov iv u) (fun _ s' => ∃ H', Inv X pins σ H' s' ∧ Q H') X.xe s
abbrev IP := V → V → Hp → VK → Prop
def Jl (X : Cx) (op : Operator) (t : IP) : Prop :=
 ∀ (pins : List (Addr × Obj)) (s : Shared) (σ : St) (H : Hp) (x y : V) (v u : Value) (Q : VK), Inv X pins σ H s → RelV x v → RelV y u → t x y H Q →
  wpAny (model X.prog X.w) X.A (inplaceOp op v u) (EP X pins σ Q) X.xe s
section
variable {X : Cx} {pos : Pos}
def lE (i : Nat) : TG := fun v σ H Q => Q (σ.set i (some v)) H
theorem gE {i : Nat} {x : Str} (hN : X.N.Nodup) (hi : X.N[i]? = some x) (hx : Loc X.env.scope x) (hf : X.fn x = true ∨ X.env.scope.names.lookup x = some .local := by first | exact .inl rfl | exact .inr rfl | assumption) : PG X (.Name x pos) (lE i) := by
 intro pins s σ H v u Q I r h
 exact wpAny_assign_Name (cy I hN hi hx r (fun s' I' => ⟨_, H, I', h⟩) hf)
def Ep : CH := fun vs σ H Q => vs = [] ∧ Q σ H
def zg (t : TG) (u : CH) : CH := fun vs σ H Q => ∃ v r, vs = v :: r ∧ t v σ H fun σ' H' => u r σ' H' Q
theorem xR : CJ X [] Ep := by
 intro pins s σ H vs us Q I r h
 obtain ⟨e, h⟩ := h
 exact assignInOrder_nil ⟨σ, H, I, h⟩
theorem rN {t} {u} (h1 : PG X e t) (h2 : CJ X es u)
 (hs : (assignEach (e :: es) X.env).map (·.2) = assign e X.env :: (assignEach es X.env).map (·.2) := by rfl) : CJ X (e :: es) (zg t u) := by
 intro pins s σ H vs us Q I r h
 obtain ⟨v, vr, e1, h⟩ := h
 subst e1
 cases r with
 | cons r rr =>
  rw [hs]
  refine assignInOrder_cons (aU (h1 _ s σ H _ _ _ I r h) fun _ s1 ⟨σ1, H1, I1, q1⟩ => ?_)
  exact h2 _ s1 _ H1 _ _ Q I1 rr q1
def F1 (K : PySem.W.Frag) (n : Nat) (t : CH) : TG := fun v σ H Q => ∃ a xs, v = .ref a ∧ eB K H a xs ∧ xs.length = n ∧ t xs σ H Q
theorem Ah {k} {t} {n} (hc : X.calm = true) (h : CJ X es t)
 (hn : (assignEach es X.env).length = n := by rfl) (hst : (assignEach es X.env).findIdx? (·.1) = none := by rfl) : PG X (.Tuple es k pos) (F1 X.K n t) := by
 intro pins s σ H v u Q I r hw
 obtain ⟨a, xs, e1, hq, hl, hw⟩ := hw
 subst e1
 cases r
 obtain ⟨its, rv, ht, hz⟩ := I.tuple hq
 refine assign_Tuple_tuple (I.ok.hd hc) ht (by simp [hn, ← hl, rv.length]) hst fun h' hx => ?_
 have I1 : Inv X _ σ H { s with heap := h' } := I.kept fun b o e => hx b o (Nat.ne_of_lt (Heap.lt_size e)) e
 exact h _ _ σ H xs _ Q I1 (by simpa using rv) hw
def IC (to ti : TE) (t : DY) : TG := fun v σ H Q => to σ H fun o H1 => ti σ H1 fun i H2 => t o i v H2 fun H3 => Q σ H3
theorem AO {to ti} {t} (ho : PE X o to) (hi : PE X i ti) (hs : Fh X t)
 (ha : ∀ v, assign (.Subscript o i pos) X.env v = (do
  let ov ← holding [v] (eval o X.env)
  let iv ← holding [v, ov] (eval i X.env)
  standAt pos
  holding [v, ov, iv] (setItem ov iv v)
  release [v, ov, iv] []) := by intro _) : PG X (.Subscript o i pos) (IC to ti t) := by
 intro pins s σ H v u Q I r h
 rw [ha]
 refine wpAny_bind (wpAny_holding (aU (ho _ s σ H _ I h) fun ov s1 ⟨x, H1, I1, r1, q1⟩ => ?_))
 refine wpAny_bind (wpAny_holding (aU (hi _ s1 σ H1 _ I1 q1) fun iv s2 ⟨y, H2, I2, r2, q2⟩ => ?_))
 refine wpAny_bind (wpAny_standAt (wpAny_bind (wpAny_holding (aU (hs _ s2 σ H2 x y v ov iv u _ I2 r1 r2 r q2) fun _ s3 ⟨H3, I3, q3⟩ => ?_))))
 exact wpAny_release ⟨σ, H3, I3, q3⟩
def wN (te : TE) (g : TG) : TS := fun D σ H => te σ H fun x H1 => g x σ H1 D.nx
theorem nO {tg e} {te} {g} (he : PE X e te) (hg : PG X tg g) (hs : swapsWithSole [tg] e pos.line X.env = pure false := by rfl) (hw : swappedStores [tg] e X.env = pure none := by rfl)
 (h1 : (assignEach [tg] X.env).map (·.2) = [assign tg X.env] := by rfl) : PS X (.Assign [tg] e pos) (wN te g) := by
 intro pins s σ H D I h
 refine wpAny_Assign_stores (aU (he _ s σ H _ I h) fun v s1 ⟨x, H1, I1, r1, q1⟩ => ?_) hs hw
 rw [h1]
 exact aU (hg _ s1 σ H1 x v _ I1 r1 q1) fun _ s2 q => q
def HY (i j : Nat) (ta : TA) : TS := fun D σ H => ta σ H fun vs H1 => ∃ v w, vs = [v, w] ∧ D.nx ((σ.set i (some v)).set j (some w)) H1
theorem A3 {x y} {a b} {ta} {px py pt} {kt k2 pt2} (hc : X.calm = true) (hN : X.N.Nodup) (hi : X.N[i]? = some x) (hj : X.N[j]? = some y) (hij : i ≠ j)
 (hx : X.env.scope.names.lookup x = some .local) (hy : X.env.scope.names.lookup y = some .local) (ha : PA X [a, b] ta)
 (hw : swappedStores [.Tuple [.Name x px, .Name y py] kt pt] (.Tuple [a, b] k2 pt2) X.env = pure (some [x, y]))
 (hs : swapsWithSole [.Tuple [.Name x px, .Name y py] kt pt] (.Tuple [a, b] k2 pt2) pos.line X.env = pure false := by rfl) :
 PS X (.Assign [.Tuple [.Name x px, .Name y py] kt pt] (.Tuple [a, b] k2 pt2) pos) (HY i j ta) := by
 intro pins s σ H D I h
 refine wpAny_bind (wpAny_standAt ?_)
 refine wpAny_bind (wpAny_pure ?_)
 refine wpAny_bind (Tuple_ (aU (ha _ _ s σ H _ I h) fun us s1 ⟨vs, H1, I1, r1, q1⟩ => ?_))
 obtain ⟨v, w, e1, q1⟩ := q1
 subst e1
 obtain ⟨u1, u2, rfl, rv, rw'⟩ : ∃ u1 u2, us = [u1, u2] ∧ RelV v u1 ∧ RelV w u2 := by
  cases r1 with
  | cons p q =>
   cases q with
   | cons p' q' =>
    cases q'
    exact ⟨_, _, rfl, p, p'⟩
 refine wpAny_newObj_type ?_ (by show 2 ≤ sizeLine; decide)
 have I2 : Inv X _ σ H1 { s1 with heap := s1.heap.push { cls := .type "tuple", data := .seq [u1, u2].toArray } } := I1.kept fun b o e => Heap.get?_push_of_some _ e
 rw [hw]
 refine wpAny_bind (wpAny_pure ?_)
 refine wpAny_bind (wpAny_rule (wpAny_bind (unpackItems_tuple (items := #[u1, u2]) (I.ok.hd hc) (IsTup.new _ _) fun h' hx' => ?_)))
 have I3 := I2.kept (t' := s1.toks) fun b o e => hx' b o (Nat.ne_of_lt (Heap.lt_size e)) e
 refine wpAny_bind (assignInOrder_cons (wpAny_bindName (cy I3 hN hj (.inl hy) rw' (fun s2 I4 => ?_) (.inr hy))))
 refine assignInOrder_cons (wpAny_bindName (cy I4 hN hi (.inl hx) rv (fun s3 I5 => assignInOrder_nil (wpAny_pure ?_)) (.inr hx)))
 rw [List.set_comm _ _ (Ne.symm hij)] at I5
 exact ⟨_, H1, I5, q1⟩
def IL (i : Nat) (te : TE) (ti : IP) : TS := fun D σ H => ∃ x, σ[i]? = some (some x) ∧ te σ H fun y H1 => ti x y H1 fun z H2 => D.nx (σ.set i (some z)) H2
theorem Az {i : Nat} {x : Str} {e : Expr} {te : TE} {op : Operator} {ti : IP} {pos' : Pos} (hN : X.N.Nodup) (hi : X.N[i]? = some x) (hx : Loc X.env.scope x) (he : PE X e te) (ho : Jl X op ti) (hf : X.fn x = true ∨ X.env.scope.names.lookup x = some .local := by first | exact .inl rfl | exact .inr rfl | assumption) :
 PS X (.AugAssign (.Name x pos') op e pos) (IL i te ti) := by
 intro pins s σ H D I h
 obtain ⟨v, e1, h⟩ := h
 obtain ⟨m, hn, hl⟩ := I.loc
 have BY : zw X.env.scope x := by rcases hx with k | k; exact .inl k; exact .inr (.inl k)
 obtain ⟨u, r, l⟩ := hl i x v hi e1 BY
 refine wpAny_AugAssign_Name ?_
 have go : wpAny (model X.prog X.w) X.A (eval e X.env) (fun w s₂ => wpAny (model X.prog X.w) X.A (inplaceOp op u w) (fun r s₃ => wpAny (model X.prog X.w) X.A (storeName X.env x r) (fun _ => SP X pins D .next) X.xe s₃) X.xe s₂) X.xe s := by
  refine aU (he pins s σ H _ I h) fun w s1 ⟨y, H1, I1, r1, q1⟩ => ?_
  refine aU (ho pins s1 σ H1 v y u w _ I1 r r1 q1) fun z s2 ⟨zv, H2, I2, r2, q2⟩ => ?_
  exact cy I2 hN hi hx r2 (fun s3 I3 => ⟨_, H2, I3, q2⟩) hf
 rcases l with ⟨hk, hm⟩ | ⟨hk, c, hc, hcell⟩
 · exact wpAny_loadName_local I.ok.kind hk hn hm go
 · rcases hk with hk | hk
   · exact wpAny_loadName_cell I.ok.kind hk hc hcell go
   · rcases hx with k | k
     · have : X.env.scope.names.lookup x = some .free := hk
       rw [k] at this; cases this
     · have : X.env.scope.names.lookup x = some .free := hk
       rw [k] at this; cases this
end
structure It where
 go : Nat → Hp → Prop
 yld : Nat → Hp → V → Hp → Prop
 stop : Nat → Hp → Prop
def bC (X : Cx) (pins : List (Addr × Obj)) (H : Hp) (b : Addr) : Prop :=
 H b = none ∧ b ≠ X.env.locals ∧ b ∉ X.fs ∧ (b ∈ X.ex ∨ X.s₀.heap.objs.size ≤ b) ∧ (∀ x c, X.env.cells.lookup x = some c → c ≠ b) ∧ ∀ p ∈ X.pn ++ pins, p.1 ≠ b
theorem Inv.fpOk {σ : St} {H H'} {s} {b : Addr} (I : Inv X pins σ H s) (hb : s.heap.objs.size ≤ b) (hn : H' b = none) : bC X pins H' b := by
 refine ⟨hn, Nat.ne_of_gt (Nat.lt_of_lt_of_le I.lt hb), I.nofs hb, .inr (Nat.le_trans I.sz hb), fun x c e z => ?_, fun p hp z => ?_⟩
 · obtain ⟨v, q⟩ := I.cell x c e
   exact absurd (Nat.lt_of_lt_of_le q.lt (by rw [z]; exact hb)) (Nat.lt_irrefl _)
 · exact absurd (Nat.lt_of_lt_of_le (Heap.lt_size (I.pin p hp).1) (by rw [z]; exact hb)) (Nat.lt_irrefl _)
structure iP (P : Program) (w : World) (K : PySem.W.Frag) (tg : Expr) (J : It) (fp : List Addr) (it : Addr) (tn : Nat → Heap → Prop) : Prop where
 mem : it ∈ fp
 obj : ∀ i h, tn i h → ∀ b ∈ fp, ∃ o, h.get? b = some o ∧ ∀ v, o.data ≠ .cell v
 keep : ∀ i h h', tn i h → (∀ b ∈ fp, ∀ o, h.get? b = some o → h'.get? b = some o) → tn i h'
 item : ∀ (X : Cx), X.prog = P → X.w = w → X.K = K → X.calm = true → ∀ (i : Nat) (pins : List (Addr × Obj)) (s : Shared) (σ : St) (H : Hp) (E : Value → Shared → Prop), Inv X pins σ H s → (∀ b ∈ fp, bC X pins H b) → tn i s.heap → J.go i H →
  wpAny (model P w) X.A (pyNext (.ref it)) (fun r s1 => ∃ u, r = some u ∧
   wpAny (model P w) X.A (letOwnedTupleGo tg (.ref it) u) (fun _ s2 => ∃ x H', Inv X pins σ H' s2 ∧ RelV x u ∧ J.yld i H x H' ∧ tn (i + 1) s2.heap ∧ ∀ b ∈ fp, H' b = none) E s1) E s
 done : ∀ (X : Cx), X.prog = P → X.w = w → X.K = K → X.calm = true → ∀ (i : Nat) (pins : List (Addr × Obj)) (s : Shared) (σ : St) (H : Hp) (E : Value → Shared → Prop), Inv X pins σ H s → (∀ b ∈ fp, bC X pins H b) → tn i s.heap → J.stop i H →
  wpAny (model P w) X.A (pyNext (.ref it)) (fun r s1 => r = none ∧ Inv X pins σ H s1) E s
 self : ∀ (A : Around) (i : Nat) (s : Shared) (Q : Value → Shared → Prop) (E : Value → Shared → Prop), tn i s.heap → Q (.ref it) s → wpAny (model P w) A (pyIter (.ref it)) Q E s
abbrev TI := St → Hp → (It → Hp → Prop) → Prop
def GF (X : Cx) (pins : List (Addr × Obj)) (σ : St) (tg : Expr) (R : It → Hp → Prop) (itv : Value) (s2 : Shared) : Prop :=
 ∃ (it : Addr) (fp : List Addr) (tn : Nat → Heap → Prop) (J : It) (H' : Hp), itv = .ref it ∧ Inv X pins σ H' s2 ∧ iP X.prog X.w X.K tg J fp it tn ∧ tn 0 s2.heap ∧ (∀ b ∈ fp, bC X pins H' b) ∧ R J H'
def PI (X : Cx) (tg iter : Expr) (wi : TI) : Prop :=
 ∀ (pins : List (Addr × Obj)) (s : Shared) (σ : St) (H : Hp) (R : It → Hp → Prop), Inv X pins σ H s → wi σ H R →
  wpAny (model X.prog X.w) X.A (eval iter X.env) (fun v s1 => wpAny (model X.prog X.w) X.A (pyIter v) (GF X pins σ tg R) X.xe s1) X.xe s
theorem ut {A} {E} {s} {tg} {it} {u} {o} {n} {vs} {Q} (ho : s.heap.get? it = some o) (hc : o.cls = .type n) (hd : o.data = .fields vs)
 (hn : ["enumerate", "zip", "dict_itemiterator", "dict_reverseitemiterator", "odict_iterator", "itertools.zip_longest", "itertools.pairwise"].contains n = false) (hQ : Q () s) : wpAny M A (letOwnedTupleGo tg (.ref it) u) Q E s := by
 cases tg <;> first
  | exact wpAny_pure hQ
  | (cases u <;> first
   | exact wpAny_pure hQ
   | (refine wpAny_bind (wpAny_load ho ?_)
      rw [hc, hd]
      show wpAny M A (if (["enumerate", "zip", "dict_itemiterator", "dict_reverseitemiterator", "odict_iterator", "itertools.zip_longest", "itertools.pairwise"].contains n && vs[0]? == some _) = true then _ else _) Q E s
      rw [if_neg (by grind)]
      exact wpAny_pure hQ))
def HV (K : PySem.W.Frag) (a : Addr) : It :=
 ⟨fun i H => ∃ xs x, cF K H a xs ∧ xs[i]? = some x, fun i H x H' => H' = H ∧ ∀ xs, cF K H a xs → xs[i]? = some x, fun i H => ∃ xs, cF K H a xs ∧ xs.length ≤ i⟩
def Hk (K : PySem.W.Frag) (a : Addr) : It :=
 ⟨fun i H => ∃ xs x, eB K H a xs ∧ xs[i]? = some x, fun i H x H' => H' = H ∧ ∀ xs, eB K H a xs → xs[i]? = some x, fun i H => ∃ xs, eB K H a xs ∧ xs.length ≤ i⟩
def Gx (lo : Int) (n : Nat) : It := ⟨fun i _ => i < n, fun i H x H' => H' = H ∧ x = .int (lo + i), fun i _ => n ≤ i⟩
theorem qc {w} {K} {tg} (a it : Addr) : iP P w K tg (HV K a) [it] it fun i h => h.IsListIter it a i where
 mem := by simp
 obj := fun i h st b hb => by
  obtain ⟨o, e, c, d⟩ := st
  simp_all
 keep := fun i h h' st k => st.at fun o e => k it (by simp) o e
 item := by
  intro X hP hw hK hc i pins s σ H E I hf st hg
  subst hP hw hK
  obtain ⟨xs, x, hq, hx⟩ := hg
  obtain ⟨its, rv, p, hz⟩ := I.list hq
  obtain ⟨u, hu, ru⟩ := rv.get hx
  obtain ⟨f0, f1, f2, f3, f4, f5⟩ := hf it (by simp)
  refine wpAny_pyNext_list_item st p.isList (by simpa using hu) fun h' st' sb => ?_
  have I1 : Inv X _ σ H { s with heap := h' } := I.turned (fun b o hb e => (sb.2 b hb).trans e) f0 f1 f3 f4 f5
  obtain ⟨o, e, c, d⟩ := id st'
  exact ⟨u, rfl, ut e c d rfl ⟨x, H, I1, ru, ⟨rfl, fun ys hy => by rw [I.list_inj hy hq]; exact hx⟩, st', fun b hb => (hf b hb).1⟩⟩
 done := by
  intro X hP hw hK hc i pins s σ H E I hf st hg
  subst hP hw hK
  obtain ⟨xs, hq, hx⟩ := hg
  obtain ⟨its, rv, p, hz⟩ := I.list hq
  obtain ⟨f0, f1, f2, f3, f4, f5⟩ := hf it (by simp)
  have hl := rv.length
  exact wpAny_pyNext_list_end (I.ok.hd hc) st p.isList (by simp; omega) fun h' eb => ⟨rfl, I.turned (fun b o hb e => eb b o hb e) f0 f1 f3 f4 f5⟩
 self := fun _ _ _ _ _ st h => wpAny_pyIter_listiter st h
theorem ng {w} {K} {tg} (a it : Addr) : iP P w K tg (Hk K a) [it] it fun i h => h.IsTupleIter it a i where
 mem := by simp
 obj := fun i h st b hb => by
  obtain ⟨o, e, c, d⟩ := st
  simp_all
 keep := fun i h h' st k => st.at fun o e => k it (by simp) o e
 item := by
  intro X hP hw hK hc i pins s σ H E I hf st hg
  subst hP hw hK
  obtain ⟨xs, x, hq, hx⟩ := hg
  obtain ⟨its, rv, p, hz⟩ := I.tuple hq
  obtain ⟨u, hu, ru⟩ := rv.get hx
  obtain ⟨f0, f1, f2, f3, f4, f5⟩ := hf it (by simp)
  refine wpAny_pyNext_tuple_item st (p) (by simpa using hu) fun h' st' sb => ?_
  have I1 : Inv X _ σ H { s with heap := h' } := I.turned (fun b o hb e => (sb.2 b hb).trans e) f0 f1 f3 f4 f5
  obtain ⟨o, e, c, d⟩ := id st'
  exact ⟨u, rfl, ut e c d rfl ⟨x, H, I1, ru, ⟨rfl, fun ys hy => by rw [I.tuple_inj hy hq]; exact hx⟩, st', fun b hb => (hf b hb).1⟩⟩
 done := by
  intro X hP hw hK hc i pins s σ H E I hf st hg
  subst hP hw hK
  obtain ⟨xs, hq, hx⟩ := hg
  obtain ⟨its, rv, p, hz⟩ := I.tuple hq
  obtain ⟨f0, f1, f2, f3, f4, f5⟩ := hf it (by simp)
  have hl := rv.length
  exact wpAny_pyNext_tuple_end (I.ok.hd hc) st p (by simp; omega) fun h' eb => ⟨rfl, I.turned (fun b o hb e => eb b o hb e) f0 f1 f3 f4 f5⟩
 self := fun _ _ _ _ _ st h => wpAny_pyIter_tupleiter st h
theorem nq {K} {tg} (it : Addr) (lo : Int) (n : Nat) : iP P w K tg (Gx lo n) [it] it fun i h => IsRangeIter h it (lo + i * 1) (n - i) 1 where
 mem := by simp
 obj := fun i h st b hb => by
  simp_all
 keep := fun i h h' st k => k it (by simp) _ st
 item := by
  intro X hP hw hK hc i pins s σ H E I hf st hg
  subst hP hw hK
  obtain ⟨f0, f1, f2, f3, f4, f5⟩ := hf it (by simp)
  have W := Walks.range (prog := X.prog) (w := X.w) (I.ok.hd hc) it lo 1 n
  refine W.item i s _ _ hg st fun v h' tk hv st' kk => ?_
  obtain ⟨t, rfl⟩ := hv
  have I1 : Inv X _ σ H { s with heap := h', toks := tk } := I.turned (fun b o hb e => kk b o (by simpa using hb) e) f0 f1 f3 f4 f5
  refine ⟨_, rfl, ut st' rfl rfl rfl ⟨.int _, H, I1, ⟨t, ?_⟩, ⟨rfl, rfl⟩, st', fun b hb => (hf b hb).1⟩⟩
  rw [Int.mul_one]
 done := by
  intro X hP hw hK hc i pins s σ H E I hf st hg
  obtain ⟨f0, f1, f2, f3, f4, f5⟩ := hf it (by simp)
  exact wpAny_pyNext_range_end (I.ok.hd hc) st (by have : n ≤ i := hg; omega) fun h' eb => ⟨rfl, I.turned (fun b o hb e => eb b o hb e) f0 f1 f3 f4 f5⟩
 self := fun _ _ _ _ _ st h => wpAny_pyIter_rangeiter st h
section
variable {X : Cx} {tg : Expr}
def EG (K : PySem.W.Frag) (tl : TE) : TI := fun σ H R => tl σ H fun x H1 => ∃ a, x = .ref a ∧ (∃ xs, cF K H1 a xs) ∧ R (HV K a) H1
def IJ (K : PySem.W.Frag) (tl : TE) : TI := fun σ H R => tl σ H fun x H1 => ∃ a, x = .ref a ∧ (∃ xs, eB K H1 a xs) ∧ R (Hk K a) H1
theorem wJ (hl : PE X l tl) : PI X tg l (EG X.K tl) := by
 intro pins s σ H R I h
 refine aU (hl _ s σ H _ I h) fun v s1 ⟨x, H1, I1, r1, q1⟩ => ?_
 obtain ⟨a, e, ⟨xs, hq⟩, q⟩ := q1
 subst e
 cases r1
 obtain ⟨its, rv, p, hz⟩ := I1.list hq
 refine wpAny_pyIter_list p.isList ?_
 refine ⟨_, _, _, _, H1, rfl, I1.kept fun b o e => Heap.get?_push_of_some _ e, qc a _, ⟨_, Heap.get?_push_size _ rfl, rfl, rfl⟩, fun b hb => ?_, q⟩
 have e := by simpa using hb
 subst e
 exact I1.fpOk (Nat.le_refl _) (I1.hok.fresh (Nat.le_refl _))
theorem Bi (hl : PE X l tl) : PI X tg l (IJ X.K tl) := by
 intro pins s σ H R I h
 refine aU (hl _ s σ H _ I h) fun v s1 ⟨x, H1, I1, r1, q1⟩ => ?_
 obtain ⟨a, e, ⟨xs, hq⟩, q⟩ := q1
 subst e
 cases r1
 obtain ⟨its, rv, p, hz⟩ := I1.tuple hq
 refine wpAny_pyIter_tuple p ?_
 refine ⟨_, _, _, _, H1, rfl, I1.kept fun b o e => Heap.get?_push_of_some _ e, ng a _, ⟨_, Heap.get?_push_size _ rfl, rfl, rfl⟩, fun b hb => ?_, q⟩
 have e := by simpa using hb
 subst e
 exact I1.fpOk (Nat.le_refl _) (I1.hok.fresh (Nat.le_refl _))
theorem sC {σ : St} {H} {s} {R} {E} {lo hi} {t u v} {tk} (I : Inv X pins σ H s) (h1 : -2 ^ 62 ≤ lo) (h2 : lo < 2 ^ 62) (h3 : -2 ^ 62 ≤ hi) (h4 : hi < 2 ^ 62)
 (q : R (Gx lo (hi - lo).toNat) H) : wpAny (model X.prog X.w) X.A (pyIter (.ref s.heap.objs.size)) (GF X pins σ tg R) E { s with heap := s.heap.push { cls := .type "range", data := .fields #[.int lo t, .int hi u, .int 1 v] }, toks := tk } := by
 refine wpAny_pyIter_range (IsRange.new ..) (small_one h1 h2 h3 h4) ?_
 have I1 : Inv X _ σ H { s with heap := s.heap.push { cls := .type "range", data := .fields #[.int lo t, .int hi u, .int 1 v] }, toks := tk } := I.kept fun b o e => Heap.get?_push_of_some _ e
 refine ⟨_, _, _, _, H, rfl,
  I1.kept fun b o e => Heap.get?_push_of_some _ e, nq _ lo _, ?_, fun b hb => ?_, q⟩
 · have e1 : lo + (0 : Nat) * 1 = lo := by simp
   have e2 : (hi - lo).toNat - (0 : Nat) = Builtin.Range.rangeSize lo hi 1 := by rw [rangeSize_one]; split <;> omega
   rw [e1, e2]
   exact Heap.get?_push_size _ rfl
 · have e : b = (s.heap.push { cls := .type "range", data := .fields #[.int lo t, .int hi u, .int 1 v] }).objs.size := by simpa using hb
   subst e
   exact I1.fpOk (Nat.le_refl _) (I1.hok.fresh (Nat.le_refl _))
def Dc (ta : TA) : TI := fun σ H R => ta σ H fun vs H1 => ∃ j : Int, vs = [.int j] ∧ -(2 ^ 62) ≤ j ∧ j < 2 ^ 62 ∧ R (Gx 0 j.toNat) H1
theorem qD (hg : Gl X "range") (hm : X.mg "range" = none) (ha : PA X [a] ta) (hs : starEach [a] X.env = [(false, eval a X.env)] := by rfl) : PI X tg (.Call (.Name "range" p) [a] [] pos) (Dc ta) := by
 intro pins s σ H R I h
 refine Call_ (cz I hg hm boot_range (PyProof.Rows.callWith_type1 (aU (ha _ _ s σ H _ I h) fun us s1 ⟨vs, H1, I1, r1, q1⟩ => ?_) hs rfl))
 obtain ⟨j, e, q1, q2, q⟩ := q1
 subst e
 cases r1 with
 | cons r rr =>
  cases rr
  obtain ⟨t, rfl⟩ := r
  exact call_range_1 (sC I1 (by omega) (by omega) q1 q2 (by simpa using q))
def IU (wi : TI) (g : TG) (tb : TS) : TS := fun D σ H => wi σ H fun J H1 => ∃ W : Nat → Nat → St → Hp → Prop, (∃ m, W 0 m σ H1) ∧ ∀ i m σ H, W i m σ H →
 (J.stop i H ∧ D.nx σ H) ∨ (J.go i H ∧ ∃ N : St → Hp → Prop, (∀ σ' H', N σ' H' → ∃ m', m' < m ∧ W (i + 1) m' σ' H') ∧ ∀ x H', J.yld i H x H' → g x σ H' fun σ2 H2 => tb { D with nx := N, ct := N, bk := D.nx } σ2 H2)
def eG (fp : List Addr) (h : Heap) : List (Addr × Obj) := fp.filterMap fun b => (h.get? b).map fun o => (b, o)
theorem bM {b} {o} (hb : b ∈ fp) (e : h.get? b = some o) : (b, o) ∈ eG fp h := List.mem_filterMap.mpr ⟨b, hb, by rw [e]; rfl⟩
theorem js (hp : p ∈ eG fp h) : p.1 ∈ fp ∧ h.get? p.1 = some p.2 := by
 obtain ⟨b, hb, e⟩ := List.mem_filterMap.mp hp
 cases q : h.get? b with
 | none => rw [q] at e; cases e
 | some o =>
  rw [q] at e
  have e' := Option.some.inj e
  subst e'
  exact ⟨hb, q⟩
theorem Inv.pinned {σ : St} {H} {s} {fp} (I : Inv X pins σ H s) (hf : ∀ b ∈ fp, bC X pins H b) (ho : ∀ b ∈ fp, ∃ o, s.heap.get? b = some o ∧ ∀ v, o.data ≠ .cell v) : Inv X (pins ++ eG fp s.heap) σ H s :=
 I.pins_of fun p hp => (List.mem_append.mp hp).elim (fun z => I.pin p (List.mem_append_right _ z)) fun z => by
  obtain ⟨hb, e⟩ := js z
  obtain ⟨f0, f1, f2, _⟩ := hf _ hb
  obtain ⟨o, e', d⟩ := ho _ hb
  simp_all
theorem Inv.unpinned {σ : St} {H} {s} (I : Inv X (pins ++ pl) σ H s) : Inv X pins σ H s := I.pins_of fun p hp => I.pin p (List.mem_append_right _ (List.mem_append_left _ hp))
theorem AS {iter : Expr} {body : List Stmt} {wi : TI} {g : TG} {tb : TS} {pos : Pos} (hp : PassesOwn (model X.prog X.w) X.A X.env X.xe) (hc : X.calm = true) (hi : PI X tg iter wi) (hg : PG X tg g) (hb : fV X body tb)
 (hs : ∀ x, foldedSetIterable iter X.env x = pure x := by intro _; rfl) : PS X (.For tg iter body [] pos) (IU wi g tb) := by
 intro pins s σ H D I h
 refine wpAny_For (aU (hi pins s σ H _ I h) fun v s1 h1 => aU h1 fun itv s2 h2 => ?_) hs
 obtain ⟨it, fp, tn, J, H2, e, I2, T, st2, f2, W, ⟨m0, w0⟩, turn⟩ := h2
 subst e
 have stat : ∀ {H' : Hp}, (∀ b ∈ fp, H' b = none) → ∀ b ∈ fp, bC X pins H' b := fun hn b hb => ⟨hn b hb, (f2 b hb).2⟩
 refine codeAny_forLoop_any (fun n s' => ∃ i σ' H', Inv X pins σ' H' s' ∧ tn i s'.heap ∧ (∀ b ∈ fp, H' b = none) ∧ W i n σ' H') ?_ m0 ⟨0, σ, H2, I2, st2, fun b hb => (f2 b hb).1, w0⟩
 rintro n s3 ⟨i, σ3, H3, I3, st3, fr3, w3⟩
 rcases turn i n σ3 H3 w3 with ⟨stop, qn⟩ | ⟨go, N, hN, step⟩
 · refine wpAny_passesOwn hp (aU (T.done X rfl rfl rfl hc i pins s3 σ3 H3 X.xe I3 (stat fr3) st3 stop) fun r s4 ⟨hr, I4⟩ => ?_)
   subst hr
   exact wpAny_execs_nil ⟨σ3, H3, I4, qn⟩
 · refine wpAny_passesOwn hp (aU (T.item X rfl rfl rfl hc i pins s3 σ3 H3 X.xe I3 (stat fr3) st3 go) fun r s4 ⟨u, hr, h4⟩ => ?_)
   subst hr
   refine wpAny_passesOwn hp (aU h4 fun _ s5 ⟨x, H5, I5, r5, y5, st5, fr5⟩ => ?_)
   have I5' := I5.pinned (stat fr5) (T.obj _ _ st5)
   refine wpAny_passesOwn hp (aU (hg _ s5 σ3 H5 x u _ I5' r5 (step x H5 y5)) fun _ s6 ⟨σ6, H6, I6, q6⟩ => ?_)
   refine wpAny_passesOwn hp (aU (hb _ s6 σ6 H6 _ I6 q6) fun f s7 q7 => ?_)
   have again : ∀ {σ7 : St} {H7 : Hp}, Inv X (pins ++ eG fp s5.heap) σ7 H7 s7 → N σ7 H7 → ∃ m, m < n ∧ ∃ i σ' H', Inv X pins σ' H' s7 ∧ tn i s7.heap ∧ (∀ b ∈ fp, H' b = none) ∧ W i m σ' H' := fun {σ7 H7} I7 n7 => by
    obtain ⟨m', hm, w7⟩ := hN σ7 H7 n7
    refine ⟨m', hm, i + 1, σ7, H7, I7.unpinned, T.keep _ _ _ st5 fun b hb o e => (I7.pin (b, o) (List.mem_append_right _ (List.mem_append_right _ (bM hb e)))).1, fun b hb => ?_, w7⟩
    obtain ⟨o, e, d⟩ := T.obj _ _ st5 b hb
    exact (I7.pin (b, o) (List.mem_append_right _ (List.mem_append_right _ (bM hb e)))).2.1
   cases f with
   | next => obtain ⟨σ7, H7, I7, n7⟩ := q7; exact again I7 n7
   | cont => obtain ⟨σ7, H7, I7, n7⟩ := q7; exact again I7 n7
   | brk => obtain ⟨σ7, H7, I7, q7⟩ := q7; exact ⟨σ7, H7, I7.unpinned, q7⟩
   | ret v => obtain ⟨x7, σ7, H7, I7, r7, q7⟩ := q7; exact ⟨x7, σ7, H7, I7.unpinned, r7, q7⟩
end
abbrev R2 := V → V → Hp → VK → Prop
def cD (X : Cx) (f : Value → Value → Sem Value) (r : R2) : Prop :=
 ∀ (pins : List (Addr × Obj)) (s : Shared) (σ : St) (H : Hp) (x y : V) (v u : Value) (Q : VK), Inv X pins σ H s → RelV x v → RelV y u → r x y H Q →
  wpAny (model X.prog X.w) X.A (f v u) (EP X pins σ Q) X.xe s
def G4 (X : Cx) (f : Value → Sem Value) (r : V → Hp → VK → Prop) : Prop :=
 ∀ (pins : List (Addr × Obj)) (s : Shared) (σ : St) (H : Hp) (x : V) (v : Value) (Q : VK), Inv X pins σ H s → RelV x v → r x H Q →
  wpAny (model X.prog X.w) X.A (f v) (EP X pins σ Q) X.xe s
def bp (X : Cx) (f : Value) (r : List V → Hp → VK → Prop) : Prop :=
 ∀ (pins : List (Addr × Obj)) (s : Shared) (σ : St) (H : Hp) (xs : List V) (us : List Value) (Q : VK), Inv X pins σ H s → am xs us → r xs H Q →
  wpAny (model X.prog X.w) X.A (call f us) (EP X pins σ Q) X.xe s
def G8 (X : Cx) (r : V → Hp → (Bool → Hp → Prop) → Prop) : Prop :=
 ∀ (pins : List (Addr × Obj)) (s : Shared) (σ : St) (H : Hp) (x : V) (v : Value) (Q : Bool → Hp → Prop), Inv X pins σ H s → RelV x v → r x H Q →
  wpAny (model X.prog X.w) X.A (truthy v) (TP X pins σ Q) X.xe s
def BW (r : R2) (ta tb : TE) : TE := fun σ H Q => ta σ H fun x H1 => tb σ H1 fun y H2 => r x y H2 Q
def Jf (r : V → Hp → VK → Prop) (ta : TE) : TE := fun σ H Q => ta σ H fun x H1 => r x H1 Q
def rI (C : Int → Int → Prop) (g : Int → Int → V) : R2 := fun x y H Q => ∃ i j, x = .int i ∧ y = .int j ∧ C i j ∧ Q (g i j) H
def rh (g : Int → Int → V) : R2 := fun x y H Q => ∃ i j, x = .int i ∧ y = .int j ∧ Q (g i j) H
def rU (g : Int → V) : V → Hp → VK → Prop := fun x H Q => ∃ i, x = .int i ∧ Q (g i) H
section
variable {X : Cx} {a b c : Expr} {ta tb tc : TE} {pos : Pos}
theorem eW (ha : PE X a ta) (hb : PE X b tb) {pins} {s} {σ : St} {H} {R : V → V → Hp → Prop} (I : Inv X pins σ H s)
 (h : ta σ H fun x H1 => tb σ H1 fun y H2 => R x y H2) {Q : Value → Shared → Prop} {f : Value → Value → Sem _}
 (hf : ∀ v u s2 x y H2, Inv X pins σ H2 s2 → RelV x v → RelV y u → R x y H2 → wpAny (model X.prog X.w) X.A (f v u) Q X.xe s2) :
 wpAny (model X.prog X.w) X.A (eval a X.env) (fun v s₁ => wpAny (model X.prog X.w) X.A (eval b X.env) (fun u s₂ => wpAny (model X.prog X.w) X.A (f v u) Q X.xe s₂) X.xe s₁) X.xe s := by
 refine aU (ha _ s σ H _ I h) fun v s1 ⟨x, H1, I1, r1, q1⟩ => ?_
 refine aU (hb _ s1 σ H1 _ I1 q1) fun u s2 ⟨y, H2, I2, r2, q2⟩ => ?_
 exact hf v u s2 x y H2 I2 r1 r2 q2
theorem Du (ho : cD X (binaryOp op) r) (ha : PE X a ta) (hb : PE X b tb) : PE X (.BinOp a op b pos) (BW r ta tb) := by
 intro pins s σ H Q I h
 exact wpAny_BinOp (eW ha hb I h fun v u s2 x y H2 I2 rx ry q => ho _ s2 σ H2 x y v u Q I2 rx ry q)
theorem EH (ho : G4 X (unaryOp op) r) (ha : PE X a ta) : PE X (.UnaryOp op a pos) (Jf r ta) := by
 intro pins s σ H Q I h
 exact UnaryOp_ (aU (ha _ s σ H _ I h) fun v s1 ⟨x, H1, I1, r1, q1⟩ => ho _ s1 σ H1 x v Q I1 r1 q1)
theorem qZ {op : Operator} {r : R2} (ho : cD X (inplaceOp op) r) {pins : List (Addr × Obj)} {s : Shared} {σ : St} {H : Hp} {x y : V} {v u : Value} {Q : VK} (I : Inv X pins σ H s)
 (rx : RelV x v) (ry : RelV y u) (q : r x y H Q) : wpAny (model X.prog X.w) X.A (inplaceOp op v u) (EP X pins σ Q) X.xe s := ho pins s σ H x y v u Q I rx ry q
theorem Ee {C} {g : Int → Int → Int}
 (rule : ∀ (i j : Int) (t u : Tok) (s : Shared) (Q : Value → Shared → Prop) (E : Value → Shared → Prop), C i j → Q (.int (g i j) s.toks) { s with toks := s.toks + 1 } → wpAny (model X.prog X.w) X.A (f (.int i t) (.int j u)) Q E s) :
 cD X f (rI C fun i j => .int (g i j)) := by
 intro pins s σ H x y v u Q I rx ry h
 obtain ⟨i, j, rfl, rfl, hc, q⟩ := h
 obtain ⟨t, rfl⟩ := rx
 obtain ⟨t', rfl⟩ := ry
 exact rule i j t t' s _ _ hc ⟨.int _, H, I.tok _, ⟨_, rfl⟩, q⟩
theorem vY {g : Int → Int → Int}
 (rule : ∀ (i j : Int) (t u : Tok) (s : Shared) (Q : Value → Shared → Prop) (E : Value → Shared → Prop), Q (.int (g i j) s.toks) { s with toks := s.toks + 1 } → wpAny (model X.prog X.w) X.A (f (.int i t) (.int j u)) Q E s) :
 cD X f (rh fun i j => .int (g i j)) := by
 intro pins s σ H x y v u Q I rx ry h
 obtain ⟨i, j, rfl, rfl, q⟩ := h
 obtain ⟨t, rfl⟩ := rx
 obtain ⟨t', rfl⟩ := ry
 exact rule i j t t' s _ _ ⟨.int _, H, I.tok _, ⟨_, rfl⟩, q⟩
theorem ww {g : Int → Int → Bool}
 (rule : ∀ (i j : Int) (t u : Tok) (s : Shared) (Q : Value → Shared → Prop) (E : Value → Shared → Prop), Q (.bool (g i j)) s → wpAny (model X.prog X.w) X.A (f (.int i t) (.int j u)) Q E s) :
 cD X f (rh fun i j => .bl (g i j)) := by
 intro pins s σ H x y v u Q I rx ry h
 obtain ⟨i, j, rfl, rfl, q⟩ := h
 obtain ⟨t, rfl⟩ := rx
 obtain ⟨t', rfl⟩ := ry
 exact rule i j t t' s _ _ ⟨.bl _, H, I, rfl, q⟩
def Eu (i j : Int) : Prop := 0 ≤ j ∧ j ≤ 1000000 ∧ i.natAbs < 2 ^ 64
def qI (i j : Int) : Prop := (-(2 ^ 64) < i ∧ i < 2 ^ 64) ∨ (-(2 ^ 64) < j ∧ j < 2 ^ 64)
theorem qI.ok (h : qI i j) : IntMulOk i j := by
 rcases h with ⟨h1, h2⟩ | ⟨h1, h2⟩
 · exact .of_left (intBits_le_64 h1 h2)
 · exact .of_right (intBits_le_64 h1 h2)
theorem Bg : cD X (binaryOp .Add) (rh fun i j => .int (i + j)) := vY fun _ _ _ _ _ _ _ q => add_int q
theorem AH : cD X (binaryOp .Sub) (rh fun i j => .int (i - j)) := vY fun _ _ _ _ _ _ _ q => sub_int q
theorem zO : cD X (binaryOp .Mult) (rI qI fun i j => .int (i * j)) := Ee fun _ _ _ _ _ _ _ hc q => mul_int q hc.ok
theorem B6 : cD X (binaryOp .Mod) (rI (fun _ j => 0 < j) fun i j => .int (i % j)) := Ee fun i j _ _ _ _ _ hc q => mod_int' (by omega) (by rw [Int.fmod_eq_emod_of_nonneg i (by omega)]; exact q)
theorem BU : cD X (binaryOp .Pow) (rI Eu fun i j => .int (i ^ j.toNat)) := Ee fun _ _ _ _ _ _ _ hc q => pow_int_small hc.1 hc.2.1 hc.2.2 q
theorem wO : cD X (inplaceOp .Add) (rh fun i j => .int (i + j)) := vY fun _ _ _ _ _ _ _ q => iadd_int q
theorem yj : cD X (inplaceOp .Sub) (rh fun i j => .int (i - j)) := vY fun _ _ _ _ _ _ _ q => isub_int q
theorem yk : cD X (inplaceOp .Mult) (rI qI fun i j => .int (i * j)) := Ee fun _ _ _ _ _ _ _ hc q => imul_int q hc.ok
theorem J0 {g : Int → Int}
 (rule : ∀ (i : Int) (t : Tok) (s : Shared) (Q : Value → Shared → Prop) (E : Value → Shared → Prop), Q (.int (g i) s.toks) { s with toks := s.toks + 1 } → wpAny (model X.prog X.w) X.A (f (.int i t)) Q E s) :
 G4 X f (rU fun i => .int (g i)) := by
 intro pins s σ H x v Q I rx h
 obtain ⟨i, rfl, q⟩ := h
 obtain ⟨t, rfl⟩ := rx
 exact rule i t s _ _ ⟨.int _, H, I.tok _, ⟨_, rfl⟩, q⟩
theorem zR : G4 X (unaryOp .USub) (rU fun i => .int (-i)) := J0 fun _ _ _ _ _ q => neg_int q
theorem nS {σ : St} {H} {s} {Q} {k k'} (I : Inv X pins σ H s) (q : Q (.bl k) H) (e : k = k') : EP X pins σ Q (.bool k') s := by
 subst e
 exact ⟨.bl k, H, I, rfl, q⟩
theorem Fa : cD X (compareOp .Lt) (rh fun i j => .bl (decide (i < j))) := ww fun _ _ _ _ _ _ _ q => lt_int q
theorem FP : cD X (compareOp .LtE) (rh fun i j => .bl (decide (i ≤ j))) := ww fun _ _ _ _ _ _ _ q => le_int q
theorem FG : cD X (compareOp .Gt) (rh fun i j => .bl (decide (j < i))) := ww fun _ _ _ _ _ _ _ q => gt_int q
theorem D5 : cD X (compareOp .GtE) (rh fun i j => .bl (decide (j ≤ i))) := ww fun _ _ _ _ _ _ _ q => ge_int q
theorem uQ : cD X (compareOp .Is) fun x y H Q => y = .non ∧ Q (.bl (decide (x = .non))) H := by
 intro pins s σ H x y v u Q I rx ry h
 obtain ⟨rfl, q⟩ := h
 cases ry
 refine is_none_gen (nS I q ?_)
 cases x <;> first
  | (obtain ⟨t, rfl⟩ := rx; rfl)
theorem nX : cD X (compareOp .IsNot) fun x y H Q => y = .non ∧ Q (.bl !decide (x = .non)) H := by
 intro pins s σ H x y v u Q I rx ry h
 obtain ⟨rfl, q⟩ := h
 cases ry
 refine isnot_none_gen (nS I q ?_)
 cases x <;> first
  | (obtain ⟨t, rfl⟩ := rx; rfl)
theorem cD.or (h : cD X f r) (h' : cD X f r') : cD X f fun x y H Q => r x y H Q ∨ r' x y H Q := by
 intro pins s σ H x y v u Q I rx ry q
 rcases q with q | q
 · exact h _ s σ H x y v u Q I rx ry q
 · exact h' _ s σ H x y v u Q I rx ry q
theorem kr (b : Expr) {op} (h : op ≠ .In := by decide) (h2 : op ≠ .NotIn := by decide) : behindInMarks op b = false := by
 have e1 : (op == CmpOp.In) = false := by grind
 have e2 : (op == CmpOp.NotIn) = false := by grind
 cases b <;> simp [behindInMarks, e1, e2]
theorem kq (ho : cD X (compareOp op) r) (ha : PE X a ta) (hb : PE X b tb) (hm : behindInMarks op b = false) : PE X (.Compare a [op] [b] pos) (BW r ta tb) := by
 intro pins s σ H Q I h
 exact wpAny_Compare1 (eW ha hb I h fun v u s2 x y H2 I2 rx ry q => ho _ s2 σ H2 x y v u Q I2 rx ry q) hm
def zt (t : TE) : TT := fun σ H Q => t σ H fun x H' => ∃ k, x = .bl k ∧ Q k H'
theorem j8 (ho : cD X (compareOp op) r) (ha : PE X a ta) (hb : PE X b tb) (hm : behindInMarks op b = false) : PT X (.Compare a [op] [b] pos) (zt (BW r ta tb)) := by
 intro pins s σ H Q I h
 refine wpAny_isTrue_Compare1 (aU (ha _ s σ H _ I h) fun v s1 ⟨x, H1, I1, r1, q1⟩ => aU (hb _ s1 σ H1 _ I1 q1) fun u s2 ⟨y, H2, I2, r2, q2⟩ =>
  aU (ho _ s2 σ H2 x y v u _ I2 r1 r2 q2) fun c s3 ⟨z, H3, I3, r3, k, e, q3⟩ => ?_) hm
 subst e
 cases r3
 exact wpAny_truthy_bool ⟨H3, I3, q3⟩
def mL (K : PySem.W.Frag) (x : V) (H : Hp) (k : Bool) : Prop :=
 match x with
 | .non => k = false
 | .bl b => k = b
 | .int i => k = (i != 0)
 | .str y => y.length ≤ sizeLine ∧ k = ((y.length : Int) != 0)
 | .byt y => y.size ≤ sizeLine ∧ k = ((y.size : Int) != 0)
 | .ref p => (∃ xs, cF K H p xs ∧ k = !xs.isEmpty) ∨ ∃ xs, eB K H p xs ∧ k = !xs.isEmpty
 | _ => False
theorem gW (r : am xs its) : (!its.toArray.isEmpty) = !xs.isEmpty := by
 cases r <;> simp
theorem eX : sizeLine < 2 ^ 63 := by decide
theorem kh : G8 X (fun x H Q => ∃ k, mL X.K x H k ∧ Q k H) := by
 intro pins s σ H x v Q I rx h
 obtain ⟨k, e, q⟩ := h
 have hl := eX
 have hs : sizeLine = 16777216 := sizeLine_eq
 cases x with
 | non =>
  cases rx
  have e' : k = false := e
  subst e'
  exact truthy_none ⟨H, I, q⟩
 | bl b =>
  cases rx
  have e' : k = b := e
  subst e'
  exact wpAny_truthy_bool ⟨H, I, q⟩
 | int i =>
  obtain ⟨t, rfl⟩ := rx
  have e' : k = (i != 0) := e
  subst e'
  exact PySem.P.truthy_int ⟨H, I, q⟩
 | str y =>
  obtain ⟨t, rfl⟩ := rx
  obtain ⟨hy, e'⟩ : y.length ≤ sizeLine ∧ k = ((y.length : Int) != 0) := e
  subst e'
  exact PySem.P.truthy_str (by omega) ⟨H, I.tok _, q⟩
 | byt y =>
  obtain ⟨t, rfl⟩ := rx
  obtain ⟨hy, e'⟩ : y.size ≤ sizeLine ∧ k = ((y.size : Int) != 0) := e
  subst e'
  exact PySem.W.truthy_bytes (by omega) ⟨H, I.tok _, q⟩
 | ref p =>
  cases rx
  have e' : (∃ xs, cF X.K H p xs ∧ k = !xs.isEmpty) ∨ (∃ xs, eB X.K H p xs ∧ k = !xs.isEmpty) := e
  rcases e' with ⟨xs, hx, e'⟩ | ⟨xs, hx, e'⟩
  · subst e'
    obtain ⟨its, r, pl, hz⟩ := I.list hx
    have hlen := r.length
    exact wpAny_truthy_list pl.isList (by simp only [List.size_toArray]; omega) ⟨H, I.tok _, by rw [gW r]; exact q⟩
  · subst e'
    obtain ⟨its, r, pl, hz⟩ := I.tuple hx
    have hlen := r.length
    exact truthy_tuple pl (by simp only [List.size_toArray]; omega) ⟨H, I.tok _, by rw [gW r]; exact q⟩
 | _ => exact (show False from e).elim
theorem vj (ha : PE X a ta) (he : ∀ whole, isTrue a X.env whole = do let v ← whole; standAt a.pos; holding [v] (truthy v)) :
 PT X a fun σ H Q => ta σ H fun x H' => ∃ k, mL X.K x H' k ∧ Q k H' := by
 intro pins s σ H Q I h
 exact isTrue_plain (aU (ha _ s σ H _ I h) fun v s1 ⟨x, H1, I1, r1, q1⟩ => kh _ s1 σ H1 x v Q I1 r1 q1) (he _)
theorem nT : cD X (binaryOp .Add) fun x y H Q => ∃ i j, x = .str i ∧ y = .str j ∧ i.length + j.length ≤ sizeLine ∧ Q (.str (i ++ j)) H := by
 intro pins s σ H x y v u Q I rx ry h
 obtain ⟨i, j, rfl, rfl, hz, q⟩ := h
 obtain ⟨t, rfl⟩ := rx
 obtain ⟨t', rfl⟩ := ry
 exact add_str (fun t' tk => ⟨.str _, H, I.tok _, ⟨_, rfl⟩, q⟩) hz
theorem vals1 (r : am [x] us) : ∃ u, us = [u] ∧ RelV x u := by
 cases r with
 | cons r1 r2 => cases r2; exact ⟨_, rfl, r1⟩
theorem vals2 (r : am [x, y] us) : ∃ u w', us = [u, w'] ∧ RelV x u ∧ RelV y w' := by
 cases r with
 | cons r1 r2 =>
  cases r2 with
  | cons r3 r4 => cases r4; exact ⟨_, _, rfl, r1, r3⟩
theorem pU (hc : X.calm = true) : bp X (.builtin "max") fun xs H Q => ∃ i j, xs = [.int i, .int j] ∧ Q (.int (if j > i then j else i)) H := by
 intro pins s σ H xs us Q I r h
 obtain ⟨i, j, rfl, q⟩ := h
 obtain ⟨u, w', rfl, ⟨t, rfl⟩, ⟨t', rfl⟩⟩ := vals2 r
 refine max_two_ints (I.ok.hd hc) fun h' tk k => ⟨_, H, I.kept k, ?_, q⟩
 by_cases hj : j > i
 · rw [if_pos hj, if_pos hj]; exact ⟨_, rfl⟩
 · rw [if_neg hj, if_neg hj]; exact ⟨_, rfl⟩
theorem qp (hc : X.calm = true) : bp X (.builtin "min") fun xs H Q => ∃ i j, xs = [.int i, .int j] ∧ Q (.int (if j < i then j else i)) H := by
 intro pins s σ H xs us Q I r h
 obtain ⟨i, j, rfl, q⟩ := h
 obtain ⟨u, w', rfl, ⟨t, rfl⟩, ⟨t', rfl⟩⟩ := vals2 r
 refine min_two_ints (I.ok.hd hc) fun h' tk k => ⟨_, H, I.kept k, ?_, q⟩
 by_cases hj : j < i
 · rw [if_pos hj, if_pos hj]; exact ⟨_, rfl⟩
 · rw [if_neg hj, if_neg hj]; exact ⟨_, rfl⟩
theorem qj : bp X (.type "int") fun xs H Q => (∃ i, xs = [.int i] ∧ Q (.int i) H) ∨ ∃ k, xs = [.bl k] ∧ Q (.int (if k then 1 else 0)) H := by
 intro pins s σ H xs us Q I r h
 rcases h with ⟨i, rfl, q⟩ | ⟨k, rfl, q⟩
 · obtain ⟨u, rfl, t, rfl⟩ := vals1 r
   exact call_int_int ⟨.int i, H, I, ⟨_, rfl⟩, q⟩
 · obtain ⟨u, rfl, r1⟩ := vals1 r
   cases r1
   exact call_int_bool ⟨.int _, H, I.tok _, ⟨_, rfl⟩, q⟩
end
structure E7 (h : Heap) (x dx C : Addr) (mA : Str → Option Value) : Prop where
 obj : h.get? x = some (PySem.W.instObj C dx)
 ns : h.Ns1 dx mA
 ne : dx ≠ x
theorem qY {h : Heap} {dx} {mA} (n : h.Ns1 dx mA) : ∃ od, h.get? dx = some od ∧ ∀ name, PySem.W.lookIn name od = some (mA name) := by
 obtain ⟨o, es, ep, ho, hd, hk, _, hm⟩ := n
 refine ⟨o, ho, fun name => ?_⟩
 have e := hm name
 unfold nsFind findBy at e
 unfold PySem.W.lookIn
 rw [hd]
 dsimp only
 split
 · simp_all
 · have a : es.toList.any (·.refKey) = false := by
    rw [List.any_eq_false]
    intro y hy
    obtain ⟨z, t, hkey⟩ := hk y (Array.mem_toList_iff.mp hy)
    simp [DictEntry.refKey, hkey]
   grind
theorem E7.look (I : E7 h x dx C mA) : ∃ od, PySem.W.InstAt h x (PySem.W.instObj C dx) C (some od) ∧ ∀ name, PySem.W.lookIn name od = some (mA name) :=
 let ⟨od, ho, hl⟩ := qY I.ns
 ⟨od, ⟨I.obj, rfl, rfl, ho⟩, hl⟩
structure Jd (K : PySem.W.Frag) (C : Addr) : Prop where
 pg : PySem.W.plainGet K C Str.empty = true
 hd : PySem.W.hasDictIn K C = true
 po : PySem.W.plainOver K C = true
 sa : PySem.W.findIn K (.ref C) "__setattr__" = some (some (.builtin "object.__setattr__"))
theorem Jd.get {K} {C} (c : Jd K C) (f : Str) : PySem.W.plainGet K C f = true := c.pg
structure Dx (K : PySem.W.Frag) (C : Addr) (m : Str) (f : Addr) : Prop where
 at_ : PySem.W.findIn K (.ref C) m = some (some (.ref f))
 fn : PySem.W.isFn K (.ref f) = true
 kp : PySem.W.keepIn K (.ref f) = true
section
variable {X : Cx} {o e value : Expr} {f : Str} {pos pos' tpos : Pos} {ta tv : TE}
def Bd : V → V → Hp → VK → Prop := fun x y H Q => ∃ i j, x = .int i ∧ y = .int j ∧ Q (.int (i + j)) H
end
section
variable {X : Cx} {pins : List (Addr × Obj)} {σ : St} {H : Hp} {s : Shared} {A : Around} {E : Value → Shared → Prop} {Q : Value → Shared → Prop} {c : Value} {b : Bool}
inductive kv (K : PySem.W.Frag) (H : Hp) : V → Value → Prop where
 | non : kv K H .non (.type "NoneType")
 | bl (x : Bool) : kv K H (.bl x) (.type "bool")
 | int (i : Int) : kv K H (.int i) (.type "int")
 | str (x : Str) : kv K H (.str x) (.type "str")
 | flt (x : UInt64) : kv K H (.flt x) (.type "float")
 | lst {a : Addr} {xs : List V} (e : H a = some (.lst xs)) : kv K H (.ref a) (.type "list")
 | frz {a : Addr} {o : Obj} {xs : List V} (e : H a = some (.frz o (.lst xs))) : kv K H (.ref a) (.type "list")
 | tup {a : Addr} {xs : List V} (e : H a = some (.tup xs)) : kv K H (.ref a) (.type "tuple")
theorem d7 {x : V} {u t : Value} (I : Inv X pins σ H s) (rx : RelV x u) (ty : kv X.K H x t) (e : PySem.W.kitOne X.K t c = some b) (h : ∀ tk, Q (.bool b) { s with toks := tk }) :
 wpAny (model X.prog X.w) A (call (.builtin "isinstance") [u, c]) Q E s := by
 cases ty with
 | non => cases (show u = Value.none from rx); exact PySem.W.kia_one PySem.W.kitx_none I.kIn True.intro e nofun h
 | bl y => cases (show u = Value.bool y from rx); exact PySem.W.kia_one PySem.W.kitx_bool I.kIn True.intro e nofun h
 | int i => obtain ⟨t, q⟩ := (show ∃ t, u = Value.int i t from rx); cases q; exact PySem.W.kia_one PySem.W.kitx_int I.kIn True.intro e nofun h
 | str y => obtain ⟨t, q⟩ := (show ∃ t, u = Value.str y t from rx); cases q; exact PySem.W.kia_one PySem.W.kitx_str I.kIn True.intro e nofun h
 | flt y => obtain ⟨t, q⟩ := (show ∃ t, u = Value.float y t from rx); cases q; exact PySem.W.kia_one PySem.W.kitx_float I.kIn True.intro e nofun h
 | @lst a xs ea =>
  cases (show u = Value.ref a from rx)
  obtain ⟨_, _, n, _, h1⟩ := (show bz X.prog X.w H s.heap a (.lst xs) from I.hok a _ ea)
  exact PySem.W.kia_one PySem.W.kitx_list I.kIn ⟨_, h1, rfl⟩ e nofun h
 | @frz a ob xs ea =>
  cases (show u = Value.ref a from rx)
  obtain ⟨_, _, _, n, _, h1⟩ := (show bz X.prog X.w H s.heap a (.frz ob (.lst xs)) from I.hok a _ ea)
  exact PySem.W.kia_one PySem.W.kitx_list I.kIn ⟨_, h1, rfl⟩ e nofun h
 | @tup a xs ea =>
  cases (show u = Value.ref a from rx)
  obtain ⟨_, _, _, p⟩ := (show bz X.prog X.w H s.heap a (.tup xs) from I.hok a _ ea)
  obtain ⟨o, h1, h2, _⟩ := p
  exact PySem.W.kia_one PySem.W.kitx_tuple I.kIn ⟨o, h1, h2⟩ e nofun h
end
structure bv (k : Nat) (A : Around) : Prop where
 hd : A.handled = none
 dp : A.depth + 3 * k + 5 < recursionLimit
 un : A.units + 16 * k + 200 < cLine
theorem bv.mono {j k} {A} (r : bv k A) (h : j ≤ k) : bv j A := ⟨r.hd, by have := r.dp; omega, by have := r.un; omega⟩
theorem bv.deeper (r : bv (k + 1) A) (env : Env) : bv k (A.deeper env) :=
 ⟨r.hd, by have := r.dp; show A.depth + 1 + 3 * k + 5 < _; omega, by have := r.un; show A.units + 3 + 16 * k + 200 < _; omega⟩
theorem bv.depth (r : bv k A) : A.depth < recursionLimit := by have := r.dp; omega
theorem bv.units (r : bv k A) : A.units + 64 < cLine := by have := r.un; omega
def rk : TA := fun _ H Q => Q [] H
def oU (ta : TE) (tr : TA) : TA := fun σ H Q => ta σ H fun x H1 => tr σ H1 fun xs H2 => Q (x :: xs) H2
section
variable {X : Cx} {e : Expr} {es : List Expr} {te : TE} {t : TA} {pos : Pos}
theorem jX : PA X [] rk := fun _ _ _ _ H Q I h => Calls.spliced_nil ⟨[], H, I, .nil, h⟩
theorem fJ (ha : PE X e te) (hr : PA X es t) (hs : starEach (e :: es) X.env = (false, eval e X.env) :: starEach es X.env := by rfl) : PA X (e :: es) (oU te t) := by
 intro pos pins s σ H Q I h
 rw [hs]
 refine Calls.spliced_cons (aU (ha _ s σ H _ I h) fun u s1 ⟨x, H1, I1, r1, q1⟩ => ?_)
 exact aU (hr _ _ s1 σ H1 _ I1 q1) fun us s2 ⟨xs, H2, I2, r2, q2⟩ => ⟨_, H2, I2, .cons r1 r2, q2⟩
def Hj (t : TA) : TE := fun σ H Q => t σ H fun xs H1 => xs.length ≤ sizeLine ∧ ∀ p, H1 p = none → Q (.ref p) (bB H1 p (.tup xs))
def HG (t : TA) : TE := fun σ H Q => t σ H fun xs H1 => xs.length ≤ sizeLine ∧ ∀ p, H1 p = none → Q (.ref p) (bB H1 p (.lst xs))
theorem AM (h : PA X es t) : PE X (.Tuple es x1 pos) (Hj t) := by
 intro pins s σ H Q I hq
 refine wpAny_Tuple_spliced (aU (h _ _ s σ H _ I hq) fun us s1 ⟨xs, H1, I1, r, z, q⟩ => ⟨by rw [← r.length]; exact z, ?_⟩)
 have hf := I1.hok.fresh (Nat.le_refl _)
 refine ⟨.ref _, _, I1.laid (fun b u e => Heap.get?_push_of_some _ e) (Nat.le_refl _) ?_, rfl, q _ hf⟩
 exact ⟨z, us, r, ⟨_, Heap.get?_push_size _ rfl, rfl, _, rfl⟩⟩
theorem BH (h : PA X es t) : PE X (.List es pos) (HG t) := by
 intro pins s σ H Q I hq
 refine wpAny_List_spliced (aU (h _ _ s σ H _ I hq) fun us s1 ⟨xs, H1, I1, r, z, q⟩ => ⟨by rw [← r.length]; exact z, ?_⟩)
 have hf := I1.hok.fresh (Nat.le_refl _)
 refine ⟨.ref _, _, I1.laid (fun b u e => Heap.get?_push_of_some _ e) (Nat.le_refl _) ?_, rfl, q _ hf⟩
 exact ⟨z, us, 0, r, Heap.get?_push_size _ rfl⟩
end
abbrev Sp := List V → Hp → VK → XK → Prop
abbrev wu := List Env → Hp → Shared → XK → Value → Shared → Prop
structure wX (P : Program) (w : World) (K : PySem.W.Frag) (mg : Str → Option Value) (base : Heap) (A : Around) (outer : List Env) (s : Shared) (H : Hp) : Prop where
 frames : A.frames = some outer
 mod : Mod K mg base
 bs : ∀ b o, base.get? b = some o → s.heap.get? b = some o ∧ H b = none
 bsz : base.objs.size ≤ s.heap.objs.size
 funs : s.heap.FunFrames base outer
 frf : ∀ b ∈ n9 outer, H b = none
 hok : gh P w H s.heap
 bare : AllBare s.gens
def CE (outer : List Env) (P : Program) (w : World) (H : Hp) (s : Shared) (Q : VK) (u : Value) (s' : Shared) : Prop :=
 ∃ v H', IT s s' ∧ AllBare s'.gens ∧ Un (n9 outer) [] H H' s.heap s'.heap ∧ gh P w H' s'.heap ∧ RelV v u ∧ Q v H'
def CR (CX : wu) (outer : List Env) (P : Program) (w : World) (H : Hp) (s : Shared) (Q : VK) (E : XK) (r : Result) (s' : Shared) : Prop :=
 match r with
 | .ok (.ret u) => CE outer P w H s Q u s'
 | .ok _ => False
 | .error e => CX outer H s E e s'
structure f7 (P : Program) (w : World) (K : PySem.W.Frag) (mg : Str → Option Value) (base : Heap) (CX : wu) (k : Nat) (f : Addr) (fd : FuncData) (ps : List Str) (sp : Sp) : Prop where
 len : ∀ vs H Q E, sp vs H Q E → vs.length = ps.length
 run : ∀ (A : Around) (outer : List Env) (s : Shared) (H : Hp) (args : Args) (us : List Value) (vs : List V) (Q : VK) (E : XK), bv k A → wX P w K mg base A outer s H → BindsTo s fd args (ps.zip us) → am vs us → sp vs H Q E →
  codeAny (model P w) A (.call (.ref f) args) (CR CX outer P w H s Q E) s
section
variable {X : Cx} {pins : List (Addr × Obj)} {σ : St} {H : Hp} {s s' : Shared}
theorem Inv.env0 (I : Inv X pins σ H s) : wX X.prog X.w X.K X.mg X.base X.A X.stack s H :=
 ⟨I.ok.frames, I.ok.mod, I.bs, Nat.le_trans I.ok.bsz I.sz, I.stack, I.stkFree, I.hok, I.bare⟩
theorem Inv.after (I : Inv X pins σ H s) (h : CE X.stack X.prog X.w H s Q u s') : EP X pins σ Q u s' := by
 obtain ⟨v, H', os, bare, un, hok, r, q⟩ := h
 obtain ⟨hh, g, d, t, os'⟩ := s'
 obtain rfl : os' = s.os := os.1
 exact ⟨v, H', I.call un hok bare os.2 fun b z => absurd z (by simp), r, q⟩
end
def pA (sp : Sp) (dvs : List V) (E : XK) (t : TA) : TE := fun σ H Q => t σ H fun vs H1 => sp (vs ++ dvs) H1 Q E
def Binds (K : PySem.W.Frag) (fd : FuncData) (ps : List Str) (ds : List Value) : Prop :=
 ∀ (s : Shared) (us : List Value), K.In s.heap → (us ++ ds).length = ps.length → BindsTo s fd ⟨us, []⟩ (ps.zip (us ++ ds))
theorem Binds.all {K} {fd} {ps} (h : ∀ us, us.length = ps.length → bindArgs fd ⟨us, []⟩ = pure (ps.zip us)) : Binds K fd ps [] := fun s us _ hl => by
 rw [List.append_nil] at hl ⊢
 exact .of_eq (h us hl)
def jL (CX : wu) (X : Cx) (E : XK) : Prop := ∀ (pins : List (Addr × Obj)) (σ : St) (H : Hp) (s : Shared) (e : Value) (s' : Shared), Inv X pins σ H s → CX X.stack H s E e s' → X.xe e s'
section
variable {X : Cx} {CX : wu} {k : Nat} {f C : Addr} {fd : FuncData} {ps : List Str} {sp : Sp} {dvs : List V} {ds : List Value} {E : XK} {x m : Str} {p pos apos : Pos} {e o : Expr} {es : List Expr} {ta : TE} {t : TA}
theorem vB {σ : St} {H} {s} {Q} {us} {vs} (F : f7 X.prog X.w X.K X.mg X.base CX k f fd ps sp) (hr : bv k X.A) (hb : Binds X.K fd ps ds) (hd : am dvs ds) (hx : jL CX X E)
 (I : Inv X pins σ H s) (r : am vs us) (h : sp (vs ++ dvs) H Q E) : wpAny (model X.prog X.w) X.A (call (.ref f) us) (EP X pins σ Q) X.xe s := by
 have r2 := r.append hd
 have hl : (us ++ ds).length = ps.length := by rw [← r2.length]; exact F.len _ _ _ _ h
 refine wpAny_call (codeAny_mono (F.run _ _ s H _ _ _ Q E hr I.env0 (hb s us I.kIn hl) r2 h) fun r s' hq => ?_)
 cases r with
 | error e => exact hx _ σ H s e s' I hq
 | ok fl =>
  cases fl with
  | ret u => exact I.after hq
  | next => exact False.elim hq
  | brk => exact False.elim hq
  | cont => exact False.elim hq
theorem vP (F : f7 X.prog X.w X.K X.mg X.base CX k f fd ps sp) (hr : bv k X.A) (hg : Gl X x) (hm : X.mg x = some (.ref f)) (hk : PySem.W.keepIn X.K (.ref f) = true) (hb : Binds X.K fd ps ds) (hd : am dvs ds) (hx : jL CX X E)
 (ha : PA X (e :: es) t) (hdb : (x == ("__debug__")) = false := by decide) (he : starEach (e :: es) X.env = (false, eval e X.env) :: starEach es X.env := by rfl) (hpl : (backTo pos (starEach es X.env)).any (·.1) = false := by rfl) :
 PE X (.Call (.Name x p) (e :: es) [] pos) (pA sp dvs E t) := by
 intro pins s σ H Q I h
 refine wpAny_Call_Name_kw (jU I hg hm ?_ hdb)
 refine PySem.W.callWith_K I.ok.mod.kin hk (aU (ha _ _ s σ H _ I h) fun us s1 ⟨vs, H1, I1, r, q⟩ => ⟨I1.kIn, ?_⟩) he hpl
 exact vB F hr hb hd hx I1 r q
theorem sx (F : f7 X.prog X.w X.K X.mg X.base CX k f fd ps sp) (hr : bv k X.A) (hg : Gl X x) (hm : X.mg x = some (.ref f)) (hk : PySem.W.keepIn X.K (.ref f) = true) (hb : Binds X.K fd ps ds) (hd : am dvs ds) (hx : jL CX X E)
 (hdb : (x == "__debug__") = false := by decide) : PE X (.Call (.Name x p) [] [] pos) (pA sp dvs E rk) := by
 intro pins s σ H Q I h
 refine wpAny_Call_Name_kw (jU I hg hm ?_ hdb)
 exact PySem.W.callWith_K0 I.kIn hk (vB F hr hb hd hx I .nil h)
end
def PK (X : Cx) (kws : List Keyword) (t : TA) : Prop :=
 ∀ (pos : Pos) (pins : List (Addr × Obj)) (s : Shared) (σ : St) (H : Hp) (Q : List V → Hp → Prop), Inv X pins σ H s → t σ H Q → wpAny (model X.prog X.w) X.A (evalAll ((backToKw pos (keywordEach kws X.env)).map (·.2))) (AP X pins σ Q) X.xe s
section
variable {X : Cx} {CX : wu} {k : Nat} {f C : Addr} {fd : FuncData} {ps ks : List Str} {sp : Sp} {E : XK} {x m : Str} {p pos apos kpos : Pos} {e o : Expr} {es : List Expr} {kws : List Keyword} {te ta : TE} {t tk : TA} {nm : Option Str}
theorem Aw : PK X [] rk := fun _ _ _ _ H Q I h => wpAny_evalAll_nil ⟨[], H, I, .nil, h⟩
theorem wn (ha : PE X e te) (hr : PK X kws t) : PK X (⟨nm, e, kpos⟩ :: kws) (oU te t) := by
 intro pos pins s σ H Q I h
 show wpAny _ _ (evalAll ((do let v ← eval e X.env; standAt pos; pure v) :: (backToKw pos (keywordEach kws X.env)).map (·.2))) _ _ s
 refine wpAny_evalAll_cons (wpAny_bind (aU (ha pins s σ H _ I h) fun u s1 ⟨x, H1, I1, r1, q1⟩ => wpAny_bind (wpAny_standAt (wpAny_pure ?_))))
 exact aU (hr pos pins s1 σ H1 _ I1 q1) fun us s2 ⟨xs, H2, I2, r2, q2⟩ => ⟨x :: xs, H2, I2, .cons r1 r2, q2⟩
variable {g : List Value → List Value → List Value} {gV : List V → List V → List V}
end
structure cL (N P : List Str) (sc : Scope) : Prop where
 kind : sc.kind = .function
 co : sc.isCoroutine = false
 gen : sc.isGenerator = false
 nd : N.Nodup
 pre : N.take P.length = P
 par : ∀ x ∈ P, sc.names.lookup x = some .local ∨ sc.names.lookup x = some .cell
 nofree : ∀ y ∈ sc.names, y.2 ≠ .free
theorem i7 {kindOf} {x} : ∀ {binds} {m}, (∀ v, (x, v) ∉ binds) → bindL kindOf binds m x = m x
 | [], _, _ => rfl
 | (n, v) :: r, m, h => by
  unfold bindL
  rw [i7 fun w hw => h w (List.mem_cons_of_mem _ hw)]
  split
  · have : x ≠ n := by rintro rfl; exact h v List.mem_cons_self
    simp [this]
  · rfl
theorem jg {kindOf} {x} : ∀ {binds} {m}, (∀ v, (x, v) ∉ binds) → bindC kindOf binds m x = m x
 | [], _, _ => rfl
 | (n, v) :: r, m, h => by
  unfold bindC
  rw [jg fun w hw => h w (List.mem_cons_of_mem _ hw)]
  split
  · rfl
  · have : x ≠ n := by rintro rfl; exact h v List.mem_cons_self
    simp [this]
theorem iY {kindOf} {x} {v} : ∀ {P : List _} {vs} {i : Nat} {m}, P.Nodup → P[i]? = some x → vs[i]? = some v → kindOf x = some .local →
 bindL kindOf (P.zip vs) m x = some v
 | [], _, _, _, _, h, _, _ => by simp at h
 | _ :: _, [], _, _, _, _, h, _ => by simp at h
 | p :: P, w :: vs, 0, m, nd, h1, h2, hk => by
  simp at h1 h2; subst h1; subst h2
  show bindL _ ((p, w) :: P.zip vs) m p = _
  unfold bindL
  rw [i7 fun v hv => (List.nodup_cons.mp nd).1 (List.of_mem_zip hv).1, if_pos hk]
  simp
 | p :: P, w :: vs, i + 1, m, nd, h1, h2, hk => by
  show bindL _ ((p, w) :: P.zip vs) m x = _
  exact iY (List.nodup_cons.mp nd).2 (by simpa using h1) (by simpa using h2) hk
theorem i5 {kindOf} {x} {v} : ∀ {P : List _} {vs} {i : Nat} {m}, P.Nodup → P[i]? = some x → vs[i]? = some v → kindOf x ≠ some .local →
 bindC kindOf (P.zip vs) m x = some v
 | [], _, _, _, _, h, _, _ => by simp at h
 | _ :: _, [], _, _, _, _, h, _ => by simp at h
 | p :: P, w :: vs, 0, m, nd, h1, h2, hk => by
  simp at h1 h2; subst h1; subst h2
  show bindC _ ((p, w) :: P.zip vs) m p = _
  unfold bindC
  rw [jg fun v hv => (List.nodup_cons.mp nd).1 (List.of_mem_zip hv).1, if_neg hk]
  simp
 | p :: P, w :: vs, i + 1, m, nd, h1, h2, hk => by
  show bindC _ ((p, w) :: P.zip vs) m x = _
  exact i5 (List.nodup_cons.mp nd).2 (by simpa using h1) (by simpa using h2) hk
def start (N : List Str) (vs : List V) : St := vs.map some ++ List.replicate (N.length - vs.length) none
def iV (CX : wu) (P : Program) (w : World) (K : PySem.W.Frag) (mg : Str → Option Value) (base : Heap) (N : List Str) (qual : Str) (scope : Scope) (f : Addr) (cd : Value) (A : Around) (outer : List Env) (s : Shared) (H : Hp) (E : XK) : Cx where
 prog := P
 w := w
 K := K
 mg := mg
 base := base
 A := A.deeper (envOfC qual scope s.heap.objs.size f cd)
 N := N
 s₀ := s
 H₀ := H
 env := envOfC qual scope s.heap.objs.size f cd
 outer := outer
 stack := envOfC qual scope s.heap.objs.size f cd :: outer
 ex := []
 calm := true
 fn := fun _ => true
 pn := []
 xe := fun e s' => wpAny (model P w) (A.deeper (envOfC qual scope s.heap.objs.size f cd)) (leaving (envOfC qual scope s.heap.objs.size f cd) e) (fun _ s'' => CX outer H s E e s'') (fun e' s'' => CX outer H s E e' s'') s'
theorem lA {sc : Scope} {n} {x} (h : sc.names.lookup x = some .cell) : ∃ c, (cellsFrom n sc.names []).lookup x = some c := by
 have q := PySem.W.cellsFrom_some _ n [] (.inl h)
 exact Option.isSome_iff_exists.mp q
theorem rd {CX : wu} {P : Program} {w : World} {K : PySem.W.Frag} {mg : Str → Option Value} {base : Heap} {N ps : List Str} {qual : Str} {scope : Scope} {f : Addr} {cd : Value} {A : Around} {outer : List Env} {s s1 : Shared} {H : Hp} {E : XK} {us : List Value} {vs : List V}
 (S : cL N ps scope) (hd : A.handled = none) (e0 : wX P w K mg base A outer s H) (hl : vs.length = ps.length) (r : am vs us)
 (x : InCallC s s.heap.objs.size (bindL (envOfC qual scope s.heap.objs.size f cd).kindOf (ps.zip us) fun _ => none) (cellsFrom (s.heap.objs.size + 1) scope.names []) (bindC (envOfC qual scope s.heap.objs.size f cd).kindOf (ps.zip us) fun _ => none) s1) :
 Inv (iV CX P w K mg base N qual scope f cd A outer s H E) [] (start N vs) H s1 := by
 have hpl : ps.length ≤ N.length := by have := congrArg List.length S.pre; rw [List.length_take] at this; omega
 obtain ⟨h1, tk, rfl, hk⟩ := x.done
 have noA : ∀ b : Addr, b ∉ (iV CX P w K mg base N qual scope f cd A outer s H E).ex := fun b z => absurd (show b ∈ ([] : List Addr) from z) (by simp)
 refine ⟨⟨e0.mod, S.kind, rfl, rfl, Nat.le_refl _, fun y z c h1 h2 => ?_, fun y hy => ?_, fun y c _ h => ?_, fun _ => hd, Around.frames_deeper e0.frames, .inr ⟨rfl, rfl⟩, fun b z => absurd z (noA b), e0.bs, e0.bsz, fun b _ _ => noA b, fun b z => absurd z (noA b), e0.funs, e0.frf⟩,
  ⟨rfl, Nat.le_refl _⟩, e0.bare, Un.kept hk, ⟨_, x.toInCall.ns, fun i y v h1 h2 h3 => ?_⟩, fun y c h => ⟨_, x.cell y c h⟩, e0.hok.fresh (Nat.le_refl _), fun y c h => ?_, fun p hp => absurd (show p ∈ ([] : List (Addr × Obj)) from hp) (by simp), e0.hok.kept hk, ?_⟩
 · exact name_of_addr x.apart (PySem.mem_of_lookup h1) (PySem.mem_of_lookup h2)
 · rcases hy with hy | hy
   · exact lA hy
   · exact absurd rfl (S.nofree _ (PySem.mem_of_lookup hy))
 · exact Nat.le_of_lt (x.above y c (PySem.mem_of_lookup h))
 · have hi : i < vs.length := by
    unfold start at h2
    by_cases hi : i < vs.length
    · exact hi
    · rw [List.getElem?_append_right (by simpa using hi)] at h2
      rw [List.getElem?_replicate] at h2
      grind
   have ha : vs[i]? = some v := by
    unfold start at h2
    rw [List.getElem?_append_left (by simpa using hi), List.getElem?_map] at h2
    grind
   obtain ⟨u, hu, rv⟩ := r.get ha
   have hp : ps[i]? = some y := by
    rw [← S.pre, List.getElem?_take_of_lt (by omega)]; exact h1
   have ndP : ps.Nodup := by rw [← S.pre]; exact S.nd.sublist (List.take_sublist _ _)
   refine ⟨u, rv, ?_⟩
   rcases S.par y (List.mem_of_getElem? hp) with k | k
   · exact .inl ⟨k, iY ndP hp hu k⟩
   · obtain ⟨c, e⟩ := lA k
     refine .inr ⟨.inl k, c, e, ?_⟩
     have q := x.cell y c e
     rw [i5 ndP hp hu (by show scope.names.lookup y ≠ _; rw [k]; decide)] at q
     exact q
 · exact e0.hok.fresh (Nat.le_of_lt (x.above y c (PySem.mem_of_lookup h)))
 · unfold start
   show _ = N.length
   grind
theorem yT {CX : wu} {P : Program} {w : World} {K : PySem.W.Frag} {mg : Str → Option Value} {base : Heap} {k : Nat} {f : Addr} {name qual : Str} {params : Arguments} {body : List Stmt} {scope : Scope} {dV kV doc pm cdv ct oc : Value} {an od : Option Addr}
 {osl : Array (Option Value)} {N ps : List Str} {sp : Sp} (lk : K.lookup f = some ⟨oc, od, .func (PySem.W.fnOf name qual params body scope dV kV doc pm an cdv ct), osl⟩) (hcd : PySem.W.codeIn K cdv qual = true) (S : cL N ps scope)
 (len : ∀ vs H Q E, sp vs H Q E → vs.length = ps.length)
 (hbody : ∀ (A : Around) (outer : List _) (s : Shared) (H : Hp) (vs : List V) (Q : VK) (E : XK), bv k (A.deeper (envOfC qual scope s.heap.objs.size f cdv)) → sp vs H Q E →
  ∃ t, fV (iV CX P w K mg base N qual scope f cdv A outer s H E) body t ∧ t { nx := fun _ H' => Q .non H', rt := Q } (start N vs) H) :
 f7 P w K mg base CX (k + 1) f (PySem.W.fnOf name qual params body scope dV kV doc pm an cdv ct) ps sp := by
 refine ⟨len, fun A outer s H args us vs Q E hr e0 hb r hsp => ?_⟩
 have hl := len _ _ _ _ hsp
 have KX := e0.mod.kin.keeps fun b o e => (e0.bs b o e).1
 have lim := e0.mod.nolimit.keeps fun b o e => (e0.bs b o e).1
 have hkind : ∀ y ∈ ps.zip us, scope.names.lookup y.1 = some _ ∨ (scope.names.lookup y.1 = some _ ∧ ((cellsFrom (s.heap.objs.size + 1) _ []).lookup y.1).isSome = true) := fun ⟨n, v⟩ hy => by
  rcases S.par n (List.of_mem_zip hy).1 with q | q
  · exact .inl q
  · exact .inr ⟨q, PySem.W.cellsFrom_some _ _ _ (.inl q)⟩
 refine codeAny_call_function hr.depth (KX _ _ lk) rfl S.co S.gen rfl (PySem.W.codeRec_of KX hcd) (hb _ _ _ _ ?_)
 refine wpAny_newFunctionEnv_cells S.kind hkind fun env he s1 x => ?_
 subst he
 refine ⟨lim.keeps x.toInCall.keep, codeAny_func ?_⟩
 obtain ⟨t, ht, hq⟩ := hbody A _ s H vs Q E (hr.deeper _) hsp
 have I : Inv (iV CX P w K mg _ N qual _ f cdv A _ s H E) [] _ H s1 := rd S hr.hd e0 hl r x
 refine wpAny_mono (ht [] s1 _ H _ I hq) (fun fl s' hs => ?_) fun e s' hs => hs
 have dy : ∀ {σ'} {H'} {v} {u}, Inv (iV CX P w K mg base N qual scope f cdv A outer s H E) [] σ' H' s' → RelV v u → Q v H' → CE _ P w H s Q u s' :=
  fun {σ' H' v u} J rv q => ⟨v, H', J.os, J.bare, J.base, J.hok, rv, q⟩
 cases fl with
 | ret u =>
  obtain ⟨v, σ', H', J, rv, q⟩ := hs
  exact dy J rv q
 | next =>
  obtain ⟨σ', H', J, q⟩ := hs
  exact dy (v := V.non) J rfl q
 | brk =>
  obtain ⟨_, _, _, q⟩ := hs
  exact False.elim q
 | cont =>
  obtain ⟨_, _, _, q⟩ := hs
  exact False.elim q
section
variable {X : Cx} {x : Str} {p pos : Pos} {e : Expr} {es : List Expr} {t : TA} {id T : String} {r : List V → Hp → VK → Prop}
def F4 (r : List V → Hp → VK → Prop) (t : TA) : TE := fun σ H Q => t σ H fun vs H1 => r vs H1 Q
theorem cx (hc : bp X (.builtin id) r) (hg : Gl X x) (hm : X.mg x = none) (hv : bootBuiltins x = some (.builtin id)) (ha : PA X (e :: es) t) (hn : x ≠ "__name__" := by decide) (hdb : (x == ("__debug__")) = false := by decide)
 (he : starEach (e :: es) X.env = (false, eval e X.env) :: starEach es X.env := by rfl) (hpl : (backTo pos (starEach es X.env)).any (·.1) = false := by rfl) : PE X (.Call (.Name x p) (e :: es) [] pos) (F4 r t) := by
 intro pins s σ H Q I h
 refine wpAny_Call_Name_kw (cz I hg hm hv ?_ hn hdb)
 exact PyProof.Rows.callWith_builtin1 (aU (ha _ _ s σ H _ I h) fun us s1 ⟨vs, H1, I1, r1, q1⟩ => hc _ s1 σ H1 vs us Q I1 r1 q1) he hpl
theorem i9 (hc : bp X (.type T) r) (hg : Gl X x) (hm : X.mg x = none) (hv : bootBuiltins x = some (.type T)) (ha : PA X (e :: es) t) (hn : x ≠ "__name__" := by decide) (hdb : (x == ("__debug__")) = false := by decide)
 (he : starEach (e :: es) X.env = (false, eval e X.env) :: starEach es X.env := by rfl) (hpl : (backTo pos (starEach es X.env)).any (·.1) = false := by rfl) : PE X (.Call (.Name x p) (e :: es) [] pos) (F4 r t) := by
 intro pins s σ H Q I h
 refine wpAny_Call_Name_kw (cz I hg hm hv ?_ hn hdb)
 exact PyProof.Rows.callWith_type1 (aU (ha _ _ s σ H _ I h) fun us s1 ⟨vs, H1, I1, r1, q1⟩ => hc _ s1 σ H1 vs us Q I1 r1 q1) he hpl
end
end L2
namespace HT
open PySem PyProof.Rows
section
variable {prog : Program} {w : World} {A : Around} {E : Value → Shared → Prop} {s : Shared}
theorem vV {Q} (ht : IsTup s.heap t vs.toArray) (hb : IsTup s.heap b ws.toArray) (hv : vs ≠ [])
 (h1 : ws = [] → Q (.ref t) s) (h2 : ws ≠ [] → Q (.ref s.heap.objs.size) { s with heap := s.heap.push { cls := .type "tuple", data := .seq (vs ++ ws).toArray } })
 (hsz : vs.length + ws.length ≤ sizeLine) : wpAny (model prog w) A (binaryOp .Add (.ref t) (.ref b)) Q E s := by
 obtain ⟨⟨cls, dd, data, sl⟩, ho, hc, n, hd⟩ := id ht
 obtain ⟨⟨cls2, dd2, data2, sl2⟩, ho2, hc2, n2, hd2⟩ := id hb
 subst hc hd hc2 hd2
 have e : vs.toArray ++ ws.toArray = (vs ++ ws).toArray := by simp
 by_cases hw : ws = []
 · exact concat_meets ⟨_, ho, rfl⟩ ⟨_, ho2, rfl⟩ noFill_tuple_add seq_tuple_add PySem.F.slot_tuple_add PySem.F.entry_tuple_add (PySem.F.args_tuple_add_2 _ _)
    (tuple_addW1 t b _ _ n n2 dd _ sl _ (by simpa using hv) (by simp [hw])) ⟨ho, ho2, h1 hw⟩
 · refine concat_meets ⟨_, ho, rfl⟩ ⟨_, ho2, rfl⟩ noFill_tuple_add seq_tuple_add PySem.F.slot_tuple_add PySem.F.entry_tuple_add (PySem.F.args_tuple_add_2 _ _)
    (tuple_addW2 t b _ _ n n2 dd _ sl _ (by simpa using hv) (by simpa using hw) (by omega)) ⟨ho, ho2, ?_⟩
   rw [e]
   exact h2 hw
def dz (n d : Nat) : Option Int → Nat
 | none => d
 | some v => if v < 0 then (v + (n : Int)).toNat else min v.toNat n
theorem oN (v : Int) (n d : Nat) : (if v < 0 then max (v + n) 0 else min v n) = dz n d (some v) := by
 show (if v < 0 then max _ 0 else min v n) = (if v < 0 then (v + n).toNat else min _ n)
 grind
theorem nG (lo hi : Option _) (n : Nat) : Builtin.Slice.sliceAdjust lo hi 1 n = ((dz n 0 lo : Int), (dz n n hi : Int)) := by
 refine Prod.ext ?_ ?_
 · cases lo with
   | none => rfl
   | some v => exact oN v n 0
 · cases hi with
   | none => rfl
   | some v => exact oN v n n
theorem mO (i j : Nat) : Builtin.Slice.slicePlaces i j 1 = j - i := by
 unfold Builtin.Slice.slicePlaces
 grind
theorem iB (p : IsPart v o) (h : Q o s) : wpAny (model prog w) A (Builtin.Slice.slicePartIndex v) Q E s := by
 cases p with
 | none => exact slicePart_none h
 | int i t => exact slicePart_int h
theorem gi {lo hi} {n : Nat} {Q} (hs : s.heap.IsSliceOf sl vl vu .none) (pl : IsPart vl lo) (pu : IsPart vu hi)
 (h : Q (dz n 0 lo, 1, dz n n hi - dz n 0 lo) s) : wpAny (model prog w) A (Builtin.Slice.sliceApplied (.ref sl) (pure n)) Q E s := by
 obtain ⟨os, hos, hcs, hds⟩ := id hs
 refine wpAny_bind (wpAny_bind (wpAny_field hos hds (x := vl) rfl (wpAny_bind (wpAny_field hos hds (x := vu) rfl (wpAny_bind (wpAny_field hos hds rfl (wpAny_pure ?_)))))))
 refine wpAny_bind (slicePart_none ?_)
 refine wpAny_bind (iB pl (wpAny_bind (iB pu (wpAny_bind (wpAny_pure ?_)))))
 show wpAny _ _ (match Builtin.Slice.sliceAdjust lo hi 1 n with | (lo, hi) => pure (lo, (1 : Int), Builtin.Slice.slicePlaces lo hi 1)) _ _ s
 rw [nG lo hi n]
 show wpAny _ _ (pure _) _ _ s
 rw [mO]
 exact wpAny_pure h
theorem uT (xs : Array Value) (i k : Nat) : ((List.range k).filterMap fun (m : Nat) => xs[((i : Int) + m * 1).toNat]?).toArray = ((xs.toList.drop i).take k).toArray := by
 have e : (fun (m : Nat) => xs[((i : Int) + m * 1).toNat]?) = fun m => xs[i + m]? := by
  funext m
  have : ((i : Int) + m * 1).toNat = i + m := by omega
  rw [this]
 have := pick_run xs i k
 have e2 : ((fun x => xs[x]?) ∘ fun x => i + x) = fun m => xs[i + m]? := rfl
 simp_all
theorem fE {t sl : Addr} {items : Array Value} {vl vu : Value} {lo hi : Option Int} {Q : Value → Shared → Prop} (ht : IsTup s.heap t items) (hs : s.heap.IsSliceOf sl vl vu .none) (pl : IsPart vl lo) (pu : IsPart vu hi)
 (hw : ¬ (dz items.size 0 lo = 0 ∧ dz items.size items.size hi = items.size))
 (h : Q (.ref s.heap.objs.size) { s with heap := s.heap.push { cls := .type "tuple", data := .seq ((items.toList.drop (dz items.size 0 lo)).take (dz items.size items.size hi - dz items.size 0 lo)).toArray } })
 (hsz : items.size ≤ sizeLine) : wpAny (model prog w) A (getItem (.ref t) (.ref sl)) Q E s := by
 have htake : sizeOk (.seq ((items.toList.drop (dz items.size 0 lo)).take (dz items.size items.size hi - dz items.size 0 lo)).toArray) := by
  show ((items.toList.drop _).take _).toArray.size ≤ sizeLine
  rw [List.size_toArray, List.length_take, List.length_drop, Array.length_toList]
  omega
 obtain ⟨os, hos, hcs, hds⟩ := id hs
 have hTs : s.TypeIs (.ref sl) _ := ⟨os, hos, hcs⟩
 unfold getItem
 try with_reducible refine wpAny_holding ?_
 refine wpAny_bind (wpAny_sequenceKey ht.typeIs (rfl) ?_)
 refine wpAny_bind (wpAny_callSpecial?_slot ht.typeIs PyProof.Rows.slot_tuple_getitem
  (wpAny_call_entry PyProof.Rows.slot_tuple_getitem ht.typeIs entry_tuple_getitem ?_ (args_tuple_getitem _ _)))
 show wpAny _ _ (Builtin.Tuple.tupleItemsOf _ >>= _) _ _ s
 refine wpAny_bind (tupleItemsOf_ ht ?_)
 refine wpAny_bind (wpAny_typeOf hTs ?_)
 refine wpAny_bind (gi hs pl pu ?_)
 have hno : ¬ ((((dz items.size 0 lo) : Int) == 0 && (1 : Int) == 1 && dz items.size items.size hi - dz items.size 0 lo == items.size) = true) := by
  grind
 show wpAny _ _ (if (((dz _ 0 lo) : Int) == 0 && 1 == 1 && (dz _ _ hi - dz _ 0 lo) == items.size) = true then _ else _) _ _ s
 rw [if_neg hno, uT]
 first
  | exact wpAny_bind (wpAny_newObj_type (wpAny_pure ⟨_, rfl, wpAny_pure h⟩) htake)
end
end HT
namespace L2
abbrev TO := St → Hp → (Option Int → Hp → Prop) → Prop
def PO (X : Cx) (e : Option Expr) (t : TO) : Prop :=
 ∀ (pins : List (Addr × Obj)) (s : Shared) (σ : St) (H : Hp) (Q : Option Int → Hp → Prop), Inv X pins σ H s → t σ H Q →
  wpAny (model X.prog X.w) X.A (evalPart e X.env) (fun u s' => ∃ o H', Inv X pins σ H' s' ∧ IsPart u o ∧ Q o H') X.xe s
def xb : TO := fun _ H Q => Q none H
def Db (t : TE) : TO := fun σ H Q => t σ H fun x H1 => ∃ i, x = .int i ∧ Q (some i) H1
theorem intsAre_of : ∀ {us}, am (ns.map V.int) us → IntsAre us ns := by
 induction ns with
 | nil => intro us r; cases r; exact .nil
 | cons n ns ih =>
  intro us r
  cases r with
  | cons r1 r2 =>
   obtain ⟨t, e⟩ := r1
   subst e
   exact .cons n t (ih r2)
section
variable {X : Cx} {e : Expr} {te : TE} {lo hi : Option Expr} {tl th : TO} {pos p2 : Pos}
theorem vX : PO X none xb := by
 intro pins s σ H Q I h
 exact wpAny_pure ⟨_, H, I, .none, h⟩
theorem v9 (h : PE X e te) : PO X (some e) (Db te) := by
 intro pins s σ H Q I hw
 refine aU (h _ s σ H _ I hw) fun u s1 ⟨x, H1, I1, r1, q1⟩ => ?_
 obtain ⟨i, rfl, q⟩ := q1
 obtain ⟨t, rfl⟩ := r1
 exact ⟨_, H1, I1, .int i t, q⟩
def vU (X : Cx) (r : V → Option Int → Option Int → Hp → VK → Prop) : Prop :=
 ∀ (pins : List (Addr × Obj)) (s : Shared) (σ : St) (H : Hp) (x : V) (v vl vu : Value) (lo hi : Option Int) (sl : Addr) (Q : VK), Inv X pins σ H s → RelV x v → s.heap.IsSliceOf sl vl vu .none → IsPart vl lo → IsPart vu hi → r x lo hi H Q →
  ∃ T id, typeLookup (.type T) "__getitem__" = pure (some (.builtin id)) ∧ s.TypeIs v T ∧ wpAny (model X.prog X.w) X.A (getItem v (.ref sl)) (EP X pins σ Q) X.xe s
theorem vU.or (h : vU X r) (h' : vU X r') : vU X fun x lo hi H Q => r x lo hi H Q ∨ r' x lo hi H Q := by
 intro pins s σ H x v vl vu lo hi sl Q I rx hs pl pu q
 rcases q with q | q
 · exact h _ s σ H x v vl vu lo hi sl Q I rx hs pl pu q
 · exact h' _ s σ H x v vl vu lo hi sl Q I rx hs pl pu q
def Ju (r : V → Option Int → Option Int → Hp → VK → Prop) (te : TE) (tl th : TO) : TE := fun σ H Q => te σ H fun x H1 => tl σ H1 fun l H2 => th σ H2 fun u H3 => r x l u H3 Q
theorem rV (hr : vU X r) (he : PE X e te) (hl : PO X lo tl) (hu : PO X hi th) : PE X (.Subscript e (.Slice lo hi none p2) pos) (Ju r te tl th) := by
 intro pins s σ H Q I h
 refine Subscript_ (aU (he _ s σ H _ I h) fun v s1 ⟨x, H1, I1, r1, q1⟩ => ?_)
 refine wpAny_Slice (aU (hl _ s1 σ H1 _ I1 q1) fun vl s2 ⟨l, H2, I2, pl, q2⟩ => aU (hu _ s2 σ H2 _ I2 q2) fun vu s3 ⟨u, H3, I3, pu, q3⟩ => ?_)
 refine wpAny_pure ?_
 have I4 : Inv X _ σ H3 { s3 with heap := s3.heap.push { cls := .type "slice", data := .fields #[vl, vu, .none] } } := I3.kept fun b ob q => Heap.get?_push_of_some _ q
 obtain ⟨T, id, hT, ht, hg⟩ := hr _ _ σ H3 x v vl vu l u _ Q I4 r1 (Heap.IsSliceOf.new ..) pl pu q3
 exact tail_any ht hT hg rfl
def qw (xs : List V) (lo hi : Option Int) : List V := (xs.drop (HT.dz xs.length 0 lo)).take (HT.dz xs.length xs.length hi - HT.dz xs.length 0 lo)
theorem gp (xs : List V) (lo hi : Option _) : (qw xs lo hi).length ≤ xs.length := by
 unfold qw
 rw [List.length_take, List.length_drop]
 omega
def Fq (K : PySem.W.Frag) : V → Option Int → Option Int → Hp → VK → Prop := fun x lo hi H Q => ∃ a xs, x = .ref a ∧ eB K H a xs ∧
 ¬ (HT.dz xs.length 0 lo = 0 ∧ HT.dz xs.length xs.length hi = xs.length) ∧ ∀ p, H p = none → Q (.ref p) (bB H p (.tup (qw xs lo hi)))
theorem BK : vU X (Fq X.K) := by
 intro pins s σ H x v vl vu lo hi sl Q I rx hs pl pu h
 obtain ⟨a, xs, rfl, hx, hw, q⟩ := h
 cases rx
 obtain ⟨its, r, ht, hz⟩ := I.tuple hx
 have hlen : its.toArray.size = xs.length := r.length.symm
 refine ⟨_, _, PyProof.Rows.slot_tuple_getitem.lookup, ht.typeIs, ?_⟩
 refine HT.fE ht hs pl pu (by rw [hlen]; exact hw) ?_ (by rw [hlen]; exact hz)
 rw [hlen]
 refine ⟨.ref _, _, I.laid (fun b ob q => Heap.get?_push_of_some _ q) (Nat.le_refl _) ?_, rfl, q _ (I.hok.fresh (Nat.le_refl _))⟩
 exact ⟨Nat.le_trans (gp xs lo hi) hz, _, (r.drop _).take _, IsTup.new _ _⟩
def DU (K : PySem.W.Frag) : R2 := fun x y H Q => ∃ a b xs ys, x = .ref a ∧ y = .ref b ∧ eB K H a xs ∧ eB K H b ys ∧ xs ≠ [] ∧ xs.length + ys.length ≤ sizeLine ∧
 (ys = [] → Q (.ref a) H) ∧ (ys ≠ [] → ∀ p, H p = none → Q (.ref p) (bB H p (.tup (xs ++ ys))))
theorem am.nil_iff (r : am xs us) : us = [] ↔ xs = [] := by
 cases r with
 | nil => simp
 | cons _ _ => simp
theorem yf : cD X (binaryOp .Add) (DU X.K) := by
 intro pins s σ H x y v u Q I rx ry h
 obtain ⟨a, b, xs, ys, rfl, rfl, ha, hb, hx, hz, q1, q2⟩ := h
 cases rx
 cases ry
 obtain ⟨its, r1, p1, _⟩ := I.tuple ha
 obtain ⟨its2, r2, p2, _⟩ := I.tuple hb
 refine HT.vV p1 p2 (fun z => hx (r1.nil_iff.mp z)) (fun z => ⟨.ref a, H, I, rfl, q1 (r2.nil_iff.mp z)⟩) (fun z => ?_) (by rw [← r1.length, ← r2.length]; exact hz)
 refine ⟨.ref _, _, I.laid (fun b ob q => Heap.get?_push_of_some _ q) (Nat.le_refl _) ?_, rfl, q2 (fun w => z (r2.nil_iff.mpr w)) _ (I.hok.fresh (Nat.le_refl _))⟩
 exact ⟨by simp_all, _, r1.append r2, IsTup.new _ _⟩
end
def pi (n : Nat) (i : Int) : Option Nat := if 0 ≤ i then (if i < n then some i.toNat else none) else if -(n : Int) ≤ i then some (i + n).toNat else none
def dj {α : Type} (xs : List α) (i : Int) : Option α := (pi xs.length i).bind fun j => xs[j]?
theorem oF (h : pi n i = some j) : seqIndex? i n = some j ∧ j < n ∧ -n ≤ i ∧ i < n := by
 unfold pi at h
 by_cases h0 : 0 ≤ i
 · rw [if_pos h0] at h
   by_cases h1 : i < n
   · rw [if_pos h1] at h
     have e := Option.some.inj h
     exact ⟨by rw [seqIndex_of h0 h1, e], by omega, by omega, h1⟩
   simp_all
 · rw [if_neg h0] at h
   by_cases h1 : -n ≤ i
   · rw [if_pos h1] at h
     have e := Option.some.inj h
     exact ⟨by rw [seqIndex_neg (by omega) h1, e], by omega, h1, by omega⟩
   simp_all
theorem jF {v} (h : dj xs i = some v) : ∃ j, seqIndex? i xs.length = some j ∧ xs[j]? = some v ∧ j < xs.length ∧ -xs.length ≤ i ∧ i < xs.length := by
 unfold dj at h
 cases e : pi _ i with
 | none => rw [e] at h; cases h
 | some j =>
  rw [e] at h
  obtain ⟨h1, h2, h3, h4⟩ := oF e
  exact ⟨j, h1, h, h2, h3, h4⟩
def kD (b : Expr) : Prop := ∀ o i, subscripted b false o i = operate [o, i] (getItem o i)
def vD (X : Cx) (r : R2) : Prop :=
 ∀ (value slice : Expr) (pins : List (Addr × Obj)) (s : Shared) (σ : St) (H : Hp) (x y : V) (v u : Value) (Q : VK), Inv X pins σ H s → RelV x v → RelV y u → r x y H Q →
  subscripted slice false v u = operate [v, u] (getItem v u) → wpAny (model X.prog X.w) X.A (subscriptTail value slice v u) (EP X pins σ Q) X.xe s
def sR (X : Cx) (id : String) (r : V → List V → Hp → VK → Prop) : Prop :=
 ∀ (pins : List (Addr × Obj)) (s : Shared) (σ : St) (H : Hp) (x : V) (xs : List V) (v : Value) (us : List Value) (Q : VK), Inv X pins σ H s → RelV x v → am xs us → r x xs H Q →
  wpAny (model X.prog X.w) X.A (call (.builtin id) (v :: us)) (EP X pins σ Q) X.xe s
section
variable {X : Cx} {a b : Expr} {ta tb : TE} {pos : Pos}
theorem vD.or (h : vD X r) (h' : vD X r') : vD X fun x y H Q => r x y H Q ∨ r' x y H Q := by
 intro value slice pins s σ H x y v u Q I rx ry q hs
 rcases q with q | q
 · exact h _ _ _ s σ H x y v u Q I rx ry q hs
 · exact h' _ _ _ s σ H x y v u Q I rx ry q hs
theorem sR.or {id} {r r'} (h : sR X id r) (h' : sR X id r') : sR X id fun x xs H Q => r x xs H Q ∨ r' x xs H Q := by
 intro pins s σ H x xs v us Q I rx rs q
 rcases q with q | q
 · exact h _ s σ H x xs v us Q I rx rs q
 · exact h' _ s σ H x xs v us Q I rx rs q
theorem E1 (hr : vD X r) (ha : PE X a ta) (hb : PE X b tb) (hs : kD b) : PE X (.Subscript a b pos) (BW r ta tb) := by
 intro pins s σ H Q I h
 exact Subscript_ (eW ha hb I h fun v u s2 x y H2 I2 rx ry q => hr a b _ s2 σ H2 x y v u Q I2 rx ry q (hs _ _))
def ED (K : PySem.W.Frag) : R2 := fun x y H Q => ∃ p xs i v, x = .ref p ∧ y = .int i ∧ cF K H p xs ∧ dj xs i = some v ∧ Q v H
def FQ (K : PySem.W.Frag) : R2 := fun x y H Q => ∃ p xs i v, x = .ref p ∧ y = .int i ∧ eB K H p xs ∧ dj xs i = some v ∧ Q v H
def ER : R2 := fun x y H Q => ∃ z i c, x = .str z ∧ y = .int i ∧ z.length ≤ sizeLine ∧ dj z.cps.toList i = some c ∧ Q (.str ⟨#[c]⟩) H
theorem xS : vD X (ED X.K) := by
 intro value slice pins s σ H x y v u Q I rx ry h hs
 obtain ⟨p, xs, i, z, rfl, rfl, hq, he, q⟩ := h
 cases rx
 obtain ⟨t, rfl⟩ := ry
 obtain ⟨its, r, pl, hz⟩ := I.list hq
 obtain ⟨j, h1, h2, h3, h4, h5⟩ := jF he
 obtain ⟨w, ew, rw'⟩ := r.get h2
 have hl := r.length
 have hn := eX
 have dy : EP X _ σ Q w s := ⟨z, H, I, rw', q⟩
 by_cases h0 : 0 ≤ i
 · have hj : i.toNat = j := by
    rw [seqIndex_of h0 h5] at h1
    simp_all
   exact item_listR pl.isList h0 (by omega) (by rw [hj]; simpa using ew) dy hs
 · have hj : (i + its.toArray.size).toNat = j := by
    rw [seqIndex_neg (by omega) h4] at h1
    simp_all
   exact subscriptTail_builtinR pl.isList.typeIs slot_list_getitem.lookup
    (wpAny_getItem_list_neg pl.isList (by omega) (by grind) (by omega) (by rw [hj]; simpa using ew) ⟨rfl, dy⟩) hs
theorem Cb : vD X (FQ X.K) := by
 intro value slice pins s σ H x y v u Q I rx ry h hs
 obtain ⟨p, xs, i, z, rfl, rfl, hq, he, q⟩ := h
 cases rx
 obtain ⟨t, rfl⟩ := ry
 obtain ⟨its, r, pl, hz⟩ := I.tuple hq
 obtain ⟨j, h1, h2, h3, h4, h5⟩ := jF he
 obtain ⟨w, ew, rw'⟩ := r.get h2
 have hl := r.length
 have hn := eX
 have dy : EP X _ σ Q w s := ⟨z, H, I, rw', q⟩
 exact subscriptTail_builtinR pl.typeIs slot_tuple_getitem.lookup
  (getItem_tuple (j := j) pl (by omega) (by omega) (by grind) (by simpa using ew) ⟨rfl, dy⟩) hs
theorem AG : vD X ER := by
 intro value slice pins s σ H x y v u Q I rx ry h hs
 obtain ⟨z, i, c, rfl, rfl, hz, he, q⟩ := h
 obtain ⟨t, rfl⟩ := rx
 obtain ⟨t', rfl⟩ := ry
 obtain ⟨j, h1, h2, h3, h4, h5⟩ := jF he
 have hl : z.cps.toList.length = z.length := rfl
 rw [hl] at h1 h4 h5
 have hn := eX
 exact tail_any (typeIs_str s z t) slot_str_getitem.lookup (getItem_str (by
  have e1 : decide (i < -2 ^ 63) = false := decide_eq_false (by omega)
  have e2 : decide (i ≥ 2 ^ 63) = false := decide_eq_false (by omega)
  rw [e1, e2, Bool.or_false]) (by rw [h1]; simpa using h2) ⟨.str _, H, I.tok _, ⟨_, rfl⟩, q⟩) hs
def G9 (K : PySem.W.Frag) : R2 := fun x y H Q => ED K x y H Q ∨ FQ K x y H Q ∨ ER x y H Q
theorem Ay : vD X (G9 X.K) := xS.or (Cb.or AG)
theorem nE (its : List _) (n j : Nat) (u : Value) : Obj.mapSeq (·.setIfInBounds j u) { cls := .type "list", data := .seq its.toArray n } = { cls := .type "list", data := .seq (its.set j u).toArray n } := by
 simp [Obj.mapSeq]
theorem Inv.lst {σ : St} {H} {s} {p} {xs} (I : Inv X pins σ H s) (h : H p = some (.lst xs)) :
 ∃ (its : List _) (n : Nat), am xs its ∧ s.heap.get? p = some { cls := .type "list", data := .seq its.toArray n } ∧ xs.length ≤ sizeLine := by
 obtain ⟨z, its, n, r, e⟩ := I.hok p _ h
 exact ⟨its, n, r, e, z⟩
theorem Inv.lstUpd {σ : St} {H} {s} {p} {xs ys} {its its' : List _} {n n'} {f} (I : Inv X pins σ H s) (h : H p = some (.lst xs))
 (ho : s.heap.get? p = some { cls := .type "list", data := .seq its.toArray n }) (hf : f { cls := .type "list", data := .seq its.toArray n } = { cls := .type "list", data := .seq its'.toArray n' }) (r : am ys its') (hz : ys.length ≤ sizeLine) (t : Nat) :
 Inv X pins σ (bB H p (.lst ys)) { s with heap := s.heap.update p f, toks := t } := by
 have e : (s.heap.update p f).get? p = some { cls := .type "list", data := .seq its'.toArray n' } := by
  rw [Heap.get?_update_self f ho (by rw [hf] <;> rfl), hf]
 refine I.write (by rw [h]; trivial) (.inl rfl) (fun b u hb q => (Heap.get?_update_other _ _ (Ne.symm hb)).trans q) ⟨_, e⟩ ?_
 exact ⟨hz, _, n', r, e⟩
def DT : V → V → V → Hp → (Hp → Prop) → Prop := fun o i v H Q => ∃ p xs k j, o = .ref p ∧ i = .int k ∧ H p = some (.lst xs) ∧ pi xs.length k = some j ∧ Q (bB H p (.lst (xs.set j v)))
theorem tP : Fh X DT := by
 intro pins s σ H o i v ov iv u Q I ro ri rv h
 obtain ⟨p, xs, k, j, rfl, rfl, hp, hj, q⟩ := h
 cases ro
 obtain ⟨t, rfl⟩ := ri
 obtain ⟨its, n, r, ho, hz⟩ := I.lst hp
 obtain ⟨h1, h2, h3, h4⟩ := oF hj
 have hl := r.length
 have hn := eX
 have I' : Inv X _ σ _ { s with heap := s.heap.update p _ } :=
  I.lstUpd hp ho (nE _ n j u) (r.set rv j) (by simp_all) _
 by_cases h0 : 0 ≤ k
 · have hk : k.toNat = j := by
    rw [seqIndex_of h0 h4] at h1
    simp_all
   exact PySem.W.ki_setAt ho h0 (by omega) (by simp_all) (by rw [hk]; exact ⟨_, I', q⟩)
 · have hk : (k + its.toArray.size).toNat = j := by
    rw [seqIndex_neg (by omega) h3] at h1
    simp_all
   exact PySem.W.ki_setBack ho (by omega) (by simp_all) (by omega) (by rw [hk]; exact ⟨_, I', q⟩)
theorem jw (lo hi : Option _) (n : Nat) : (sliceBounds lo hi none n).1 = HT.dz n 0 lo ∧ (sliceBounds lo hi none n).2.1 = HT.dz n n hi ∧ (sliceBounds lo hi none n).2.2 = 1 := by
 refine ⟨?_, ?_, rfl⟩
 · cases lo with
   | none => rfl
   | some i =>
    simp only [sliceBounds, HT.dz, Option.getD_none, show (1 : Int) > 0 by decide, if_true]
    by_cases h : i < 0
    · simp only [h, if_true] <;> omega
    · simp only [h, if_false] <;> omega
 · cases hi with
   | none => rfl
   | some i =>
    simp only [sliceBounds, HT.dz, Option.getD_none, show (1 : Int) > 0 by decide, if_true]
    by_cases h : i < 0
    · simp only [h, if_true] <;> omega
    · simp only [h, if_false] <;> omega
theorem iT (its : List _) (lo hi : Option _) : slicePick its.toArray lo hi none = ((its.drop (HT.dz its.length 0 lo)).take (HT.dz its.length its.length hi - HT.dz its.length 0 lo)).toArray := by
 obtain ⟨h1, h2, h3⟩ := jw lo hi _
 unfold slicePick
 rw [h1, h2, h3]
 simp only [sliceRange_one, pick_run, List.size_toArray]
def C4 (K : PySem.W.Frag) : V → Option Int → Option Int → Hp → VK → Prop := fun x lo hi H Q => ∃ a xs, x = .ref a ∧ cF K H a xs ∧ ∀ p, H p = none → Q (.ref p) (bB H p (.lst (qw xs lo hi)))
theorem wq : vU X (C4 X.K) := by
 intro pins s σ H x v vl vu lo hi sl Q I rx hs pl pu h
 obtain ⟨a, xs, rfl, hx, q⟩ := h
 cases rx
 obtain ⟨its, r, ht, hz⟩ := I.list hx
 have hlen := r.length
 refine ⟨_, _, slot_list_getitem.lookup, ht.isList.typeIs, ?_⟩
 refine wpAny_getItem_list_slice ht.isList hs pl pu .none (by simp) ?_ (by grind)
 rw [iT, ← hlen]
 refine ⟨.ref _, _, I.laid (fun b ob q => Heap.get?_push_of_some _ q) (Nat.le_refl _) ?_, rfl, q _ (I.hok.fresh (Nat.le_refl _))⟩
 exact ⟨Nat.le_trans (gp xs lo hi) hz, _, 0, (r.drop _).take _, Heap.get?_push_size _ rfl⟩
def eF : V → Bool
 | .non => true
 | .bl _ => true
 | .int _ => true
 | .str _ => true
 | _ => false
def wU : V → V → Bool
 | .non, .non => true
 | .bl a, .bl b => a == b
 | .bl a, .int b => (if a then 1 else 0) == b
 | .int a, .bl b => a == (if b then 1 else 0)
 | .int a, .int b => a == b
 | .str a, .str b => a == b
 | _, _ => false
theorem Bv {A : Around} {s : Shared} {y x : V} {u v} (ry : RelV y u) (rx : RelV x v) (fy : eF y = true) (fx : eF x = true) : SeqAt.EqAt A s u v (wU y x) := by
 cases y with
 | non =>
  cases ry
  cases x with
  | non => cases rx; exact SeqAt.EqAt.same _
  | bl b => cases rx; exact SeqAt.EqAt.none_bool b
  | int b => obtain ⟨t, rfl⟩ := rx; exact SeqAt.EqAt.none_int b t
  | str b => obtain ⟨t, rfl⟩ := rx; exact SeqAt.EqAt.none_str b t
  | _ => exact absurd (fx) Bool.false_ne_true
 | bl a =>
  cases ry
  cases x with
  | non => cases rx; exact SeqAt.EqAt.bool_none a
  | bl b => cases rx; exact SeqAt.EqAt.bool_bool a b
  | int b => obtain ⟨t, rfl⟩ := rx; exact SeqAt.EqAt.bool_int a b t
  | str b => obtain ⟨t, rfl⟩ := rx; exact SeqAt.EqAt.bool_str a b t
  | _ => exact absurd (fx) Bool.false_ne_true
 | int a =>
  obtain ⟨t', rfl⟩ := ry
  cases x with
  | non => cases rx; exact SeqAt.EqAt.int_none a t'
  | bl b => cases rx; exact SeqAt.EqAt.int_bool a t' b
  | int b => obtain ⟨t, rfl⟩ := rx; exact SeqAt.EqAt.int_int a t' b t
  | str b => obtain ⟨t, rfl⟩ := rx; exact SeqAt.EqAt.int_str a t' b t
  | _ => exact absurd (fx) Bool.false_ne_true
 | str a =>
  obtain ⟨t', rfl⟩ := ry
  cases x with
  | non => cases rx; exact SeqAt.EqAt.str_none a t'
  | bl b => cases rx; exact SeqAt.EqAt.str_bool a t' b
  | int b => obtain ⟨t, rfl⟩ := rx; exact SeqAt.EqAt.str_int a t' b t
  | str b => obtain ⟨t, rfl⟩ := rx; exact SeqAt.EqAt.str_str a t' b t
  | _ => exact absurd (fx) Bool.false_ne_true
 | _ => exact absurd (fy) Bool.false_ne_true
def Au (x : V) (u : Value) : Bool := match u with
 | .none => wU .non x
 | .bool b => wU (.bl b) x
 | .int i _ => wU (.int i) x
 | .str z _ => wU (.str z) x
 | _ => false
theorem vg {x y} {u} (r : RelV y u) (f : eF y = true) : Au x u = wU y x := by
 cases y with
 | non => cases r; rfl
 | bl b => cases r; rfl
 | int i => obtain ⟨t, rfl⟩ := r; rfl
 | str z => obtain ⟨t, rfl⟩ := r; rfl
 | _ => exact absurd f Bool.false_ne_true
theorem fj : ∀ {xs} {us}, am xs us → xs.all eF = true → us.any (Au x) = xs.any fun y => wU y x
 | _, _, .nil, _ => rfl
 | y :: xs, u :: us, .cons r t, f => by
  rw [List.all_cons, Bool.and_eq_true] at f
  rw [List.any_cons, List.any_cons, vg r f.1, fj t f.2]
theorem dC {x} {v} (rx : RelV x v) (fx : eF x = true) : ∀ {xs} {us}, am xs us → xs.all eF = true → ∀ u ∈ us, SeqAt.EqAt A s u v (Au x u)
 | _, _, .nil, _ => fun u hu => by cases hu
 | y :: xs, u :: us, .cons r t, f => fun u' hu => by
  rw [List.all_cons, Bool.and_eq_true] at f
  rcases List.mem_cons.mp hu with rfl | hu
  · rw [vg r f.1]; exact Bv r rx f.1 fx
  · exact dC rx fx t f.2 u' hu
def Gn (x : V) (xs : List V) : Bool := xs.any fun y => wU y x
def CZ (K : PySem.W.Frag) (neg : Bool) : R2 := fun x y H Q => ∃ p xs, y = .ref p ∧ (cF K H p xs ∨ eB K H p xs) ∧ eF x = true ∧ xs.all eF = true ∧ Q (.bl (if neg then !Gn x xs else Gn x xs)) H
theorem qR : cD X (compareOp .In) (CZ X.K false) := by
 intro pins s σ H x y v u Q I rx ry h
 obtain ⟨p, xs, rfl, hq, fx, fs, q⟩ := h
 cases ry
 rcases hq with hq | hq
 · obtain ⟨its, r, pl, hz⟩ := I.list hq
   refine SeqAt.in_listAt _ pl.isList (fun w hw => dC rx fx r fs w (by simpa using hw)) ⟨.bl _, H, I, rfl, ?_⟩
   rw [show its.toArray.any _ = its.any (Au x) by simp, fj r fs]
   exact q
 · obtain ⟨its, r, pl, hz⟩ := I.tuple hq
   refine SeqAt.in_tupleAt _ pl (fun w hw => dC rx fx r fs w (by simpa using hw)) ⟨.bl _, H, I, rfl, ?_⟩
   rw [show its.toArray.any _ = its.any (Au x) by simp, fj r fs]
   exact q
theorem jV : cD X (compareOp .NotIn) (CZ X.K true) := by
 intro pins s σ H x y v u Q I rx ry h
 obtain ⟨p, xs, rfl, hq, fx, fs, q⟩ := h
 cases ry
 rcases hq with hq | hq
 · obtain ⟨its, r, pl, hz⟩ := I.list hq
   refine SeqAt.notIn_listAt _ pl.isList (fun w hw => dC rx fx r fs w (by simpa using hw)) ⟨.bl _, H, I, rfl, ?_⟩
   rw [show its.toArray.any _ = its.any (Au x) by simp, fj r fs]
   exact q
 · obtain ⟨its, r, pl, hz⟩ := I.tuple hq
   refine SeqAt.notIn_tupleAt _ pl (fun w hw => dC rx fx r fs w (by simpa using hw)) ⟨.bl _, H, I, rfl, ?_⟩
   rw [show its.toArray.any _ = its.any (Au x) by simp, fj r fs]
   exact q
theorem kA : bp X (.builtin "len") fun xs H Q => ∃ p ys, xs = [.ref p] ∧ (cF X.K H p ys ∨ eB X.K H p ys) ∧ Q (.int ys.length) H := by
 intro pins s σ H xs us Q I r h
 obtain ⟨p, ys, rfl, hq, q⟩ := h
 obtain ⟨u, rfl, rx⟩ := vals1 r
 cases rx
 have hn := eX
 rcases hq with hq | hq
 · obtain ⟨its, r', pl, hz⟩ := I.list hq
   have hlen := r'.length
   exact Calls.call_len_list pl.isList (by simp only [List.size_toArray] <;> omega) ⟨.int _, H, I.tok _, ⟨s.toks + 1, by simp_all⟩, q⟩
 · obtain ⟨its, r', pl, hz⟩ := I.tuple hq
   have hlen := r'.length
   exact len_tuple pl (by simp only [List.size_toArray] <;> omega) ⟨.int _, H, I.tok _, ⟨s.toks + 1, by simp_all⟩, q⟩
theorem jB : bp X (.builtin "len") fun xs H Q => ∃ z, xs = [.str z] ∧ z.length ≤ sizeLine ∧ Q (.int z.length) H := by
 intro pins s σ H xs us Q I r h
 obtain ⟨z, rfl, hz, q⟩ := h
 obtain ⟨u, rfl, t, rfl⟩ := vals1 r
 have hn := eX
 exact len_str (by omega) ⟨.int _, H, I.tok _, ⟨_, rfl⟩, q⟩
theorem bp.or (h : bp X f r) (h' : bp X f r') : bp X f fun xs H Q => r xs H Q ∨ r' xs H Q := by
 intro pins s σ H xs us Q I rs q
 rcases q with q | q
 · exact h _ s σ H xs us Q I rs q
 · exact h' _ s σ H xs us Q I rs q
theorem iO : bp X (.type "tuple") fun xs H Q => ∃ p ys, xs = [.ref p] ∧ ((cF X.K H p ys ∧ ∀ l, H l = none → Q (.ref l) (bB H l (.tup ys))) ∨ eB X.K H p ys ∧ Q (.ref p) H) := by
 intro pins s σ H xs us Q I r h
 obtain ⟨p, ys, rfl, h⟩ := h
 obtain ⟨u, rfl, rx⟩ := vals1 r
 cases rx
 rcases h with ⟨hq, q⟩ | ⟨hq, q⟩
 · obtain ⟨its, r', pl, hz⟩ := I.list hq
   have hlen := r'.length
   refine call_tuple_list pl.isList (fun h' kp => ?_) (by simp_all)
   have I1 : Inv X _ σ H { s with heap := h' } := I.kept kp
   have I2 : Inv X _ σ (bB H _ (.tup ys)) { s with heap := h'.push _ } :=
    I1.laid (fun b o e => Heap.get?_push_of_some _ e) (Nat.le_refl _) ⟨hz, its, r', IsTup.new _ _⟩
   exact ⟨.ref _, _, I2, rfl, q _ (I1.hok.fresh (Nat.le_refl _))⟩
 · obtain ⟨its, r', pl, hz⟩ := I.tuple hq
   exact call_tuple_same pl ⟨.ref p, H, I, rfl, q⟩
def GL (K : PySem.W.Frag) (T : String) (x : V) (H : Hp) : Prop := match x with
 | .str _ => T = "str"
 | .int _ => T = "int"
 | .ref p => (T = "list" ∧ ∃ xs, cF K H p xs) ∨ (T = "tuple" ∧ ∃ o, K.lookup p = some o ∧ o.cls = .type "tuple" ∧ o.dict = none) ∨
  (T = "set" ∧ ∃ S n, H p = some (.set S n))
 | _ => False
theorem uu {pins : List (Addr × Obj)} {σ : St} {H : Hp} {s : Shared} {T : String} {x : V} {v : Value} (I : Inv X pins σ H s) (r : RelV x v) (ty : GL X.K T x H) :
 s.TypeIs v T ∧ ∀ a, v = .ref a → ∃ ob, s.heap.get? a = some ob ∧ ob.dict = none := by
 cases x with
 | str z =>
  obtain ⟨t, rfl⟩ := r
  cases (show T = "str" from ty)
  exact ⟨typeIs_str s z t, fun _ e => nomatch e⟩
 | int i =>
  obtain ⟨t, rfl⟩ := r
  cases (show T = "int" from ty)
  exact ⟨typeIs_int s i t, fun _ e => nomatch e⟩
 | ref p =>
  cases r
  rcases ty with ⟨rfl, xs, hq⟩ | ⟨rfl, o, hk, hc, hd⟩ | ⟨rfl, S, n, hk⟩
  · obtain ⟨its, _, pl, _⟩ := I.list hq
    refine ⟨pl.isList.typeIs, fun a e => ?_⟩
    cases e
    obtain ⟨o, n, e, c, hd, _⟩ := pl
    exact ⟨o, e, hd⟩
  · refine ⟨⟨o, I.kIn p o hk, hc⟩, fun a e => ?_⟩
    cases e
    exact ⟨o, I.kIn _ o hk, hd⟩
  · obtain ⟨o, _, _, _, e, ex, _⟩ := I.hok p _ hk
    refine ⟨⟨o, e, ex.1⟩, fun a e2 => ?_⟩
    cases e2
    exact ⟨o, e, ex.2.1⟩
 | _ => exact False.elim ty
def Cg (K : PySem.W.Frag) (T : String) (r : V → List V → Hp → VK → Prop) (to : TE) : TE := fun σ H Q => to σ H fun x H1 => GL K T x H1 ∧ r x [] H1 Q
def FU (K : PySem.W.Frag) (T : String) (r : V → List V → Hp → VK → Prop) (to : TE) (t : TA) : TE := fun σ H Q => to σ H fun x H1 => GL K T x H1 ∧ t σ H1 fun xs H2 => r x xs H2 Q
variable {o e : Expr} {es : List Expr} {to : TE} {t : TA} {name : Str} {apos cpos : Pos} {T id : String} {r : V → List V → Hp → VK → Prop}
theorem Bk (pa : PlainAttrs T) (slot : Slot T name id) (hty : typeOf (.builtin id) = pure (.type "method_descriptor")) (hm : sR X id r) (ho : PE X o to)
 (hbase : attributeBase o name X.env (eval o X.env) = eval o X.env := by rfl) (hline : (apos.endLine == cpos.line) = true := by rfl) : PE X (.Call (.Attribute o name apos) [] [] cpos) (Cg X.K T r to) := by
 intro pins s σ H Q I h
 refine wpAny_Call_method0_late hbase hline (aU (ho _ s σ H _ I h) fun v s1 ⟨x, H1, I1, r1, ty, q1⟩ => ?_)
 obtain ⟨h1, h2⟩ := uu I1 r1 ty
 exact ⟨T, id, pa, slot, hty, h1, h2, Calls.callWith_builtin rfl (PySem.evalArgs_none (hm _ s1 σ H1 x [] v [] Q I1 r1 .nil q1))⟩
theorem FV (pa : PlainAttrs T) (slot : Slot T name id) (hty : typeOf (.builtin id) = pure (.type "method_descriptor")) (hm : sR X id r) (ho : PE X o to) (ha : PA X (e :: es) t)
 (hbase : attributeBase o name X.env (eval o X.env) = eval o X.env := by rfl)
 (hfew : ((backTo cpos (starEach (e :: es) X.env)).all (fun x => !x.1) && (backToKw cpos (keywordEach [] X.env)).all (fun x => x.1.isSome)
  && decide ((e :: es).length + ([] : List Keyword).length + (if ([] : List Keyword).isEmpty then 0 else 1) < 30)) = true := by rfl)
 (hline : (apos.endLine == cpos.line) = true := by rfl) (hs : starEach (e :: es) X.env = (false, eval e X.env) :: starEach es X.env := by rfl) (hplain : (backTo cpos (starEach es X.env)).any (·.1) = false := by rfl) :
 PE X (.Call (.Attribute o name apos) (e :: es) [] cpos) (FU X.K T r to t) := by
 intro pins s σ H Q I h
 refine wpAny_Call_method_late hbase hfew hline rfl (aU (ho _ s σ H _ I h) fun v s1 ⟨x, H1, I1, r1, ty, q1⟩ => ?_)
 obtain ⟨h1, h2⟩ := uu I1 r1 ty
 refine ⟨T, id, pa, slot, hty, h1, h2, ?_⟩
 have hA := ha cpos _ s1 σ H1 _ I1 q1
 rw [hs] at hA ⊢
 refine Calls.callWith_builtin (by show (false || (backTo _ _).any _) = false; rw [hplain] <;> rfl) (Calls.evalArgs_plain ?_)
 exact aU hA fun us s2 ⟨vs, H2, I2, r2, q2⟩ => hm _ s2 σ H2 x vs v us Q I2 r1 r2 q2
end
def Hi (X : Cx) (id : String) (r : V → List V → Hp → VK → Prop) : Prop :=
 ∀ (pins : List (Addr × Obj)) (s : Shared) (σ : St) (H : Hp) (x : V) (xs : List V) (v : Value) (us : List Value) (Q : VK), Inv X pins σ H s → RelV x v → am xs us → r x xs H Q →
  wpAny (model X.prog X.w) X.A (call (.builtin id) (v :: us)) (EP X pins σ Q) X.xe s
theorem am.one : ∀ {x} {us}, am [x] us → ∃ u, us = [u] ∧ RelV x u
 | _, _, .cons r .nil => ⟨_, rfl, r⟩
theorem am.two : ∀ {x y} {us}, am [x, y] us → ∃ u v, us = [u, v] ∧ RelV x u ∧ RelV y v
 | _, _, _, .cons r (.cons q .nil) => ⟨_, _, rfl, r, q⟩
theorem am.zero : ∀ {us}, am [] us → us = []
 | _, .nil => rfl
theorem am.reverse (h : am xs us) : am xs.reverse us.reverse := by
 induction h with
 | nil => exact .nil
 | cons r t ih => rw [List.reverse_cons, List.reverse_cons]; exact am.append ih (.cons r .nil)
theorem foldl_rep (its : List Value) : ∀ (k : Nat) (acc : List _),
 List.foldl (fun x1 x2 => x1 ++ x2) acc.toArray (List.replicate k its.toArray) = (acc ++ (List.replicate k its).flatten).toArray
 | 0, acc => by simp
 | k + 1, acc => by
  have e : acc.toArray ++ its.toArray = (acc ++ its).toArray := by simp
  have e2 : acc ++ its ++ (List.replicate k its).flatten = acc ++ (List.replicate (k + 1) its).flatten := by
   rw [List.replicate_succ, List.flatten_cons, List.append_assoc]
  rw [← e2, ← foldl_rep _ k, ← e, List.replicate_succ, List.foldl_cons]
section
variable {X : Cx} {pins : List (Addr × Obj)} {σ : St} {H : Hp} {s : Shared} {l b : Addr} {xs ys zs : List V}
theorem Inv.lset {its its' : List _} {n} {f} {t'} (I : Inv X pins σ H s) (hH : H l = some (.lst xs))
 (e : s.heap.get? l = some { cls := .type "list", data := .seq its.toArray n }) (hf : f its.toArray = its'.toArray) (hv : am ys its') (hz : ys.length ≤ sizeLine) :
 Inv X pins σ (bB H l (.lst ys)) { s with heap := s.heap.update l (Obj.mapSeq f), toks := t' } := by
 have q := PySem.IsL.update e f
 rw [hf] at q
 refine I.write (by rw [hH]; exact trivial) (.inl rfl) (fun b' u hb hu => (Heap.get?_update_other _ _ (Ne.symm hb)).trans hu) ⟨_, q⟩ ?_
 exact ⟨hz, _, _, hv, q⟩
theorem Inv.lnew (I : Inv X pins σ H s) (hv : am ys its) (hz : ys.length ≤ sizeLine) :
 Inv X pins σ (bB H s.heap.objs.size (.lst ys)) { s with heap := s.heap.push { cls := .type "list", data := .seq its.toArray }, toks := t' } :=
 I.laid (fun _ _ q => Heap.get?_push_of_some _ q) (Nat.le_refl _) ⟨hz, its, 0, hv, Heap.get?_push_size _ rfl⟩
theorem Inv.fresh (I : Inv X pins σ H s) : H s.heap.objs.size = none := I.hok.fresh (Nat.le_refl _)
theorem Inv.lstM (I : Inv X pins σ H s) (hH : H l = some (.lst xs)) : xs.length ≤ sizeLine ∧ ∃ (its : List _) (n : Nat), am xs its ∧ xs.length = its.length ∧ s.heap.get? l = some { cls := .type "list", data := .seq its.toArray n } := by
 obtain ⟨z, its, n, r, e⟩ := I.hok l _ hH
 exact ⟨z, its, n, r, r.length, e⟩
theorem rR (h : n ≤ sizeLine) : Builtin.List.listTooLong n = false := by
 unfold Builtin.List.listTooLong
 grind
end
section
variable {X : Cx}
def pG : V → List V → Hp → VK → Prop := fun x vs H Q => ∃ l xs y, x = .ref l ∧ vs = [y] ∧ H l = some (.lst xs) ∧ xs.length < sizeLine ∧ Q .non (bB H l (.lst (xs ++ [y])))
theorem qS : Hi X "list.append" pG := by
 intro pins s σ H x vs v us Q I rx rv h
 obtain ⟨l, xs, y, rfl, rfl, hH, hz, q⟩ := h
 cases rx
 obtain ⟨u, rfl, ru⟩ := rv.one
 obtain ⟨z, its, n, r, hl, e⟩ := I.lstM hH
 refine call_meets F.slot_list_append ⟨_, e, rfl⟩ F.entry_list_append (F.args_list_append_2 _ _) (PySem.list_append l _ n u (by grind)) ⟨e, ?_⟩
 refine ⟨.non, _, I.lset hH e (by simp) (r.append (.cons ru .nil)) ?_, rfl, q⟩
 rw [List.length_append, List.length_singleton]
 omega
def oa : V → List V → Hp → VK → Prop := fun x vs H Q => ∃ l b xs zs, x = .ref l ∧ vs = [.ref b] ∧ H l = some (.lst xs) ∧ H b = some (.lst zs) ∧ xs.length + zs.length ≤ sizeLine ∧ Q .non (bB H l (.lst (xs ++ zs)))
theorem qq : Hi X "list.extend" oa := by
 intro pins s σ H x vs v us Q I rx rv h
 obtain ⟨l, b, xs, zs, rfl, rfl, hH, hB, hz, q⟩ := h
 cases rx
 obtain ⟨u, rfl, ru⟩ := rv.one
 cases ru
 obtain ⟨z, its, n, r, hl, e⟩ := I.lstM hH
 obtain ⟨z2, its2, n2, r2, hl2, e2⟩ := I.lstM hB
 have hsz : its.toArray.size + its2.toArray.size ≤ sizeLine := by grind
 have hlong : ¬ (!its.toArray.isEmpty && Builtin.List.listTooLong (its.toArray.size + its2.toArray.size)) = true := by
  rw [rR hsz]
  simp
 refine call_meets F.slot_list_extend ⟨_, e, rfl⟩ F.entry_list_extend (F.args_list_extend_2 _ _)
  (AutoSeq1.list_extend_list_list_0 l _ n b _ n2 hlong (by grind) (by omega)) ⟨e, e2, ?_⟩
 refine ⟨.non, _, I.lset hH e (by simp) (r.append r2) ?_, rfl, q⟩
 simp_all
def kG : V → List V → Hp → VK → Prop := fun x vs H Q => ∃ l xs, x = .ref l ∧ vs = [] ∧ H l = some (.lst xs) ∧ Q .non (bB H l (.lst xs.reverse))
theorem nv : Hi X "list.reverse" kG := by
 intro pins s σ H x vs v us Q I rx rv h
 obtain ⟨l, xs, rfl, rfl, hH, q⟩ := h
 cases rx
 have hus := rv.zero
 subst hus
 obtain ⟨z, its, n, r, hl, e⟩ := I.lstM hH
 refine call_meets F.slot_list_reverse ⟨_, e, rfl⟩ F.entry_list_reverse (F.args_list_reverse_1 _) (AutoSeq1.list_reverse_list_0 l _ n (by simp_all)) ⟨e, ?_⟩
 refine ⟨.non, _, I.lset hH e (by simp) r.reverse ?_, rfl, q⟩
 simp_all
end
end L2
namespace Att
open PySem PySem.W PySem.Calls PyProof.Rows
theorem gz : ∀ (ns : List _) (vs : List _), WellAll P h vs (ns.map WData.int) → IntsAre vs ns := by
 intro ns
 induction ns with
 | nil =>
  intro vs w
  cases w
  exact .nil
 | cons n ns ih =>
  intro vs w
  cases w with
  | cons a b =>
   cases a
   exact .cons _ _ (ih _ b)
theorem pW {l : OpenLaw} {n} (hn : l.most = some n) {P} {h} {args} {vals}
 (hpre : l.row.toRowW.claim.pre args = true) (hwl : WellAll P h vals args) :
 ∃ a vs ns, vals = [Value.ref a] ∧ args = [WData.list (ns.map WData.int)] ∧ h.get? a = some { cls := .type "list", data := .seq vs.toArray } ∧ IntsAre vs ns ∧ ns.length ≤ n := by
 have hsh := (pre_splitW hpre).1
 have hc : l.pre.holds [] _ = true := (pre_splitW hpre).2
 obtain ⟨d, r, rfl, h1, h2⟩ := hasAllW_cons hsh
 obtain rfl := hasAllW_nil h2
 obtain ⟨xs, rfl, h3⟩ := hasW_list h1
 obtain ⟨ns, rfl⟩ := items_int h3
 have hlen : ns.length ≤ n := by
  have h4 : (WTm.not (.lt (.lit (.int n)) (.len (.arg 0)))).holds [] { args := [.list (ns.map .int)] } = true := by
   have h4 := (holds_andW hc).1
   simp_all
  have h5 := condW_of h4 (w_not (w_lt w_lit (w_len_list (w_arg rfl))))
  grind
 cases hwl with
 | cons w1 w2 =>
  cases w2
  cases w1 with
  | list ho hall => exact ⟨_, _, ns, rfl, rfl, ho, gz ns _ hall, hlen⟩
theorem qM (l : OpenLaw) (args : List _) : l.row.toRowW.claim.post args (.bool true) args = true :=
 postW_of
  rfl
  (w_eq_bool (w_res rfl) w_lit) rfl
theorem l7 {l : OpenLaw} {n} {q} {loose} {XP} {YP} {d}
 (hn : l.most = some n) (hdf : d.params.defaults = [])
 (call : ∀ (w : World) (s₀ s₁ : Shared) (mg mb : Str → Option _) (fa : Addr) (o : Obj) (pm cd doc : Value) (a : Addr) (vs : List _) (ns : List _),
  Ground q loose [] XP w s₀ mg mb s₁.heap → YP w s₁.heap →
  s₁.heap.get? fa = some o → o.data = .func (docDef d.name d.params d.body d.scope pm cd doc) → s₁.heap.CodeRec cd d.name → mg d.name = some (.ref fa) →
  s₁.heap.get? a = some { cls := .type "list", data := .seq vs.toArray } → IntsAre vs ns → ns.length ≤ n → s₁.gens = #[] →
  codeAny (model l.prog w) callerA (.call (.ref fa) ⟨[.ref a], []⟩) (fun r s' => r = .ok (.ret (.bool true)) ∧ OldK s₁.heap s'.heap ∧ s'.os = s₁.os ∧ AllBare s'.gens) s₁) :
 WalkO q loose XP YP l.row.toRowW d [] fun f vs => PySem.call f vs := by
 intro w s₀ s₁ mg mb G Y fa o pm cd doc dV kV ho hd hcd hD hmg hg args vals as hpre hlay hrd hwl hlo
 obtain rfl : dV = .none := Dflts.none hD hdf
 obtain rfl : kV = .none := Dflts.noKw hD
 obtain ⟨a, vs, ns, rfl, rfl, hobj, hints, hlen⟩ := pW hn hpre hwl
 refine enter_call (codeAny_mono (call w _ _ mg mb fa o pm cd _ a vs ns G Y ho (fd_plain hd) hcd hmg hobj hints hlen hg) fun r s' hq => ?_)
 obtain ⟨rfl, h2, h3, h4⟩ := hq
 exact ⟨.inl ⟨_, _, [], rfl, fun _ => rfl, .bool _, qM l _, fun _ => ⟨List.Pairwise.nil, fun _ hm => nomatch hm⟩⟩, h2, h3, h4⟩
end Att
namespace L2
theorem dX : ∀ {vs} {ns}, IntsAre vs ns → am (ns.map V.int) vs
 | _, _, .nil => .nil
 | _, _, .cons n t h => .cons ⟨t, rfl⟩ (dX h)
abbrev yB {K : PySem.W.Frag} {h : Heap} (_ : K.In h) : PySem.W.Frag := K
abbrev nk : wu := fun _ _ _ _ _ _ => False
abbrev E0 : XK := fun _ _ _ => False
theorem zA : jL nk X E0 := fun _ _ _ _ _ _ _ h => h.elim
structure vG (K : PySem.W.Frag) (x qual : Str) (st : Stmt) (f : Addr) (fd : FuncData) : Prop where
 ex : ∃ (oc : Value) (od : Option Addr) (kV doc pm : Value) (an : Option Addr) (cdv ct : Value) (osl : Array (Option Value)),
  fd = PySem.W.fnOf x qual (aV st) (aF st) (ai st) .none kV doc pm an cdv ct ∧ K.lookup f = some ⟨oc, od, .func fd, osl⟩ ∧ PySem.W.codeIn K cdv qual = true
 kp : PySem.W.keepIn K (.ref f) = true
section
variable {P : Program} {w : World} {K : PySem.W.Frag} {mg : Str → Option Value} {base : Heap}
theorem vG.ok {st} {f} {fd} {N ps} {k} {sp} (F : vG K x qual st f fd) (S : cL N ps (ai st)) (len : ∀ vs H Q E, sp vs H Q E → vs.length = ps.length)
 (hbody : ∀ (cdv : Value) (A : Around) (outer : List _) (s : Shared) (H : Hp) (vs : List V) (Q : VK) (E : XK), bv k (A.deeper (envOfC qual (ai st) s.heap.objs.size f cdv)) → sp vs H Q E →
  ∃ t, fV (iV nk P w K mg base N qual (ai st) f cdv A outer s H E).nox (aF st) t ∧ t { nx := fun _ H' => Q .non H', rt := Q } (start N vs) H) : f7 P w K mg base nk (k + 1) f fd ps sp := by
 obtain ⟨oc, od, kV, doc, pm, an, cdv, ct, osl, rfl, lk, hcd⟩ := F.ex
 refine yT lk hcd S len fun A outer s H vs Q E hr hsp => ?_
 obtain ⟨t, h, q⟩ := hbody _ A _ s H vs Q E hr hsp
 exact ⟨t, h.nox, q⟩
theorem vG.binds {st} {f} {fd} {ps} (F : vG K x qual st f fd)
 (h : ∀ (kV doc pm : Value) (an : Option _) (cdv ct : Value) (us : List _), us.length = ps.length → bindArgs (PySem.W.fnOf x qual (aV st) (aF st) (ai st) .none kV doc pm an cdv ct) ⟨us, []⟩ = pure (ps.zip us)) : Binds K fd ps [] := by
 obtain ⟨oc, od, kV, doc, pm, an, cdv, ct, osl, rfl, lk, hcd⟩ := F.ex
 exact .all (h kV _ pm an _ ct)
theorem sw {st} {f} {oc} {od an} {osl} {kV doc pm cdv ct} (l : K.lookup f = some ⟨oc, od, .func (PySem.W.fnOf x qual (aV st) (aF st) (ai st) .none kV doc pm an cdv ct), osl⟩)
 (c : PySem.W.codeIn K cdv qual = true) (k : PySem.W.keepIn K (.ref f) = true) : vG K x qual st f (PySem.W.fnOf x qual (aV st) (aF st) (ai st) .none kV doc pm an cdv ct) := ⟨⟨oc, od, kV, doc, pm, an, cdv, ct, osl, rfl, l, c⟩, k⟩
end
section
variable {X : Cx}
theorem pv (i : Nat) {x : Str} {pos : Pos} (hN : X.N[i]? = some x := by rfl) (hv : zw X.env.scope x := by first | exact Or.inl rfl | exact Or.inr (Or.inl rfl) | exact Or.inr (Or.inr rfl)) (hd : (x == ("__debug__" : Str)) = false := by decide)
 (hcd : (x == ("__classdict__" : Str)) = false := by decide) : PE X (.Name x pos) (DM i) := uK hN hv hd hcd
end
end L2
end
section
namespace L2
def PF (X : Cx) (cs : List Expr) (t : TT) : Prop :=
 ∀ (pins : List (Addr × Obj)) (s : Shared) (σ : St) (H : Hp) (Q : Bool → Hp → Prop), Inv X pins σ H s → t σ H Q →
  wpAny (model X.prog X.w) X.A (forIn cs true fun c r => if r = true then do let ok ← isTrue c X.env (eval c X.env); pure (ForInStep.yield ok) else pure (ForInStep.yield r)) (TP X pins σ Q) X.xe s
def GQ : TT := fun _ H Q => Q true H
theorem lX : ∀ (cs : List _), (forIn cs false fun c r => if r = true then do let ok ← isTrue c env (eval c env); pure (ForInStep.yield ok) else pure (ForInStep.yield r)) = pure false
 | [] => rfl
 | c :: cs => by
  rw [List.forIn_cons]
  exact lX cs
theorem AE : PF X [] GQ := fun _ _ σ H _ I h => wpAny_pure ⟨H, I, h⟩
theorem xa {t u} (h1 : PT X c t) (h2 : PF X cs u) : PF X (c :: cs) (AD t u) := by
 intro pins s σ H Q I h
 rw [List.forIn_cons]
 refine wpAny_bind (wpAny_bind (aU (h1 _ s σ H _ I h) fun b s1 ⟨H1, I1, q1⟩ => wpAny_pure ?_))
 cases b with
 | true => exact h2 _ s1 σ H1 _ I1 q1
 | false =>
  dsimp only
  rw [lX]
  exact wpAny_pure ⟨H1, I1, q1⟩
theorem eQ {env : Env} : ∀ (names : List (Str × NameKind)) (cs : List (Str × Addr)), (∀ x ∈ names, x.2 = .free → ∃ c, env.cells.lookup x.1 = some c) → (∀ x c, cs.lookup x = some c → env.cells.lookup x = some c) →
 ∃ cl, (forIn names cs fun (p : Str × NameKind) (r : List (Str × Addr)) => if (p.2 == .free) = true then do let a ← cellOf env p.1; pure (ForInStep.yield ((p.1, a) :: r)) else pure (ForInStep.yield r)) = (pure cl : Sem (List (Str × Addr))) ∧
  (∀ x c, cl.lookup x = some c → env.cells.lookup x = some c) ∧ (∀ x, (cs.lookup x).isSome = true → (cl.lookup x).isSome = true) ∧ ∀ x, (x, NameKind.free) ∈ names → (cl.lookup x).isSome = true
 | [], cs, _, h2 => ⟨cs, rfl, h2, fun _ h => h, fun _ h => nomatch h⟩
 | (n, k) :: r, cs, h1, h2 => by
  by_cases hk : k = .free
  · subst hk
    obtain ⟨c, hc⟩ := h1 (n, .free) List.mem_cons_self rfl
    have h2' : ∀ x d, ((n, c) :: cs).lookup x = some d → env.cells.lookup x = some d := fun x d e => by
     cases hx : x == n with
     | true => grind
     | false => grind
    obtain ⟨cl, e, a, b, d⟩ := eQ r ((n, c) :: cs) (fun x hx => h1 x (List.mem_cons_of_mem _ hx)) h2'
    refine ⟨cl, ?_, a, fun x hx => b x ?_, fun x hx => ?_⟩
    · rw [List.forIn_cons]
      simp only [cellOf, hc]
      exact e
    · grind
    · rcases List.mem_cons.mp hx with z | z
      · grind
      · exact d x z
  · obtain ⟨cl, e, a, b, d⟩ := eQ r cs (fun x hx => h1 x (List.mem_cons_of_mem _ hx)) h2
    refine ⟨cl, ?_, a, b, fun x hx => ?_⟩
    · grind
    · rcases List.mem_cons.mp hx with z | z
      · grind
      · exact d x z
theorem m8 (h : ∀ x ∈ scope.names, x.2 = .free → ∃ c, env.cells.lookup x.1 = some c) :
 ∃ cl, closureFor scope env = pure cl ∧ (∀ x c, cl.lookup x = some c → env.cells.lookup x = some c) ∧ ∀ x, (x, NameKind.free) ∈ scope.names → (cl.lookup x).isSome = true := by
 obtain ⟨cl, e, a, _, d⟩ := eQ _ [] h fun x c e => by cases e
 refine ⟨cl, ?_, a, d⟩
 simp only [closureFor]
 simp_all
def ax (X : Cx) (N' : List Str) (scope : Scope) (cl : List (Str × Addr)) (C : Addr) (ex : List Addr) (s : Shared) (H : Hp) : Cx where
 prog := X.prog
 w := X.w
 K := X.K
 mg := X.mg
 base := X.base
 A := X.A
 N := N'
 s₀ := s
 H₀ := H
 env := compEnvC scope cl C X.env
 outer := X.stack
 stack := X.stack
 ex := ex
 fn := fun _ => false
 calm := X.calm
 pn := []
 xe := fun _ _ => False
def aY (ix : List (Option Nat)) (σ : St) : St := ix.map fun o => match o with | none => none | some j => (σ[j]?).getD none
def fT (osc scope : Scope) (x : Str × NameKind) : Bool :=
 match x.2 with
 | .cell => false
 | .local => scope.names.lookup x.1 == some .local
 | .free => osc.names.lookup x.1 == some .cell || osc.names.lookup x.1 == some .free
 | _ => true
def gk (N : List Str) (scope : Scope) : List (Option Nat) → List Str → Bool
 | [], [] => true
 | none :: r, _ :: q => gk N scope r q
 | some j :: r, x :: q => N[j]? == some x && scope.names.lookup x == some .free && gk N scope r q
 | _, _ => false
def aO (osc : Scope) (N : List Str) (scope : Scope) (N' : List Str) (ix : List (Option Nat)) : Bool :=
 scope.kind == .function && scope.names.all (fT osc scope) && gk N scope ix N'
theorem c9 : ∀ {ix} {N'}, gk N scope ix N' = true → ix.length = N'.length
 | [], [], _ => rfl
 | none :: r, _ :: q, h => by rw [List.length_cons, List.length_cons, c9 (ix := r) h]
 | some j :: r, x :: q, h => by
  have h := (Bool.and_eq_true_iff.mp h).imp_left Bool.and_eq_true_iff.mp
  rw [List.length_cons, List.length_cons, c9 h.2]
 | [], _ :: _, h => by cases h
 | none :: _, [], h => by cases h
 | some _ :: _, [], h => by cases h
theorem fR {scope} : ∀ {ix} {N'} {i j : Nat}, gk N scope ix N' = true → ix[i]? = some (some j) → ∃ x, N'[i]? = some x ∧ N[j]? = some x ∧ scope.names.lookup x = some .free
 | [], [], _, _, _, e => by simp at e
 | none :: r, _ :: q, 0, _, h, e => by simp at e
 | none :: r, _ :: q, i + 1, j, h, e => by
  obtain ⟨x, a, b⟩ := fR (ix := r) h (by simpa using e)
  grind
 | some k :: r, x :: q, 0, j, h, e => by
  have h := (Bool.and_eq_true_iff.mp h).imp_left Bool.and_eq_true_iff.mp
  grind
 | some k :: r, x :: q, i + 1, j, h, e => by
  have h := (Bool.and_eq_true_iff.mp h).imp_left Bool.and_eq_true_iff.mp
  obtain ⟨y, a, b⟩ := fR h.2 (by simpa using e)
  grind
 | [], _ :: _, _, _, h, _ => by cases h
 | none :: _, [], _, _, h, _ => by cases h
 | some _ :: _, [], _, _, h, _ => by cases h
theorem kC {i : Nat} {v} (h : (aY ix σ)[i]? = some (some v)) : ∃ j, ix[i]? = some (some j) ∧ σ[j]? = some (some v) := by
 unfold aY at h
 rw [List.getElem?_map] at h
 cases e : ix[i]? with
 | none => rw [e] at h; cases h
 | some o =>
  rw [e] at h
  cases o with
  | none => cases h
  | some j =>
   have h' : σ[j]?.getD _ = some v := Option.some.inj h
   cases q : σ[j]? with
   | none => rw [q] at h'; cases h'
   | some z => simp_all
theorem cY (ix : List _) (σ : St) : (aY ix σ).length = ix.length := by unfold aY; rw [List.length_map]
theorem kj (h : scope.names.lookup x = some .free) : (relabel scope env).names.lookup x = some .cell ∨ (relabel scope env).names.lookup x = some .free := by
 unfold relabel
 dsimp only
 revert h
 generalize scope.names = l
 intro h
 induction l with
 | nil => cases h
 | cons p r ih =>
  obtain ⟨n, k⟩ := p
  rw [List.map_cons]
  cases hx : x == n with
  | true =>
   split
   · left; simp [List.lookup_cons, hx]
   simp_all
  | false =>
   simp only [List.lookup_cons, hx] at h
   split
   · simp only [List.lookup_cons, hx]; exact ih h
   · simp only [List.lookup_cons, hx]; exact ih h
theorem ki (hn : ∀ y ∈ scope.names, y.2 ≠ .cell) (h : (relabel scope env).names.lookup x = some .cell ∨ (relabel scope env).names.lookup x = some .free) : (x, NameKind.free) ∈ scope.names := by
 have key : ∀ k, k = NameKind.cell ∨ k = NameKind.free → (x, k) ∈ (relabel scope env).names → (x, NameKind.free) ∈ scope.names := by
  intro k hk hm
  obtain ⟨⟨n, k'⟩, hy, e⟩ := List.mem_map.mp hm
  dsimp only at e
  split at e
  · grind
  · cases e
    rcases hk with z | z
    · exact absurd z (hn _ hy)
    simp_all
 rcases h with h | h
 · exact key _ (.inl rfl) (PySem.mem_of_lookup h)
 · exact key _ (.inr rfl) (PySem.mem_of_lookup h)
section
variable {X : Cx} {pins : List (Addr × Obj)} {σ : St} {H H' : Hp} {s : Shared}
theorem Inv.off (I : Inv X pins σ H s) {b} (f : bC X pins H b) : b ∉ n9 X.stack := fun hb => by
 rcases List.mem_cons.mp (I.stkSub b hb) with e | e
 · exact f.2.1 e
 · exact f.2.2.1 e
theorem cu {osc scope : Scope} {N N' : List Str} {ix : List (Option Nat)} (h : aO osc N scope N' ix = true) : scope.kind = .function ∧ (∀ y ∈ scope.names, fT osc scope y = true) ∧ ∀ y ∈ scope.names, y.2 ≠ .cell := by
 unfold aO at h
 simp only [Bool.and_eq_true] at h
 refine ⟨by simpa using h.1.1, List.all_eq_true.mp h.1.2, fun y hy z => ?_⟩
 have := List.all_eq_true.mp h.1.2 y hy
 unfold fT at this
 rw [z] at this
 cases this
theorem lc (I : Inv X pins σ H s) {scope : Scope} {N' : List Str} {ix : List (Option Nat)} {cl : List (Str × Addr)} {h' : Heap} {i : Nat} {x : Str} {v : V} (hok : aO X.env.scope X.N scope N' ix = true)
 (hc1 : ∀ x c, cl.lookup x = some c → X.env.cells.lookup x = some c) (hc2 : ∀ x, (x, NameKind.free) ∈ scope.names → (cl.lookup x).isSome = true) (old : ∀ b o, s.heap.get? b = some o → h'.get? b = some o) (e1 : N'[i]? = some x) (e2 : (aY ix σ)[i]? = some (some v)) :
 ∃ u, RelV v u ∧ scope.names.lookup x = some .free ∧ ∃ c, cl.lookup x = some c ∧ h'.IsCell c u := by
 have hall := (cu hok).2.1
 have hsl : gk X.N scope ix N' = true := by
  unfold aO at hok
  simp only [Bool.and_eq_true] at hok
  exact hok.2
 obtain ⟨j, hj, hv⟩ := kC e2
 obtain ⟨y, a, b, hf⟩ := fR hsl hj
 rw [a] at e1
 have e1 : y = x := Option.some.inj e1
 subst e1
 have hmem : (y, NameKind.free) ∈ scope.names := PySem.mem_of_lookup hf
 have ho := hall _ hmem
 simp only [fT, Bool.or_eq_true] at ho
 have BY : zw X.env.scope y := by
  rcases ho with z | z
  · exact .inr (.inl (by simpa using z))
  · exact .inr (.inr (by simpa using z))
 obtain ⟨m, hn, hl⟩ := I.loc
 obtain ⟨u, r, l⟩ := hl j y v b hv BY
 obtain ⟨c, hc⟩ := Option.isSome_iff_exists.mp (hc2 y hmem)
 refine ⟨u, r, hf, c, hc, ?_⟩
 rcases l with ⟨kl, _⟩ | ⟨_, c', e', z⟩
 · exfalso
   have kl' : X.env.scope.names.lookup y = some .local := kl
   rw [kl'] at ho
   rcases ho with z | z
   · exact absurd z (by decide)
   · exact absurd z (by decide)
 · rw [hc1 y c hc] at e'
   cases e'
   obtain ⟨o, ho', hd⟩ := z
   exact ⟨o, old _ o ho', hd⟩
theorem tL (I : Inv X pins σ H s) {scope : Scope} {N' : List Str} {ix : List (Option Nat)} {cl : List (Str × Addr)} {ex : List Addr} {h' : Heap} {tk : Nat} (hok : aO X.env.scope X.N scope N' ix = true)
 (hc1 : ∀ x c, cl.lookup x = some c → X.env.cells.lookup x = some c) (hc2 : ∀ x, (x, NameKind.free) ∈ scope.names → (cl.lookup x).isSome = true) (hex : ∀ b ∈ ex, bC X pins H b ∧ b < s.heap.objs.size)
 {mC : Str → Option Value} (hns : h'.Ns s.heap.objs.size mC) (old : ∀ b o, s.heap.get? b = some o → h'.get? b = some o) :
 Inv (ax X N' scope cl s.heap.objs.size ex s H) [] (aY ix σ) H { s with heap := h', toks := tk } := by
 obtain ⟨hk, _, nocell⟩ := cu hok
 refine ⟨⟨I.ok.mod, hk, I.ok.glob, I.ok.blt, Nat.le_refl _, fun x y c e1 e2 => I.ok.inj x y c (hc1 x c e1) (hc1 y c e2), fun x hx => ?_, fun x c z => (nomatch z), I.ok.hd, I.ok.frames, .inl rfl, fun b hb => ?_, I.bs, Nat.le_trans I.ok.bsz I.sz, fun b o e hb => ?_, fun b hb => I.off (hex b hb).1, I.stack, I.stkFree⟩,
  ⟨rfl, Nat.le_refl _⟩, I.bare, Un.kept old, ⟨_, hns, fun i x v e1 e2 e3 => ?_⟩, fun x c e => ?_, I.hok.fresh (Nat.le_refl _), fun x c e => I.freeC x c (hc1 x c e), fun p hp => (nomatch hp), I.hok.kept old, ?_⟩
 · have := hc2 x (ki (env := X.env) nocell hx)
   exact Option.isSome_iff_exists.mp this
 · exact ⟨Nat.ne_of_lt (hex b hb).2, fun x c e => (hex b hb).1.2.2.2.2.1 x c (hc1 x c e)⟩
 · rcases (hex b hb).1.2.2.2.1 with z | z
   · exact I.ok.noex b o e z
   · exact absurd (Nat.lt_of_lt_of_le (Nat.lt_of_lt_of_le (Heap.lt_size e) I.ok.bsz) z) (Nat.lt_irrefl _)
 · obtain ⟨u, r, hf, c, hc, z⟩ := lc I hok hc1 hc2 old e1 e2
   exact ⟨u, r, .inr ⟨kj hf, c, hc, z⟩⟩
 · obtain ⟨v, o, ho', hd⟩ := I.cell x c (hc1 x c e)
   exact ⟨v, o, old _ o ho', hd⟩
 · unfold aO at hok
   rw [cY]
   exact c9 (Bool.and_eq_true_iff.mp hok).2
theorem Inv.track (I : Inv X pins σ H s) {D} {o} (f : bC X pins H D) (new : bz X.prog X.w (bB H D o) s.heap D o) : Inv X pins σ (bB H D o) s := by
 obtain ⟨f0, f1, f2, f3, f4, f5⟩ := f
 have ne : ∀ b u, H b = some u → b ≠ D := fun b u e z => by grind
 refine I.step (ch := [D]) (fun b hb => ?_) (fun b o _ _ _ e _ => e) (fun b o _ _ _ e _ => ⟨_, e⟩) (fun b u hc _ n => ?_)
  (fun b o _ e => ⟨o, e⟩) (fun b xs e => by rw [ay (ne _ _ e)]; exact e) (fun b u xs e => by rw [ay (ne _ _ e)]; exact e) (fun b ps e => ⟨#[], by rw [ay (ne _ _ e), e]; simp⟩) (fun m hm => hm) (fun b u e => ?_) I.bare (Nat.le_refl _)
 · have e := by simpa using hb
   subst e
   exact ⟨f3, f1, f4, f5⟩
 · rw [ay (by simpa using hc)]; exact n
 · by_cases hb : b = D
   · subst hb
     rw [cc] at e
     cases e
     exact new
   · rw [ay hb] at e
     refine (I.hok b u e).stay (fun c v hc q => q) fun c q => ?_
     rw [ay (ne _ _ q)]; exact q
end
def Sub (σ σ' : St) : Prop := σ'.length = σ.length ∧ ∀ (i : Nat) v, σ[i]? = some (some v) → σ'[i]? = some (some v)
theorem Sub.set (h : σ[i]? = some none) : Sub σ (σ.set i v) := ⟨by rw [List.length_set], fun j u e => by
 have hj : i ≠ j := fun z => by grind
 simp_all⟩
theorem Sub.trans (a : Sub σ σ1) (b : Sub σ1 σ2) : Sub σ σ2 := ⟨b.1.trans a.1, fun i v e => b.2 i v (a.2 i v e)⟩
def fK {β : Type} (L S Z : β → Prop) (EM : St → Hp → β → (β → Hp → Prop) → Prop) (y0 : β) (J : It) (σc : St) (g : TG) (tt : TT) (Q : β → Hp → Prop) (H1 : Hp) : Prop :=
 ∃ W : Nat → Nat → β → Hp → Prop, (∃ m, W 0 m y0 H1) ∧ (∀ i m y H, W i m y H → L y) ∧ ∀ i m y H, W i m y H →
  (J.stop i H ∧ S y ∧ Q y H) ∨
  (J.go i H ∧ Z y ∧ ∃ N : β → Hp → Prop, (∀ y' H', N y' H' → ∃ m', m' < m ∧ W (i + 1) m' y' H') ∧ ∀ x H2, J.yld i H x H2 → g x σc H2 fun σ2 H3 => Sub σc σ2 ∧ tt σ2 H3 fun ok H4 =>
   if ok = true then EM σ2 H4 y N else N y H4)
def CP (te : TE) (σ2 : St) (H4 : Hp) (ys : List V) (N : List V → Hp → Prop) : Prop := te σ2 H4 fun y H5 => N (ys ++ [y]) H5
def uU (J : It) (σc : St) (g : TG) (tt : TT) (te : TE) (Q : List V → Hp → Prop) (H1 : Hp) : Prop :=
 fK (fun _ => True) (fun ys => ys.length ≤ sizeLine) (fun ys => ys.length < sizeLine) (CP te) [] J σc g tt Q H1
def lI (ix : List (Option Nat)) (wi : TI) (g : TG) (tt : TT) (te : TE) : TE := fun σ H Q => wi σ H fun J H1 =>
 uU J (aY ix σ) g tt te (fun ys H' => ∀ p, H' p = none → Q (.ref p) (bB H' p (.lst ys))) H1
def yK (c : Code) (iter target : Expr) (ifs : List Expr) (it : Value) (env : Env) (em : Sem Unit) : Sem Fin := do
 standAt iter.pos
 match ← pyNext it with
 | none => pure (.done .next)
 | some v =>
  letOwnedTupleGo target it v
  assign target env v
  let mut ok := true
  for c in ifs do
   if ok then ok ← isTrue c env (eval c env)
  if ok then em
  again c
structure Cd (P : Program) (w : World) (A : Around) (e : Expr) (d : Nat) (iter target : Expr) (ifs : List Expr) (em : Value → Env → Sem Unit) : Prop where
 q : ∀ it acc env, (Code.compLoop e d it acc env).quiet = true
 u : ∀ it acc env, A.under (.compLoop e d it acc env) = A
 den : ∀ it acc env, (model P w).den (.compLoop e d it acc env) = (yK (.compLoop e d it acc env) iter target ifs it env (em acc env)).onRaise fun x => do noteFrame x env; theTreesLotGoes x
 us : ∀ it acc env, A.under (.compStart e d it acc env) = A
 dens : ∀ it acc env, (model P w).den (.compStart e d it acc env) = (compStart e d it acc env).onRaise fun x => do noteFrame x env; standAt theWindowsPlace
 cl : (clausesOf e)[d]? = some ⟨target, iter, ifs, 0⟩
theorem mF {prog : Program} {w : World} {A : Around} {R : Result → Shared → Prop} {s : Shared} {e : Expr} {d : Nat} {iter target : Expr} {ifs : List Expr} {it acc : Value} {env : Env} {em : Value → Env → Sem Unit} (hd : Cd prog w A e d iter target ifs em) (I : Nat → Shared → Prop)
 (turn : ∀ n s, I n s → wpAny (model prog w) A (pyNext it) (fun r s₁ => match r with
  | none => R (.ok .next) s₁
  | some v => wpAny (model prog w) A (letOwnedTupleGo target it v) (fun _ s₁' => wpAny (model prog w) A (assign target env v) (fun _ s₂ =>
   wpAny (model prog w) A (forIn ifs true fun c r => if r = true then do let ok ← isTrue c env (eval c env); pure (ForInStep.yield ok) else pure (ForInStep.yield r)) (fun ok s₃ =>
    if ok = true then wpAny (model prog w) A (em acc env) (fun _ s₅ => ∃ m, m < n ∧ I m s₅) (fun _ _ => False) s₃
    else ∃ m, m < n ∧ I m s₃) (fun _ _ => False) s₂) (fun _ _ => False) s₁') (fun _ _ => False) s₁) (fun _ _ => False) s)
 (n : Nat) (h : I n s) : codeAny (model prog w) A (.compLoop e d it acc env) R s := by
 refine codeAny_loop (hd.q _ _ _) I (fun n s hI => ?_) n h
 rw [hd.u, hd.den]
 refine wpAny_noted ?_
 refine wpAny_bind (wpAny_standAt (wpAny_bind (wpAny_mono (turn n s hI) (fun r s₁ h₁ => ?_) fun _ _ h' => h'.elim)))
 cases r with
 | none => exact wpAny_pure h₁
 | some v =>
  refine wpAny_bind (wpAny_mono h₁ (fun _ s₁' h₁' => ?_) fun _ _ h' => h'.elim)
  refine wpAny_bind (wpAny_mono h₁' (fun _ s₂ h₂ => wpAny_bind (wpAny_mono h₂ (fun ok s₃ h₃ => ?_) fun _ _ h' => h'.elim)) fun _ _ h' => h'.elim)
  cases ok with
  | false => exact wpAny_pure ⟨rfl, h₃⟩
  | true => exact wpAny_bind (wpAny_mono h₃ (fun _ s₅ h₅ => wpAny_pure ⟨rfl, h₅⟩) fun _ _ h' => h'.elim)
theorem xd {A} {R} {s} {e} {d} {iter target} {ifs} {it acc} {env} {em} (hd : Cd prog w A e d iter target ifs em)
 (h0 : codeAny (model prog w) A (.compLoop e d it acc env) R s) (h : wpAny (model prog w) A (pyIter it) (fun it' s' => codeAny (model prog w) A (.compLoop e d it' acc env) R s') (fun _ _ => False) s) :
 codeAny (model prog w) A (.compStart e d it acc env) R s := by
 refine codeAny_of_tree ?_
 rw [hd.us, hd.dens]
 refine wpAny_notedAt ?_
 unfold compStart
 rw [hd.cl]
 refine wpAny_bind (wpAny_askSetting (wpAny_ite ?_))
 have st := fun it' s' (h' : codeAny (model prog w) A (.compLoop e d it' acc env) R s') => And.intro (hd.q it' acc env) h'
 split
 · exact wpAny_bind (wpAny_pure (wpAny_pure (st _ _ h0)))
 · refine wpAny_bind (wpAny_rule ?_)
   exact wpAny_bind (wpAny_standAt (wpAny_bind (wpAny_mono h (fun it' s' h' => wpAny_pure (st _ _ h')) fun _ _ x => x.elim)))
def qN {β : Type} (Xc : Cx) (σc : St) (OB : β → Obj → Prop) (Z : β → Prop) (EM : St → Hp → β → (β → Hp → Prop) → Prop) (em : Value → Env → Sem Unit) : Prop :=
 ∀ {D : Addr} {pins : List (Addr × Obj)} {σ : St} {H : Hp} {s : Shared} {y : β} {ob : Obj} {N : β → Hp → Prop}, Sub σc σ → Inv Xc ((D, ob) :: pins) σ H s → (∀ {H' : Hp}, H' D = none → bC Xc pins H' D) → OB y ob → Z y → EM σ H y N →
  wpAny (model Xc.prog Xc.w) Xc.A (em (.ref D) Xc.env) (fun _ s' => ∃ H' y' ob', Inv Xc pins σc H' s' ∧ H' D = none ∧ s'.heap.get? D = some ob' ∧ OB y' ob' ∧ N y' H') (fun _ _ => False) s
theorem Inv.sub {σ σ' : St} {H} {s} (I : Inv X pins σ' H s) (h : Sub σ σ') (hp : ∀ p ∈ pins', p ∈ pins) : Inv X pins' σ H s :=
 (I.weak h.1.symm h.2).pins_of fun p q => I.pin p (List.mem_append_right _ (hp p q))
theorem Sub.refl (σ) : Sub σ σ := ⟨rfl, fun _ _ e => e⟩
theorem uR {β : Type} {OB : β → Obj → Prop} {Xc : Cx} {pins : List (Addr × Obj)} {D : Addr} {s2 : Shared} {σ : St} {H2 : Hp} {e : Expr} {d : Nat} {iter target : Expr} {ifs : List Expr} {em : Value → Env → Sem Unit} {g : TG} {tt : TT} {it : Addr} {fp : List Addr} {tn : Nat → Heap → Prop} {J : It} {L S Z : β → Prop} {EM : St → Hp → β → (β → Hp → Prop) → Prop} {Q : β → Hp → Prop} {R : Result → Shared → Prop} {y0 : β} {o0 : Obj}
 (hd : Cd Xc.prog Xc.w Xc.A e d iter target ifs em) (hc : Xc.calm = true) (hx : Xc.xe = fun _ _ => False) (hg : PG Xc target g) (hf : PF Xc ifs tt) (hO : ∀ y ob, OB y ob → ∀ v, ob.data ≠ .cell v) (fD : ∀ {H' : Hp}, H' D = none → bC Xc pins H' D)
 (I : Inv Xc ((D, o0) :: pins) σ H2 s2) (o : OB y0 o0) (T : iP Xc.prog Xc.w Xc.K target J fp it tn) (st2 : tn 0 s2.heap) (f2 : ∀ b ∈ fp, bC Xc ((D, o0) :: pins) H2 b) (hw : fK L S Z EM y0 J σ g tt Q H2) (emit : qN Xc σ OB Z EM em)
 (dy : ∀ {H' : Hp} {s' : Shared} {y : β} {ob : Obj}, Inv Xc pins σ H' s' → H' D = none → s'.heap.get? D = some ob → OB y ob → S y → Q y H' → R (.ok .next) s') :
 codeAny (model Xc.prog Xc.w) Xc.A (.compStart e d (.ref it) (.ref D) Xc.env) R s2 := by
 obtain ⟨W, ⟨m0, w0⟩, _, turn⟩ := hw
 have mem0 : ∀ {ob : Obj}, (D, ob) ∈ Xc.pn ++ (D, ob) :: pins := List.mem_append_right _ List.mem_cons_self
 have pD2 := I.pin (D, o0) mem0
 have dr := (fD (H' := fun _ => none) rfl).2
 have stat : ∀ {H' : Hp} {ob : Obj}, (∀ b ∈ fp, H' b = none) → ∀ b ∈ fp, bC Xc ((D, ob) :: pins) H' b := fun {H' ob} hn b hb => by
  obtain ⟨_, a1, a2, a3, a4, a5⟩ := f2 b hb
  refine ⟨hn b hb, a1, a2, a3, a4, fun p hp z => ?_⟩
  rcases List.mem_append.mp hp with hp | hp
  · exact a5 p (List.mem_append_left _ hp) z
  · rcases List.mem_cons.mp hp with hp | hp
    · rw [hp] at z
      exact a5 _ mem0 z
    · exact a5 p (List.mem_append_right _ (List.mem_cons_of_mem _ hp)) z
 have hDf : D ∉ fp := fun hm => (f2 D hm).2.2.2.2.2 _ mem0 rfl
 have loop : codeAny (model Xc.prog Xc.w) Xc.A (.compLoop e d (.ref it) (.ref D) Xc.env) R s2 := by
  refine mF hd (fun n s' => ∃ i y ob H', Inv Xc pins σ H' s' ∧ tn i s'.heap ∧ (∀ b ∈ fp, H' b = none) ∧ H' D = none ∧ s'.heap.get? D = some ob ∧ OB y ob ∧ W i n y H') ?_ m0
   ⟨0, y0, o0, H2, I.sub (.refl _) fun _ h => List.mem_cons_of_mem _ h, st2, fun b hb => (f2 b hb).1, pD2.2.1, pD2.1, o, w0⟩
  rintro n s5 ⟨i, y, ob, H5, I5, st5, fr5, d5, o5, v5, w5⟩
  have I5p : Inv Xc ((D, ob) :: pins) σ H5 s5 := I5.pins_of fun p hp => by
   rcases List.mem_cons.mp hp with hp | hp
   · subst hp
     exact ⟨o5, d5, dr.1, dr.2.1, hO _ _ v5⟩
   · exact I5.pin p (List.mem_append_right _ hp)
  rcases turn i n y H5 w5 with ⟨stop, hS, q⟩ | ⟨go, hZ, N, hN, step⟩
  · refine aU (T.done Xc rfl rfl rfl hc i _ s5 σ H5 (fun _ _ => False) I5p (stat fr5) st5 stop) fun r s6 ⟨hr, I6⟩ => ?_
    subst hr
    have p6 := I6.pin (D, ob) mem0
    exact dy (I6.sub (.refl _) fun _ h => List.mem_cons_of_mem _ h) p6.2.1 p6.1 v5 hS q
  · refine aU (T.item Xc rfl rfl rfl hc i _ s5 σ H5 (fun _ _ => False) I5p (stat fr5) st5 go) fun r s6 ⟨u, hr, h6⟩ => ?_
    subst hr
    dsimp only
    refine aU h6 fun _ s7 ⟨x, H7, I7, r7, y7, st7, fr7⟩ => ?_
    have I7' := I7.pinned (stat fr7) (T.obj _ _ st7)
    have g7 := hg _ s7 σ H7 x u _ I7' r7 (step x H7 y7)
    rw [hx] at g7
    refine aU g7 fun _ s8 ⟨σ8, H8, I8, sub8, q8⟩ => ?_
    have t8 := hf _ s8 σ8 H8 _ I8 q8
    rw [hx] at t8
    refine aU t8 fun ok s9 ⟨H9, I9, q9⟩ => ?_
    have back : ∀ {H' : Hp} {s' : Shared}, Inv Xc (pins ++ eG fp s7.heap) σ H' s' → Inv Xc pins σ H' s' ∧ tn (i + 1) s'.heap ∧ ∀ b ∈ fp, H' b = none := fun {H' s'} K => by
     refine ⟨K.sub (.refl _) fun _ h => List.mem_append_left _ h, T.keep _ _ _ st7 fun b hb o e => (K.pin (b, o) (List.mem_append_right _ (List.mem_append_right _ (bM hb e)))).1, fun b hb => ?_⟩
     obtain ⟨o, e, d⟩ := T.obj _ _ st7 b hb
     exact (K.pin (b, o) (List.mem_append_right _ (List.mem_append_right _ (bM hb e)))).2.1
    cases ok with
    | false =>
     obtain ⟨m', hm, w9⟩ := hN _ _ q9
     obtain ⟨b1, b2, b3⟩ := back (I9.sub sub8 fun _ h => List.mem_cons_of_mem _ h)
     have pD := I9.pin (D, ob) (List.mem_append_right _ List.mem_cons_self)
     exact ⟨m', hm, i + 1, y, ob, H9, b1, b2, b3, pD.2.1, pD.1, v5, w9⟩
    | true =>
     refine aU (emit (pins := pins ++ eG fp s7.heap) sub8 I9 (fun {H'} hn => ?_) v5 hZ q9) fun _ s10 ⟨H', y', ob', K, hD', oD', v', q'⟩ => ?_
     · obtain ⟨a0, a1, a2, a3, a4, a5⟩ := fD hn
       refine ⟨a0, a1, a2, a3, a4, fun p hp z => ?_⟩
       rcases List.mem_append.mp hp with hp | hp
       · exact a5 p (List.mem_append_left _ hp) z
       · rcases List.mem_append.mp hp with hp | hp
         · exact a5 p (List.mem_append_right _ hp) z
         · exact hDf (by rw [← z]; exact (js hp).1)
     · obtain ⟨m', hm, w'⟩ := hN _ _ q'
       obtain ⟨b1, b2, b3⟩ := back K
       exact ⟨m', hm, i + 1, y', ob', H', b1, b2, b3, hD', oD', v', w'⟩
 exact xd hd loop (T.self Xc.A 0 _ _ _ st2 loop)
def GI (ys : List V) (ob : Obj) : Prop := ∃ its k, am ys its ∧ ob = { cls := .type "list", data := .seq its.toArray k }
theorem fM {elt} {te} (he : PE Xc elt te) (hx : Xc.xe = fun _ _ => False) : qN Xc σc GI (fun ys => ys.length < sizeLine) (CP te) fun acc env => (do let _ ← call (.builtin "list.append") [acc, ← eval elt env]) := by
 intro D pins σ H s y ob N hs I fD o hz h
 obtain ⟨its, k, v, rfl⟩ := o
 have e9 := he _ s σ H _ I h
 rw [hx] at e9
 refine wpAny_bind (aU e9 fun u s1 ⟨z, H1, I1, r1, q1⟩ => wpAny_bind ?_)
 obtain ⟨p1, p2, _⟩ := I1.pin _ (List.mem_append_right _ List.mem_cons_self)
 have vl := v.length
 refine append_at p1 (fun h' hs' ho' => wpAny_pure ⟨H1, _, _, ?_, p2, ho', ⟨_, _, v.append (.cons r1 .nil), by rw [List.push_toArray]⟩, q1⟩) (by rw [List.size_toArray]; omega)
 have f := fD p2
 exact (I1.sub hs fun _ h => List.mem_cons_of_mem _ h).turned (fun b o hb e => (hs'.2 b hb).trans e) p2 f.2.1 f.2.2.2.1 f.2.2.2.2.1 f.2.2.2.2.2
section
variable {X : Cx}
theorem gh.but {h h'} {C} (ok : gh P w H h) (hC : H C = none) (hs : Heap.SameBut C h h') : gh P w H h' := fun b ob e => by
 refine (ok b ob e).stay (fun c w' hc q => (hs.2 c ?_).trans q) fun _ q => q
 grind
theorem Un.but {C : Addr} (u : Un fs ex H H1 h h1) (hC : h.objs.size ≤ C) (hs : Heap.SameBut C h1 h2) : Un fs ex H H1 h h2 := by
 have ne : ∀ b o, h.get? b = some o → b ≠ C := fun b o e z => by
  subst z
  exact absurd (Nat.lt_of_lt_of_le (Heap.lt_size e) hC) (Nat.lt_irrefl _)
 refine ⟨fun b o e n a c => (hs.2 b (ne b o e)).trans (u.keep b o e n a c), fun b o e n a c => ?_, u.free, fun b o e c => ?_, u.tups, u.frzs, u.tbls⟩
 · obtain ⟨sl, q⟩ := u.slot b o e n a c
   exact ⟨sl, (hs.2 b (ne b o e)).trans q⟩
 · obtain ⟨o', q⟩ := u.there b o e c
   exact ⟨o', (hs.2 b (ne b o e)).trans q⟩
structure Go (X : Cx) {β : Type} (OB : β → Obj → Prop) (S : β → Prop) (ho : β → HO) (y0 : β) (mk : Sem Value) : Prop where
 cell : ∀ y o, OB y o → ∀ v, o.data ≠ .cell v
 fr : ∀ y o, OB y o → o.isFreed = false
 ok : ∀ {H h a y o}, OB y o → S y → h.get? a = some o → bz X.prog X.w H h a (ho y)
 new : ∀ {s : Shared} {Q E : Value → Shared → Prop}, (∀ o, OB y0 o → Q (.ref s.heap.objs.size) { s with heap := s.heap.push o }) → wpAny (model X.prog X.w) X.A mk Q E s
theorem gJ {β : Type} {OB : β → Obj → Prop} {L S Z : β → Prop} {ho : β → HO} {y0 : β} {mk : Sem Value} {EM : St → Hp → β → (β → Hp → Prop) → Prop} {em : Value → Env → Sem Unit} {pins : List (Addr × Obj)} {s2 : Shared} {σ : St} {H2 : Hp} {e target iter : Expr} {ifs : List Expr} {scope : Scope} {N' : List Str} {ix : List (Option Nat)} {cl : List (Str × Addr)} {g : TG} {tt : TT} {it : Addr} {fp : List Addr} {tn : Nat → Heap → Prop} {J : It} {Q : β → Hp → Prop}
 {RR : Value → Addr → Result → Shared → Prop} {E : Value → Shared → Prop}
 (hG : Go X OB S ho y0 mk) (hd : Cd X.prog X.w X.A e 0 iter target ifs em) (hc : X.calm = true) (hg : ∀ cl C ex s H, PG (ax X N' scope cl C ex s H) target g) (hf : ∀ cl C ex s H, PF (ax X N' scope cl C ex s H) ifs tt) (he : ∀ cl C ex s H, qN (ax X N' scope cl C ex s H) (aY ix σ) OB Z EM em)
 (hok : aO X.env.scope X.N scope N' ix = true) (hc1 : ∀ x c, cl.lookup x = some c → X.env.cells.lookup x = some c) (hc2 : ∀ x, (x, NameKind.free) ∈ scope.names → (cl.lookup x).isSome = true)
 (I2 : Inv X pins σ H2 s2) (T : iP X.prog X.w X.K target J fp it tn) (st2 : tn 0 s2.heap) (f2 : ∀ b ∈ fp, bC X pins H2 b) (hw : fK L S Z EM y0 J (aY ix σ) g tt Q H2)
 (hRR : ∀ (D C : Addr) (s' : Shared) (H' : Hp) (y : β) (m : Str → Option Value), s'.heap.Ns C m → bC X pins H' C → C ≠ D → H' D = none → (∀ h', Heap.SameBut C s'.heap h' → Inv X pins σ (bB H' D (ho y)) { s' with heap := h' }) → Q y H' → RR (.ref D) C (.ok .next) s') :
 wpAny (model X.prog X.w) X.A mk (fun acc s₃ => wpAny (model X.prog X.w) X.A (newFunctionEnv scope X.env.globals cl [] X.env.qual none .none (some X.env)) (fun cenv s₄ =>
  codeAny (model X.prog X.w) X.A (.compStart e 0 (.ref it) acc { cenv with scope := relabel scope X.env }) (RR acc cenv.locals) s₄) E s₃) E s2 := by
 obtain ⟨hk, _, hcell⟩ := cu hok
 refine hG.new fun o0 ob0 => wpAny_newFunctionEnv hcell (by intro y hy; simp at hy) (fun h₁ hns₁ hsb₁ => ?_) hk
 dsimp only at hns₁ hsb₁ ⊢
 have fpLt : ∀ b ∈ fp, b < s2.heap.objs.size := fun b hb => by
  obtain ⟨o, e, _⟩ := T.obj _ _ st2 b hb
  exact Heap.lt_size e
 have hDf : s2.heap.objs.size ∉ fp := fun hm => Nat.lt_irrefl _ (fpLt _ hm)
 generalize hH3 : s2.heap.push o0 = H3 at hns₁ hsb₁ ⊢
 have hC : H3.objs.size = s2.heap.objs.size + 1 := by rw [← hH3, Heap.size_push]
 have old3 : ∀ b o, s2.heap.get? b = some o → H3.get? b = some o := fun b o e => by rw [← hH3]; exact Heap.get?_push_of_some _ e
 have old1 : ∀ b o, H3.get? b = some o → h₁.get? b = some o := fun b o e => hsb₁.extBut b o (Nat.ne_of_lt (Heap.lt_size e)) (Heap.get?_push_of_some _ e)
 have accD : H3.get? s2.heap.objs.size = some o0 := by rw [← hH3]; exact Heap.get?_push_size _ (hG.fr _ _ ob0)
 have I3 : Inv X pins σ H2 { s2 with heap := H3 } := I2.kept (t' := s2.toks) old3
 have fD : bC X pins H2 s2.heap.objs.size := I2.fpOk (Nat.le_refl _) (I2.hok.fresh (Nat.le_refl _))
 have hex : ∀ b ∈ s2.heap.objs.size :: fp, bC X pins H2 b ∧ b < ({ s2 with heap := H3 } : Shared).heap.objs.size := fun b hb => by
  show _ ∧ b < H3.objs.size
  rcases List.mem_cons.mp hb with z | z
  · rw [z]; exact ⟨fD, by rw [hC]; exact Nat.lt_succ_self _⟩
  · exact ⟨f2 b z, by rw [hC]; exact Nat.lt_succ_of_lt (fpLt b z)⟩
 have I4 := tL I3 (tk := s2.toks + ([] : List (Str × Value)).length) hok hc1 hc2 hex hns₁ old1
 have own : ∀ {H' : Hp} {b : Addr}, b ∈ s2.heap.objs.size :: fp → H' b = none → bC (ax X N' scope cl H3.objs.size (s2.heap.objs.size :: fp) { s2 with heap := H3 } H2) [] H' b := fun {H' b} hb hn => by
  have f := (hex b hb).1
  exact ⟨hn, Nat.ne_of_lt (hex b hb).2, I2.off f, .inl hb, fun x c e => f.2.2.2.2.1 x c (hc1 x c e), fun p hp => nomatch hp⟩
 refine uR (Xc := ax X N' scope cl H3.objs.size (s2.heap.objs.size :: fp) { s2 with heap := H3 } H2) (pins := []) hd hc rfl (hg _ _ _ _ _) (hf _ _ _ _ _) hG.cell (fun hn => own List.mem_cons_self hn)
  (I4.pins_of fun p hp => ?_) ob0 T (T.keep _ _ _ st2 fun b hb o e => old1 b o (old3 b o e)) (fun b hb => ?_) hw (he _ _ _ _ _) fun {H' s' y ob} I6 d6 o6 v6 hS q => ?_
 · cases List.mem_singleton.mp hp
   exact ⟨old1 _ _ accD, fD.1, Nat.ne_of_lt (hex _ List.mem_cons_self).2, I2.off fD, hG.cell _ _ ob0⟩
 · obtain ⟨a0, a1, a2, a3, a4, a5⟩ := own (H' := H2) (List.mem_cons_of_mem _ hb) (f2 b hb).1
   refine ⟨a0, a1, a2, a3, a4, fun p hp z => ?_⟩
   cases List.mem_singleton.mp hp
   exact hDf (by rw [show s2.heap.objs.size = b from z]; exact hb)
 · obtain ⟨mC, hnC, _⟩ := I6.loc
   have fC : bC X pins H' H3.objs.size := ⟨I6.free, (I3.fpOk (Nat.le_refl _) (I3.hok.fresh (Nat.le_refl _))).2⟩
   refine hRR _ _ s' H' y mC hnC fC (by rw [hC]; exact Nat.ne_of_gt (Nat.lt_succ_self _)) d6 (fun h' hs' => ?_) q
   have J : Inv X pins σ H' { s' with heap := h' } := I3.call' (s' := { s' with heap := h' }) (ch := s2.heap.objs.size :: fp) I6.os (Un.but I6.base (Nat.le_refl _) hs') (gh.but I6.hok fC.1 hs') I6.bare
    (fun b hb => by
     have f := (hex b hb).1
     exact ⟨f.2.2.2.1, f.2.1, f.2.2.2.2.1, f.2.2.2.2.2⟩)
   exact J.track ⟨d6, fD.2⟩ (hG.ok v6 hS ((hs'.2 _ (by rw [hC]; exact Nat.ne_of_lt (Nat.lt_succ_self _))).trans o6))
theorem gP {pins : List (Addr × Obj)} {σ : St} {H : Hp} {s : Shared} {scope : Scope} {N' : List Str} {ix : List (Option Nat)} (I : Inv X pins σ H s) (hok : aO X.env.scope X.N scope N' ix = true) :
 scope.kind = .function ∧ (∀ x ∈ scope.names, x.2 = .local → scope.names.lookup x.1 = some .local) ∧ ∃ cl, closureFor scope X.env = pure cl ∧ (∀ x c, cl.lookup x = some c → X.env.cells.lookup x = some c) ∧ ∀ x, (x, NameKind.free) ∈ scope.names → (cl.lookup x).isSome = true := by
 obtain ⟨hk, hall, _⟩ := cu hok
 refine ⟨hk, fun y hy z => ?_, m8 fun y hy z => ?_⟩
 · have := hall y hy
   unfold fT at this
   rw [z] at this
   simpa using this
 · have := hall y hy
   unfold fT at this
   rw [z] at this
   simp only [Bool.or_eq_true] at this
   refine I.ok.has y.1 ?_
   rcases this with q | q
   · exact .inl (by simpa [Env.kindOf] using q)
   · exact .inr (by simpa [Env.kindOf] using q)
theorem iw : Go X GI (fun ys => ys.length ≤ sizeLine) .lst [] (newList []) :=
 ⟨fun y o ⟨_, _, _, e⟩ v z => (by rw [e] at z; cases z), fun y o ⟨_, _, _, e⟩ => by rw [e]; rfl, fun ⟨its, k, v, e⟩ hz h => ⟨hz, its, k, v, by rw [h, e]⟩, fun h => wpAny_newObj_type (h _ ⟨[], _, .nil, rfl⟩)⟩
theorem n5 {ifs} {scope} {pos} : Cd X.prog X.w X.A (.ListComp elt [⟨target, iter, ifs, 0⟩] scope pos) 0 iter target ifs fun acc env => (do let _ ← call (.builtin "list.append") [acc, ← eval elt env]) :=
 ⟨fun _ _ _ => rfl, fun _ _ _ => rfl, fun _ _ _ => rfl, fun _ _ _ => rfl, fun _ _ _ => rfl, rfl⟩
theorem iA {OB} {L S Z} {ho} {y0} {mk} {EM : St → St → Hp → β → (β → Hp → Prop) → Prop} {em} {e target iter} {ifs} {gs} {scope} {p} {N'} {ix} {wi} {g} {tt}
 (hG : Go X OB S ho y0 mk) (hd : Cd X.prog X.w X.A e 0 iter target ifs em) (hev : eval e X.env = comprehension e scope X.env p mk false (eval iter X.env) none) (hcl : clausesOf e = ⟨target, iter, ifs, 0⟩ :: gs) (hc : X.calm = true) (hi : PI X target iter wi)
 (hg : ∀ cl C ex s H, PG (ax X N' scope cl C ex s H) target g) (hf : ∀ cl C ex s H, PF (ax X N' scope cl C ex s H) ifs tt) (he : ∀ σc cl C ex s H, qN (ax X N' scope cl C ex s H) σc OB Z (EM σc) em)
 (hok : aO X.env.scope X.N scope N' ix = true) (hs : ∀ x, foldedSetIterable iter X.env x = pure x) : PE X e fun σ H Q => wi σ H fun J H1 => fK L S Z (EM (aY ix σ)) y0 J (aY ix σ) g tt (fun y H' => ∀ p, H' p = none → Q (.ref p) (bB H' p (ho y))) H1 := by
 intro pins s σ H Q I h
 obtain ⟨hk, hn, cl, hcl', hc1, hc2⟩ := gP I hok
 rw [hev]
 refine wpAny_comprehension_free hcl hs hcl' hk hn (aU (hi _ s σ H _ I h) fun v s1 h1 => aU h1 fun itv s2 h2 => ?_)
 obtain ⟨it, fp, tn, J, H2, e, I2, T, st2, f2, hw⟩ := h2
 subst e
 refine gJ hG hd hc hg hf (he _) hok hc1 hc2 I2 T st2 f2 hw ?_
 intro D C s' H' y m hn fC hCD hD hI hq
 exact ⟨m, hn, fun h' hs' => ⟨.ref D, _, hI h' hs', rfl, hq D hD⟩⟩
theorem oP {elt target iter : Expr} {ifs : List Expr} {scope : Scope} {pos : Pos} {N' : List Str} {ix : List (Option Nat)} {wi : TI} {g : TG} {tt : TT} {te : TE} (hc : X.calm = true) (hi : PI X target iter wi)
 (hg : ∀ cl C ex s H, PG (ax X N' scope cl C ex s H) target g) (hf : ∀ cl C ex s H, PF (ax X N' scope cl C ex s H) ifs tt) (he : ∀ cl C ex s H, PE (ax X N' scope cl C ex s H) elt te)
 (hok : aO X.env.scope X.N scope N' ix = true) (hs : ∀ x, foldedSetIterable iter X.env x = pure x := by intro _; rfl) : PE X (.ListComp elt [⟨target, iter, ifs, 0⟩] scope pos) (lI ix wi g tt te) :=
 iA iw n5 (eval_ListComp ..) rfl hc hi hg hf (fun _ _ _ _ _ _ => fM (he _ _ _ _ _) rfl) hok hs
theorem xG {elt target iter : Expr} {ifs : List Expr} {scope : Scope} {pos spos py : Pos} {y : Str} {i : Nat} {N' : List Str} {ix : List (Option Nat)} {wi : TI} {g : TG} {tt : TT} {te : TE} (hN : X.N.Nodup) (hiy : X.N[i]? = some y) (hy : X.env.kindOf y = some .local) (hc : X.calm = true) (hi : PI X target iter wi)
 (hg : ∀ cl C ex s H, PG (ax X N' scope cl C ex s H) target g) (hf : ∀ cl C ex s H, PF (ax X N' scope cl C ex s H) ifs tt) (he : ∀ cl C ex s H, PE (ax X N' scope cl C ex s H) elt te)
 (hok : aO X.env.scope X.N scope N' ix = true) (hsw : swapsWith (.ListComp elt [⟨target, iter, ifs, 0⟩] scope pos) (some (.Name y py)) spos.line X.env = pure true) (hs : ∀ x, foldedSetIterable iter X.env x = pure x := by intro _; rfl) :
 PS X (.Assign [.Name y py] (.ListComp elt [⟨target, iter, ifs, 0⟩] scope pos) spos) (wN (lI ix wi g tt te) (lE i)) := by
 intro pins s σ H D0 I h
 obtain ⟨hk, hnm, cl, hcl, hc1, hc2⟩ := gP I hok
 rw [exec_Assign_Name_used _ _ _ _ hsw]
 refine wpAny_bind (wpAny_standAt (wpAny_bind ?_))
 refine wpAny_bind (wpAny_mono (wpAny_comprehension_free rfl hs hcl hk hnm (aU (hi _ s σ H _ I h) fun v s1 h1 => aU h1 fun itv s2 h2 => ?_)) (fun _ s' hq => wpAny_pure (wpAny_pure hq)) fun _ _ e => e)
 obtain ⟨it, fp, tn, J, H2, e, I2, T, st2, f2, hw⟩ := h2
 subst e
 refine gJ iw n5 hc hg hf (fun _ _ _ _ _ => fM (he _ _ _ _ _) rfl) hok hc1 hc2 I2 T st2 f2 hw ?_
 intro D C s' H' ys m hn fC hCD hD hI hq
 have J := hI _ (.refl ..)
 refine wpAny_assign_Name (iZ J hN hiy (.inl hy) (v := .ref D) rfl (fun s'' J' ⟨a, hs, ha⟩ => ?_) (.inr hy))
 have hCa : C ≠ a := by
  rcases ha with z | z
  · rw [z]; exact fC.2.1
  · exact fun q => fC.2.2.2.2.1 y a z q.symm
 refine ⟨m, hn.sameBut hs hCa, fun h' hs' => ?_⟩
 refine ⟨_, _, ?_, hq D hD⟩
 exact J'.turned (fun b o hb e => (hs'.2 b hb).trans e) (by rw [ay hCD]; exact fC.1) fC.2.1 fC.2.2.2.1 fC.2.2.2.2.1 fC.2.2.2.2.2
theorem gj {σ : St} {H} {s} {Q} {z} {t} (I : Inv X pins σ H s) (q : Q (.str z) H) : EP X pins σ Q (.str z t) s := ⟨.str z, H, I, ⟨t, rfl⟩, q⟩
def yD (i j : Int) : Prop := 0 < j ∧ j < 2 ^ 1000
theorem ux : cD X (binaryOp .FloorDiv) (rI yD fun i j => .int (i / j)) := Ee fun i j _ _ _ _ _ hc q => by
 have h0 := hc.1
 refine floordiv_int (by omega) (by rw [Int.fdiv_eq_ediv_of_nonneg i (by omega)]; exact q) (.inl (PyProof.noPylong_of_log2 ?_))
 have h1 : j.natAbs < 2 ^ 1000 := by
  have h2 := hc.2
  omega
 have h3 : j.natAbs ≠ 0 := by omega
 have h4 := (Nat.log2_lt h3).mpr h1
 omega
theorem pS : cD X (compareOp .LtE) fun x y H Q => ∃ i j, x = .str i ∧ y = .str j ∧ Q (.bl !decide (j.cps.toList < i.cps.toList)) H := by
 intro pins s σ H x y v u Q I rx ry h
 obtain ⟨i, j, rfl, rfl, q⟩ := h
 obtain ⟨t, rfl⟩ := rx
 obtain ⟨t', rfl⟩ := ry
 exact P.le_str (nS I q rfl)
def DO : V → Option Int → Option Int → Hp → VK → Prop := fun x lo hi H Q => ∃ z, x = .str z ∧ z.length ≤ sizeLine ∧ Q (.str (Txt.slice z lo hi)) H
theorem zT : vU X DO := by
 intro pins s σ H x v vl vu lo hi sl Q I rx hs pl pu h
 obtain ⟨z, rfl, hz, q⟩ := h
 obtain ⟨t, rfl⟩ := rx
 refine ⟨_, _, F.slot_str_getitem.lookup, typeIs_str _ _ _, ?_⟩
 obtain ⟨o, ho, hc, hd⟩ := hs
 have dy : ∀ (lo hi : Option _), Q (.str (Txt.slice z lo hi)) H → ∀ t' k, EP X _ σ Q (.str _ t') _ := fun lo hi q t' k => gj (I.tok k) q
 cases pl with
 | none =>
  cases pu with
  | none => exact wpAny_getItem_str_slice (l := none) (u := none) (st := none) ⟨o, ho, hc, hd⟩ rfl (post_val_or_str ⟨Nat.le_trans (Txt.slice_le z _ _) hz, fun t' k => dy _ _ q t' k⟩)
  | int j tj => exact wpAny_getItem_str_slice (l := none) (u := some (j, tj)) (st := none) ⟨o, ho, hc, hd⟩ rfl (post_val_or_str ⟨Nat.le_trans (Txt.slice_le z _ _) hz, fun t' k => dy _ _ q t' k⟩)
 | int i ti =>
  cases pu with
  | none => exact wpAny_getItem_str_slice (l := some (i, ti)) (u := none) (st := none) ⟨o, ho, hc, hd⟩ rfl (post_val_or_str ⟨Nat.le_trans (Txt.slice_le z _ _) hz, fun t' k => dy _ _ q t' k⟩)
  | int j tj => exact wpAny_getItem_str_slice (l := some (i, ti)) (u := some (j, tj)) (st := none) ⟨o, ho, hc, hd⟩ rfl (post_val_or_str ⟨Nat.le_trans (Txt.slice_le z _ _) hz, fun t' k => dy _ _ q t' k⟩)
theorem fb : ∀ {ys} {us}, am (ys.map V.str) us → StrsAre us ys
 | [], _, .nil => .nil
 | y :: ys, _, .cons ⟨t, e⟩ r => by subst e; exact .cons y t (fb r)
def yH (K : PySem.W.Frag) : V → List V → Hp → VK → Prop := fun x vs H Q => ∃ sep a ys, x = .str sep ∧ vs = [.ref a] ∧ cF K H a (ys.map V.str) ∧ (ys.map (·.length)).sum + ys.length * sep.length ≤ 16777216 ∧ Q (.str (Txt.join sep ys)) H
theorem wG : sR X "str.join" (yH X.K) := by
 intro pins s σ H x vs v us Q I rx rv h
 obtain ⟨sep, a, ys, rfl, rfl, hS, hz, q⟩ := h
 obtain ⟨t, rfl⟩ := rx
 obtain ⟨u, rfl, ru⟩ := rv.one
 cases ru
 obtain ⟨its, r, p, _⟩ := I.list hS
 exact join_list p.isList (fb (by simpa using r)) hz fun t' k => gj (I.tok k) q
def uh (K : PySem.W.Frag) : V → List V → Hp → VK → Prop := fun x vs H Q => ∃ sep a ys, x = .str sep ∧ vs = [.ref a] ∧ eB K H a (ys.map V.str) ∧ (ys.map (·.length)).sum + ys.length * sep.length ≤ 16777216 ∧ Q (.str (Txt.join sep ys)) H
theorem ua : sR X "str.join" (uh X.K) := by
 intro pins s σ H x vs v us Q I rx rv h
 obtain ⟨sep, a, ys, rfl, rfl, hS, hz, q⟩ := h
 obtain ⟨t, rfl⟩ := rx
 obtain ⟨u, rfl, ru⟩ := rv.one
 cases ru
 obtain ⟨its, r, p, _⟩ := I.tuple hS
 exact join_tuple p (fb (by simpa using r)) hz fun t' k => gj (I.tok k) q
def eA (z : Str) (n : Int) : Str := if n < 1 then Str.empty else if (n == 1 || z.length == 0) = true then z else ⟨(List.replicate n.toNat z.cps).foldl (· ++ ·) #[]⟩
theorem mX : cD X (binaryOp .Mult) (fun x y H Q => ∃ z n, x = .str z ∧ y = .int n ∧ z.length ≤ 1000 ∧ 0 ≤ n ∧ n ≤ 1000 ∧ Q (.str (eA z n)) H) := by
 intro pins s σ H x y v u Q I rx ry h
 obtain ⟨z, n, rfl, rfl, hz, h0, h1, q⟩ := h
 obtain ⟨t, rfl⟩ := rx
 obtain ⟨t', rfl⟩ := ry
 have hsz : z.length * n.toNat ≤ 1000000 := by
  have := Nat.mul_le_mul hz (show n.toNat ≤ 1000 by omega)
  omega
 have hline : sizeLine = 16777216 := by rw [sizeLine_eq]
 refine P.mul_str (by rw [decide_eq_false (by omega), decide_eq_false (by omega)]; rfl) (fun a b hh => ?_) (fun a b => ?_) ?_
 · have : (1000 : Int) ≤ (2 ^ 63 - 1) / n := by
    have e : (2 ^ 63 - 1 : Int) / 1000 ≤ (2 ^ 63 - 1) / n := by
     refine (Int.le_ediv_iff_mul_le (by omega)).mpr ?_
     have : (2 ^ 63 - 1 : Int) / 1000 * n ≤ (2 ^ 63 - 1) / 1000 * 1000 := Int.mul_le_mul_of_nonneg_left h1 (by decide)
     exact Int.le_trans this (by decide)
    exact Int.le_trans (by decide) e
   omega
 · exact decide_eq_false (by rw [hline]; omega)
 · unfold eA at q
   split
   · rename_i c
     rw [if_pos c] at q
     exact ⟨by decide, gj (I.tok _) q⟩
   · rename_i c
     rw [if_neg c] at q
     split
     · rename_i d
       rw [if_pos d] at q
       exact gj I q
     · rename_i d
       rw [if_neg d] at q
       refine ⟨?_, gj (I.tok _) q⟩
       have key : ∀ (k : Nat) (acc : Array Nat), ((List.replicate k z.cps).foldl (· ++ ·) acc).size = acc.size + z.length * k := by
        intro k
        induction k with
        | zero => simp
        | succ k ih => intro acc; rw [List.replicate_succ, List.foldl_cons, ih, Array.size_append, Nat.mul_succ]; show acc.size + z.length + z.length * k = _; omega
       have := key n.toNat #[]
       show Array.size _ ≤ sizeLine
       rw [this, hline]
       simp only [List.size_toArray, List.length_nil]
       omega
end
end L2
end
section
namespace L2
open AutoSeq1 (wpAny_loadPart')
section
variable {prog : Program} {w : World} {A : Around} {E : Value → Shared → Prop} {s : Shared}
theorem jz {it l : Addr} {i : Nat} {items} {Q : Value → Shared → Prop} (hit : s.heap.IsTupleIter it l i) (hl : s.heap.IsTuple l items)
 (h : match items[i]? with
  | some x => ∀ h', h'.IsTupleIter it l (i + 1) → Heap.SameBut it s.heap h' → Q x { s with heap := h' }
  | none => A.handled = none ∧ ∀ h' e, Heap.ExtBut it s.heap h' → (∃ o, h'.get? e = some o ∧ o.cls = .type "StopIteration") → E (.ref e) { s with heap := h' }) :
 wpAny (model prog w) A (Builtin.SmallTypes.nextOf (.ref it)) Q E s := by
 obtain ⟨o, ho, hc, hd⟩ := id hit
 obtain ⟨ol, hol, _, nl, hdl⟩ := hl
 refine wpAny_bind (wpAny_callSpecial?_slot (name := Str.ofString "__next__") hit.typeIs F.slot_tuple_iterator_next
  (wpAny_call_entry F.slot_tuple_iterator_next hit.typeIs F.entry_tuple_iterator_next ?_ (F.args_tuple_iterator_next_1 _)))
 show wpAny _ _ (field (.ref it) 0 >>= _) _ _ s
 refine wpAny_bind (wpAny_field ho hd (x := .ref l) rfl ?_)
 refine wpAny_bind (wpAny_field ho hd (x := .int i 0) rfl ?_)
 refine wpAny_bind (wpAny_seqItems hol hdl ?_)
 cases hx : items[i]? with
 | some x =>
  rw [hx] at h
  simp only [Int.toNat_natCast, hx]
  refine wpAny_bind (wpAny_setField ho hd (by simp) (wpAny_pure ⟨x, rfl, wpAny_pure (h _ ?_ (Heap.SameBut.update ..))⟩))
  exact ⟨_, Heap.get?_update_self _ ho (Obj.isFreed_of_fields (Obj.data_mapFields hd _)), (Obj.cls_mapFields ..).trans hc, by
   rw [Obj.data_mapFields hd]; simp [rawInt]⟩
 | none =>
  rw [hx] at h
  simp only [Int.toNat_natCast, hx]
  refine wpAny_bind (wpAny_rule (wpAny_bind (wpAny_setField ho hd (by simp) ?_)))
  refine wpAny_bind ?_
  refine wpAny_bind (m := firstArgMember _ _) (wpAny_of_eq (a := Value.none) (by rfl) ?_)
  refine wpAny_newObj_type ?_ (by size_fits)
  refine wpAny_bind (wpAny_handled ?_)
  first | rw [h.1]
  refine wpAny_bind (wpAny_pure (wpAny_throw ?_))
  exact h.2 _ _ (((Heap.SameBut.update ..).extBut.push _).push _) ⟨_, Heap.get?_push_size _ rfl, rfl⟩
theorem qi {e it : Addr} {i : Nat} {x old : Value} {T : Heap → Prop} {Q : Value → Shared → Prop}
 (he : IsEnum s.heap e it i old) (hne : e ≠ it) (hT : ∀ h h', T h → (∀ o, h.get? it = some o → h'.get? it = some o) → T h')
 (hN : ∀ (Q' : Value → Shared → Prop), (∀ h', T h' → Heap.SameBut it s.heap h' → Q' x { s with heap := h' }) → wpAny (model prog w) A (Builtin.SmallTypes.nextOf (.ref it)) Q' E s)
 (hQ : ∀ h', IsEnumOut h' e it ((i : Int) + 1) x s.heap.objs.size → T h' →
  h'.get? s.heap.objs.size = some { cls := .type "tuple", data := .seq #[.int i s.toks, x] } → h'.objs.size = s.heap.objs.size + 1 →
  (∀ b o, b ≠ e → b ≠ it → s.heap.get? b = some o → h'.get? b = some o) → Q (.ref s.heap.objs.size) { s with heap := h', toks := s.toks + 1 }) :
 wpAny (model prog w) A (Builtin.«enumerate.__next__» ⟨[.ref e], []⟩) (fun dy s' => ∃ v, dy = .done (.ret v) ∧ Q v s') E s := by
 obtain ⟨hp, g, d, tk, os⟩ := s
 show wpAny _ _ (field (.ref e) 2 >>= _) _ _ _
 refine wpAny_bind (wpAny_field he rfl (x := .ref it) rfl ?_)
 refine wpAny_bind (hN _ fun h₁ hit₁ hs₁ => ?_)
 have he₁ : IsEnum h₁ e it i old := (hs₁.2 e hne).trans he
 refine wpAny_bind (wpAny_field he₁ rfl (x := rawInt i) rfl ?_)
 refine wpAny_bind (wpAny_field he₁ rfl (x := .none) rfl ?_)
 refine wpAny_bind (wpAny_mkInt ?_)
 refine wpAny_bind (wpAny_setField_rec he₁ (by simp) fun h₂ he₂ hs₂ => ?_)
 refine wpAny_bind (wpAny_setField_rec he₂ (by simp) fun h₃ he₃ hs₃ => ?_)
 refine wpAny_bind (wpAny_newTuple ?_)
 have he₄ : IsEnum (h₃.push { cls := .type "tuple", data := .seq #[.int i tk, x] }) e it ((i : Int) + 1) old := Heap.get?_push_of_some _ he₃
 generalize hh₄ : h₃.push { cls := .type "tuple", data := .seq #[.int i tk, x] } = h₄ at he₄
 have hsz : h₃.objs.size = hp.objs.size := by rw [hs₃.1, hs₂.1, hs₁.1]
 have hel : e < hp.objs.size := Heap.lt_size he
 have ht₄ : h₄.get? hp.objs.size = some { cls := .type "tuple", data := .seq #[.int i tk, x] } := by rw [← hh₄, ← hsz]; exact Heap.get?_push_size _ rfl
 have hz₄ : h₄.objs.size = hp.objs.size + 1 := by rw [← hh₄, Heap.size_push, hsz]
 have hk₄ : ∀ b o, b ≠ e → b ≠ it → hp.get? b = some o → h₄.get? b = some o := fun b o hbe hbi hb => by
  rw [← hh₄]; exact Heap.get?_push_of_some _ (hs₃.extBut b o hbe (hs₂.extBut b o hbe (hs₁.extBut b o hbi hb)))
 have hit₄ : T h₄ := hT _ _ hit₁ fun o ho => by
  rw [← hh₄]; exact Heap.get?_push_of_some _ (hs₃.extBut _ o (Ne.symm hne) (hs₂.extBut _ o (Ne.symm hne) ho))
 rw [hsz]
 refine wpAny_bind ?_
 · refine wpAny_bind (wpAny_field he₄ rfl (x := .none) rfl (wpAny_pure ?_))
   refine wpAny_bind (wpAny_rule ?_)
   refine wpAny_bind (wpAny_field he₄ rfl (x := old) rfl ?_)
   refine wpAny_bind (wpAny_setField_rec he₄ (by simp) fun h₅ he₅ hs₅ => ?_)
   refine wpAny_bind ?_
   · refine wpAny_bind (wpAny_setField_rec he₅ (by simp) fun h₆ he₆ hs₆ => ?_)
     refine wpAny_setField_rec he₆ (by simp) fun h₇ he₇ hs₇ => ?_
     refine wpAny_bind (wpAny_letGo (wpAny_pure ⟨_, rfl, hQ h₇ he₇ ?_ ?_ ?_ ?_⟩))
     · exact hT _ _ hit₄ fun o ho => hs₇.extBut _ o (Ne.symm hne) (hs₆.extBut _ o (Ne.symm hne) (hs₅.extBut _ o (Ne.symm hne) ho))
     · exact hs₇.extBut _ _ (Nat.ne_of_gt hel) (hs₆.extBut _ _ (Nat.ne_of_gt hel) (hs₅.extBut _ _ (Nat.ne_of_gt hel) ht₄))
     · rw [hs₇.1, hs₆.1, hs₅.1, hz₄]
     · exact fun b o hbe hbi hb => hs₇.extBut b o hbe (hs₆.extBut b o hbe (hs₅.extBut b o hbe (hk₄ b o hbe hbi hb)))
theorem iL (l : Addr) (items : Array Value) (n : Nat) (dct : Option Addr) (sl : Array (Option Value)) :
 Meets (Builtin.«enumerate.__new__» ⟨[.type "enumerate", .ref l], []⟩) (fun _ R s => s.heap.get? l = some { cls := .type "tuple", dict := dct, data := .seq items n, slots := sl } ∧
  R (.ok (.ret (.ref (s.heap.push { cls := .type "tuple_iterator", data := .fields #[.ref l, .int 0 0] }).objs.size)))
   { s with heap := (s.heap.push { cls := .type "tuple_iterator", data := .fields #[.ref l, .int 0 0] }).push { cls := .type "enumerate", data := .fields #[.none, .bool false, .ref s.heap.objs.size, rawInt 0, .none, .none] } }) :=
 .of_wp fun prog w A R s h => by
  obtain ⟨hp, g, d, tk, os⟩ := s; obtain ⟨hl, h⟩ := h
  have hsub := sub_enumerate
  have hL : Heap.IsTuple (Shared.heap ⟨hp, g, d, tk, os⟩) l items := ⟨_, hl, rfl, n, rfl⟩
  wp_walk using wpAny_loadPart' hl
  refine wpAny_stack_any fun st => wpAny_pure ?_
  split
  · rename_i c _ _ _ _ _
    cases (c == Value.type _)
    · wp_walk using wpAny_loadPart' hl, wpAny_pyIter_tuple hL
      exact ⟨_, rfl, h⟩
    · wp_walk using wpAny_loadPart' hl, wpAny_pyIter_tuple hL
      exact ⟨_, rfl, h⟩
  · wp_walk using wpAny_loadPart' hl, wpAny_pyIter_tuple hL
    exact ⟨_, rfl, h⟩
theorem gy {Q} (hL : s.heap.IsTuple l items)
 (h : ∀ h', IsEnum h' (s.heap.objs.size + 1) s.heap.objs.size 0 .none → h'.IsTupleIter s.heap.objs.size l 0 → h'.objs.size = s.heap.objs.size + 2 →
  (∀ b o, s.heap.get? b = some o → h'.get? b = some o) → Q (.ref (s.heap.objs.size + 1)) { s with heap := h' }) :
 wpAny (model prog w) A (call (.type "enumerate") [.ref l]) Q E s := by
 obtain ⟨⟨c, dct, dt, sl⟩, hl, hc, n, hd⟩ := hL
 subst hc hd
 refine callType_new F.called_enumerate rfl (F.typeCall_enumerate_1 _) (F.newCall_enumerate_1 _) (fun obj => F.args_object_init_2 _ _) F.entry_enumerate_new
  (iL l _ n _ sl) ⟨hl, ?_⟩
 have hz : (s.heap.push { cls := .type "tuple_iterator", data := .fields #[.ref l, .int 0 0] }).objs.size = s.heap.objs.size + 1 := Heap.size_push ..
 rw [hz]
 have he := by
  have := Heap.get?_push_size (s.heap.push { cls := .type "tuple_iterator", data := .fields #[.ref l, .int 0 0] })
   (o := { cls := .type "enumerate", data := .fields #[.none, .bool false, .ref s.heap.objs.size, rawInt 0, .none, .none] }) rfl
  rw [hz] at this; exact this
 refine ⟨⟨_, he, rfl⟩, h _ he ⟨_, Heap.get?_push_of_some _ (Heap.get?_push_size _ rfl), rfl, rfl⟩ (by rw [Heap.size_push, hz]) fun b o x => Heap.get?_push_of_some _ (Heap.get?_push_of_some _ x)⟩
end
def Ir (Sq : Hp → List V → Prop) : It := ⟨fun i H => ∃ xs x, Sq H xs ∧ xs[i]? = some x, fun i H x H' => ∃ p v, H p = none ∧ x = .ref p ∧ (∀ xs, Sq H xs → xs[i]? = some v) ∧ H' = bB H p (.tup [.int i, v]), fun i H => ∃ xs, Sq H xs ∧ xs.length ≤ i⟩
section
variable {X : Cx} {pins : List (Addr × Obj)} {σ : St} {H : Hp} {s : Shared}
theorem Inv.turnedL {h'} {ch : List _} (I : Inv X pins σ H s) (k : ∀ b o, b ∉ ch → s.heap.get? b = some o → h'.get? b = some o) (hf : ∀ b ∈ ch, bC X pins H b) : Inv X pins σ H { s with heap := h', toks := t' } := by
 have nit : ∀ b u, H b = some u → b ∉ ch := fun b u e z => by rw [(hf b z).1] at e; cases e
 refine I.step (fun b hb => ?_) (fun b o _ _ hc e _ => k b o hc e) (fun b o _ _ hc e _ => ⟨_, k b o hc e⟩) (fun _ _ _ _ n => n)
  (fun b o hc e => ⟨o, k b o hc e⟩) (fun _ _ e => e) (fun _ _ _ e => e) (fun b ps e => ⟨#[], by rw [e]; simp⟩) (fun m hm => ?_) (fun b u e => ?_) I.bare (Nat.le_refl _)
 · obtain ⟨f0, f1, f2, f3, f4, f5⟩ := hf b hb
   exact ⟨f3, f1, f4, f5⟩
 · obtain ⟨o, es, ep, ho, r⟩ := hm
   exact ⟨o, es, ep, k _ o (fun z => (hf _ z).2.1 rfl) ho, r⟩
 · refine (I.hok b u e).stay (fun c v hc q => k c v ?_ q) fun _ q => q
   grind
def qh (i : Addr) (T : Heap → Prop) : Prop := ∀ h h', T h → (∀ o, h.get? i = some o → h'.get? i = some o) → T h'
structure zU (P : Program) (w : World) (K : PySem.W.Frag) (Sq : Hp → List V → Prop) (l it : Addr) (T : Nat → Heap → Prop) : Prop where
 own : ∀ i, qh it (T i)
 obj : ∀ i h, T i h → ∃ o, h.get? it = some o ∧ ∀ v, o.data ≠ .cell v
 inj : ∀ (X : Cx) pins σ H s xs ys, X.K = K → Inv X pins σ H s → Sq H xs → Sq H ys → xs = ys
 nx : ∀ (X : Cx), X.K = K → ∀ pins σ H s xs x i, Inv X pins σ H s → Sq H xs → xs[i]? = some x → ∃ u, RelV x u ∧ ∀ h, (∀ o, s.heap.get? l = some o → h.get? l = some o) → T i h → ∀ (A : Around) (E : Value → Shared → Prop) (Q' : Value → Shared → Prop),
  (∀ h', T (i + 1) h' → Heap.SameBut it h h' → Q' u { s with heap := h' }) → wpAny (model P w) A (Builtin.SmallTypes.nextOf (.ref it)) Q' E { s with heap := h }
 en : ∀ (X : Cx), X.K = K → ∀ pins σ H s xs i, Inv X pins σ H s → Sq H xs → xs.length ≤ i → ∀ h, (∀ o, s.heap.get? l = some o → h.get? l = some o) → T i h → ∀ (A : Around) (E : Value → Shared → Prop) (Q' : Value → Shared → Prop), A.handled = none →
  (∀ h' e, Heap.ExtBut it h h' → (∃ o, h'.get? e = some o ∧ o.cls = .type "StopIteration") → E (.ref e) { s with heap := h' }) → wpAny (model P w) A (Builtin.SmallTypes.nextOf (.ref it)) Q' E { s with heap := h }
theorem sW {P : Program} {w : World} {K : PySem.W.Frag} {S : Hp → List V → Prop} {l it : Addr} {T : Nat → Heap → Prop} {IsS : Heap → Array Value → Prop} (own : ∀ i, qh it (T i)) (obj : ∀ i h, T i h → ∃ o, h.get? it = some o ∧ ∀ v, o.data ≠ .cell v)
 (inj : ∀ (X : Cx) pins σ H s xs ys, X.K = K → Inv X pins σ H s → S H xs → S H ys → xs = ys)
 (get : ∀ (X : Cx) pins σ H s xs, X.K = K → Inv X pins σ H s → S H xs → ∃ its : List Value, am xs its ∧ ∀ h, (∀ o, s.heap.get? l = some o → h.get? l = some o) → IsS h its.toArray)
 (nx : ∀ (s : Shared) i (its : Array Value) (A : Around) (E Q : Value → Shared → Prop), T i s.heap → IsS s.heap its → (match its[i]? with
  | some x => ∀ h', T (i + 1) h' → Heap.SameBut it s.heap h' → Q x { s with heap := h' }
  | none => A.handled = none ∧ ∀ h' e, Heap.ExtBut it s.heap h' → (∃ o, h'.get? e = some o ∧ o.cls = .type "StopIteration") → E (.ref e) { s with heap := h' }) → wpAny (model P w) A (Builtin.SmallTypes.nextOf (.ref it)) Q E s) : zU P w K S l it T where
 own := own
 obj := obj
 inj := inj
 nx := by
  intro X hK pins σ H s xs x i I hq hx
  obtain ⟨its, rv, ht⟩ := get X _ σ H s xs hK I hq
  obtain ⟨u, hu, ru⟩ := rv.get hx
  refine ⟨u, ru, fun h hl hit A E Q' hQ => nx _ i _ A E Q' hit (ht h hl) ?_⟩
  simp_all
 en := by
  intro X hK pins σ H s xs i I hq hx h hl hit A E Q' hA hE
  obtain ⟨its, rv, ht⟩ := get X _ σ H s xs hK I hq
  have hln := rv.length
  refine nx _ i _ A E Q' hit (ht h hl) ?_
  grind
theorem xj {K} (l it) : zU P w K (fun H xs => eB K H l xs) l it fun i h => h.IsTupleIter it l i :=
 sW (IsS := fun h its => h.IsTuple l its) (fun i h h' ⟨o, e, r⟩ k => ⟨o, k o e, r⟩) (fun i h ⟨o, e, c, d⟩ => ⟨o, e, fun v z => by rw [d] at z; cases z⟩)
  (fun X pins σ H s xs ys hK I h1 h2 => by subst hK; exact I.tuple_inj h1 h2) (fun X pins σ H s xs hK I hq => by
   subst hK
   obtain ⟨its, rv, ⟨o, e, r⟩, hz⟩ := I.tuple hq
   exact ⟨its, rv, fun h k => ⟨o, k o e, r⟩⟩) fun s i its A E Q hit hl h => jz hit hl h
theorem wK {K} (l it) : zU P w K (fun H xs => cF K H l xs) l it fun i h => h.IsListIter it l i :=
 sW (IsS := fun h its => h.IsList l its) (fun i h h' ⟨o, e, r⟩ k => ⟨o, k o e, r⟩) (fun i h ⟨o, e, c, d⟩ => ⟨o, e, fun v z => by rw [d] at z; cases z⟩)
  (fun X pins σ H s xs ys hK I h1 h2 => by subst hK; exact I.list_inj h1 h2) (fun X pins σ H s xs hK I hq => by
   subst hK
   obtain ⟨its, rv, ht, hz⟩ := I.list hq
   obtain ⟨o, e, r⟩ := ht.isList
   exact ⟨its, rv, fun h k => ⟨o, k o e, r⟩⟩) fun s i its A E Q hit hl h => by
  cases hx : its[i]? with
  | some x => rw [hx] at h; exact wpAny_nextOf_list_item hit hl hx h
  | none => rw [hx] at h; exact wpAny_nextOf_list_end h.1 hit hl hx h.2
theorem qa {P : Program} {w : World} {K : PySem.W.Frag} {elts : List Expr} {x1} {pt : Pos} {it e l : Addr} {Sq : Hp → List V → Prop} {T : Nat → Heap → Prop} (hne : e ≠ it) (k : zU P w K Sq l it T) :
 iP P w K (.Tuple elts x1 pt) (Ir Sq) [e, it] e (fun i h => T i h ∧ ∃ old, IsEnum h e it i old) where
 mem := by simp
 obj := fun i h st b hb => by
  obtain ⟨t1, old, e2⟩ := st
  rcases List.mem_cons.mp hb with z | z
  · grind
  · have z' : b = it := List.mem_singleton.mp z
    rw [z']; exact k.obj _ _ t1
 keep := fun i h h' st q => by
  obtain ⟨t1, old, e2⟩ := st
  exact ⟨k.own _ _ _ t1 fun o => q it (List.mem_cons_of_mem _ (List.mem_singleton.mpr rfl)) o, old, q e List.mem_cons_self _ e2⟩
 item := by
  intro X hP hw hK hc i pins s σ H E I hf st hg
  obtain ⟨xs, x, hq, hx⟩ := hg
  obtain ⟨t1, old, e2⟩ := st
  obtain ⟨u, ru, hn⟩ := k.nx X hK pins σ H s xs x i I hq hx
  have hTy : s.TypeIs (.ref e) "enumerate" := ⟨_, e2, rfl⟩
  unfold pyNext
  refine wpAny_bind (wpAny_attempt (wpAny_callSpecial?_slot (name := Str.ofString "__next__") hTy F.slot_enumerate_next
   (wpAny_call_entry F.slot_enumerate_next hTy F.entry_enumerate_next
    (qi (T := T (i + 1)) e2 hne (k.own _) (fun Q' h => hn _ (fun _ e => e) t1 _ _ Q' h) fun h' a b c d kp => wpAny_pure ?_) (F.args_enumerate_next_1 _))))
  refine ⟨_, rfl, wpAny_letOwnedTupleGo_enum a fun h2 a2 hs2 => ?_⟩
  have pe : s.heap.objs.size ≠ e := Nat.ne_of_gt (Heap.lt_size e2)
  have k2 : ∀ b o, b ∉ [e, it] → s.heap.get? b = some o → h2.get? b = some o := fun b o hb q => by
   have hbe : b ≠ e := fun z => hb (by simp_all)
   have hbi : b ≠ it := fun z => hb (by grind)
   exact (hs2.2 b hbe).trans (kp b o hbe hbi q)
  have I2 : Inv X pins σ H { s with heap := h2, toks := s.toks + 1 } := I.turnedL k2 hf
  have f := I.fpOk (Nat.le_refl _) (I.hok.fresh (Nat.le_refl _))
  have hpt : h2.get? s.heap.objs.size = some { cls := .type "tuple", data := .seq #[.int i s.toks, u] } := (hs2.2 _ pe).trans c
  have I3 := I2.track (o := .tup [.int i, x]) f ⟨(by show 2 ≤ sizeLine; decide), [.int i s.toks, u], .cons ⟨s.toks, rfl⟩ (.cons ru .nil), ⟨_, hpt, rfl, 0, rfl⟩⟩
  refine ⟨.ref s.heap.objs.size, _, I3, rfl, ⟨s.heap.objs.size, x, f.1, rfl, fun ys hy => by rw [k.inj X pins σ H s ys xs hK I hy hq]; exact hx, rfl⟩, ⟨k.own _ _ _ b fun o q => (hs2.2 _ (Ne.symm hne)).trans q, u, ?_⟩, fun b hb => ?_⟩
  · have a2' : IsEnum h2 e it ((i : Int) + 1) u := a2
    have ei : (((i + 1 : Nat)) : Int) = (i : Int) + 1 := by omega
    show IsEnum h2 e it (((i + 1 : Nat)) : Int) u
    rw [ei]; exact a2'
  · have hlt : b < s.heap.objs.size := by
     rcases List.mem_cons.mp hb with z | z
     · rw [z]; exact Heap.lt_size e2
     · have z' : b = it := List.mem_singleton.mp z
       rw [z']
       obtain ⟨o, q, _⟩ := k.obj _ _ t1
       exact Heap.lt_size q
    rw [ay (Nat.ne_of_lt hlt)]
    exact (hf b hb).1
 done := by
  intro X hP hw hK hc i pins s σ H E I hf st hg
  obtain ⟨xs, hq, hx⟩ := hg
  obtain ⟨t1, old, e2⟩ := st
  have hTy : s.TypeIs (.ref e) "enumerate" := ⟨_, e2, rfl⟩
  refine wpAny_bind (wpAny_attempt (wpAny_callSpecial?_slot (name := Str.ofString "__next__") hTy F.slot_enumerate_next
   (wpAny_call_entry F.slot_enumerate_next hTy F.entry_enumerate_next ?_ (F.args_enumerate_next_1 _))))
  show wpAny _ _ (field (.ref e) 2 >>= _) _ _ _
  refine wpAny_bind (wpAny_field e2 rfl (x := .ref it) rfl ?_)
  refine wpAny_bind (k.en X hK pins σ H s xs i I hq hx _ (fun _ e => e) t1 _ _ _ (I.ok.hd hc) fun h' x he' hx' => ?_)
  obtain ⟨o, ho, hc⟩ := hx'
  refine wpAny_bind (wpAny_isInstance (T := "StopIteration") (b := true) ⟨o, ho, hc⟩ isSubtype_stop ?_)
  refine wpAny_pure ⟨rfl, ?_⟩
  exact I.turnedL (t' := s.toks) (ch := [e, it]) (fun b o hb q => he' b o (fun z => hb (by grind)) q) hf
 self := fun A i s Q E st h => by
  obtain ⟨t1, old, e2⟩ := st
  exact wpAny_pyIter_enum e2 h
def vo (K : PySem.W.Frag) (b : Bool) (H : Hp) (a : Addr) (xs : List V) : Prop := if b then eB K H a xs else cF K H a xs
def Eb (b : Bool) (K : PySem.W.Frag) (ta : TA) : TI := fun σ H R => ta σ H fun vs H1 => ∃ a, vs = [.ref a] ∧ (∃ xs, vo K b H1 a xs) ∧ R (Ir fun H xs => vo K b H a xs) H1
def GA (b : Bool) (l it : Addr) (i : Nat) (h : Heap) : Prop := if b then h.IsTupleIter it l i else h.IsListIter it l i
theorem tu {P : Program} {w : World} {K : PySem.W.Frag} (b : Bool) (l it : Addr) : zU P w K (fun H xs => vo K b H l xs) l it (GA b l it) := by
 cases b
 · exact wK l it
 · exact xj l it
end
section
variable {X : Cx}
theorem wt {σ : St} {H} {s} (I : Inv X pins σ H s) : ∀ b ∈ [s.heap.objs.size + 1, s.heap.objs.size], bC X pins H b := fun b hb => by
 rcases List.mem_cons.mp hb with z | z
 · rw [z]; exact I.fpOk (Nat.le_succ _) (I.hok.fresh (Nat.le_succ _))
 · have z' := List.mem_singleton.mp z
   rw [z']; exact I.fpOk (Nat.le_refl _) (I.hok.fresh (Nat.le_refl _))
theorem wb (b : Bool) {elts : List Expr} {x1} {pt : Pos} {a : Expr} {ta : TA} {p pos : Pos} (hg : Gl X "enumerate") (hm : X.mg "enumerate" = none) (ha : PA X [a] ta) (hs : starEach [a] X.env = [(false, eval a X.env)]) :
 PI X (.Tuple elts x1 pt) (.Call (.Name "enumerate" p) [a] [] pos) (Eb b X.K ta) := by
 intro pins s σ H R I h
 refine Call_ (cz I hg hm boot_enumerate (PyProof.Rows.callWith_type1 (aU (ha pos pins s σ H _ I h) fun us s1 ⟨vs, H1, I1, r1, q1⟩ => ?_) hs rfl))
 obtain ⟨t, e, ⟨xs, hq⟩, q⟩ := q1
 subst e
 obtain ⟨u, rfl, ru⟩ := r1.one
 cases ru
 have go : ∀ h', IsEnum h' (s1.heap.objs.size + 1) s1.heap.objs.size 0 .none → GA b t s1.heap.objs.size 0 h' → (∀ b o, s1.heap.get? b = some o → h'.get? b = some o) → wpAny (model X.prog X.w) X.A (pyIter (.ref (s1.heap.objs.size + 1))) (GF X pins σ (.Tuple elts x1 pt) R) X.xe { s1 with heap := h' } := fun h' hen hit hk =>
  wpAny_pyIter_enum hen ⟨_, _, _, _, H1, rfl, I1.kept (t' := s1.toks) hk, qa (Nat.succ_ne_self _) (tu b t _), ⟨hit, _, hen⟩, wt I1, q⟩
 cases b
 · obtain ⟨its, rv, ht, hz⟩ := I1.list hq
   exact call_enumerate_list ht.isList fun h' a b _ c => go h' a b c
 · obtain ⟨its, rv, ht, hz⟩ := I1.tuple hq
   exact gy ht fun h' a b _ c => go h' a b c
end
end L2
end
section
namespace L2
open PySem PySem.Spec PyProof.Rows SeqAt
inductive T where
 | non | bl (b : Bool) | int (i : Int) | str (x : Str) | tup (xs : List T) | lst (xs : List T)
mutual
def eqT : T → T → Bool
 | .non, .non => true
 | .bl a, .bl b => a == b
 | .bl a, .int i => (if a then 1 else 0) == i
 | .int i, .bl b => i == (if b then 1 else 0)
 | .int i, .int j => i == j
 | .str a, .str b => a == b
 | .tup xs, .tup ys => A9 xs ys
 | .lst xs, .lst ys => A9 xs ys
 | _, _ => false
def A9 : List T → List T → Bool
 | [], [] => true
 | x :: xs, y :: ys => eqT x y && A9 xs ys
 | _, _ => false
end
mutual
def cS : T → Nat
 | .tup xs => cB xs + 1
 | .lst xs => cB xs + 1
 | _ => 0
def cB : List T → Nat
 | [] => 0
 | x :: xs => max (cS x) (cB xs)
end
end L2
end
section
namespace L2
structure Gw (P : Program) (w : World) (K : PySem.W.Frag) (mg : Str → Option Value) (base : Heap) (k : Nat) (x : Str) (ps : List Str) (sp : Sp) : Prop where
 ex : ∃ f fd, f7 P w K mg base nk k f fd ps sp ∧ mg x = some (.ref f) ∧ PySem.W.keepIn K (.ref f) = true ∧ Binds K fd ps []
structure Df (K : PySem.W.Frag) (mg : Str → Option Value) (x : Str) (st : Stmt) : Prop where
 ex : ∃ f fd, vG K x x st f fd ∧ mg x = some (.ref f)
section
variable {P : Program} {w : World} {K : PySem.W.Frag} {mg : Str → Option Value} {base : Heap}
theorem Df.has {st} {N ps} {k} {sp} (F : Df K mg x st) (S : cL N ps (ai st))
 (hb : ∀ (kV doc pm : Value) (an : Option _) (cdv ct : Value) (us : List _), us.length = ps.length → bindArgs (PySem.W.fnOf x x (aV st) (aF st) (ai st) .none kV doc pm an cdv ct) ⟨us, []⟩ = pure (ps.zip us))
 (len : ∀ vs H Q E, sp vs H Q E → vs.length = ps.length)
 (hbody : ∀ (f : Addr) (cdv : Value) (A : Around) (outer : List _) (s : Shared) (H : Hp) (vs : List V) (Q : VK) (E : XK), bv k (A.deeper (envOfC x (ai st) s.heap.objs.size f cdv)) → sp vs H Q E →
  ∃ t, fV (iV nk P w K mg base N x (ai st) f cdv A outer s H E).nox (aF st) t ∧ t { nx := fun _ H' => Q .non H', rt := Q } (start N vs) H) : Gw P w K mg base (k + 1) x ps sp := by
 obtain ⟨f, fd, F, m⟩ := F.ex
 exact ⟨f, fd, F.ok S len (hbody f), m, F.kp, F.binds hb⟩
end
section
variable {X : Cx} {e : Expr} {es : List Expr} {t : TA} {p pos : Pos}
theorem BV {sp} (h : Gw X.prog X.w X.K X.mg X.base k x ps sp) (hr : bv k X.A) (hg : Gl X x) (ha : PA X (e :: es) t) (hdb : (x == "__debug__") = false := by decide)
 (he : starEach (e :: es) X.env = (false, eval e X.env) :: starEach es X.env := by rfl) (hpl : (backTo pos (starEach es X.env)).any (·.1) = false := by rfl) : PE X (.Call (.Name x p) (e :: es) [] pos) (pA sp [] E0 t) := by
 obtain ⟨f, fd, F, hm, hk, hb⟩ := h.ex
 exact vP F hr hg hm hk hb .nil zA ha hdb he hpl
end
section
variable {X : Cx} {K : PySem.W.Frag}
def yz (K : PySem.W.Frag) : List V → Hp → VK → Prop := fun xs H Q => ∃ p ys, xs = [.ref p] ∧ (cF K H p ys ∨ eB K H p ys) ∧ Q (.int ys.length) H
theorem u7 (h : X.K = K) : bp X (.builtin "len") (yz K) := by subst h; exact kA
def lW (K : PySem.W.Frag) : List V → Hp → VK → Prop := fun xs H Q => ∃ p ys, xs = [.ref p] ∧ ((cF K H p ys ∧ ∀ l, H l = none → Q (.ref l) (bB H l (.tup ys))) ∨ (eB K H p ys ∧ Q (.ref p) H))
theorem qH (h : X.K = K) : bp X (.type "tuple") (lW K) := by subst h; exact iO
theorem xt (h : X.K = K) : cD X (compareOp .In) (CZ K false) := by subst h; exact qR
theorem nw (h : X.K = K) : cD X (compareOp .NotIn) (CZ K true) := by subst h; exact jV
variable {o e : Expr} {es : List Expr} {to : TE} {t : TA} {name : Str} {apos cpos : Pos} {Ty id : String} {r : V → List V → Hp → VK → Prop}
theorem vO (h : X.K = K) (pa : PlainAttrs Ty) (slot : Slot Ty name id) (hty : typeOf (.builtin id) = pure (.type "method_descriptor")) (hm : sR X id r) (ho : PE X o to)
 (hbase : attributeBase o name X.env (eval o X.env) = eval o X.env := by rfl) (hline : (apos.endLine == cpos.line) = true := by rfl) : PE X (.Call (.Attribute o name apos) [] [] cpos) (Cg K Ty r to) := by
 subst h; exact Bk pa slot hty hm ho hbase hline
theorem nH (h : X.K = K) (pa : PlainAttrs Ty) (slot : Slot Ty name id) (hty : typeOf (.builtin id) = pure (.type "method_descriptor")) (hm : sR X id r) (ho : PE X o to) (ha : PA X (e :: es) t)
 (hbase : attributeBase o name X.env (eval o X.env) = eval o X.env := by rfl)
 (hfew : ((backTo cpos (starEach (e :: es) X.env)).all (fun x => !x.1) && (backToKw cpos (keywordEach [] X.env)).all (fun x => x.1.isSome)
  && decide ((e :: es).length + ([] : List Keyword).length + (if ([] : List Keyword).isEmpty then 0 else 1) < 30)) = true := by rfl)
 (hline : (apos.endLine == cpos.line) = true := by rfl) (hs : starEach (e :: es) X.env = (false, eval e X.env) :: starEach es X.env := by rfl) (hplain : (backTo cpos (starEach es X.env)).any (·.1) = false := by rfl) :
 PE X (.Call (.Attribute o name apos) (e :: es) [] cpos) (FU K Ty r to t) := by
 subst h; exact FV pa slot hty hm ho ha hbase hfew hline hs hplain
end
end L2
end
section
namespace L2
def cP (P : Addr) : HO := .ext fun h => ∃ ps : Array Value, h.get? P = some (PySem.W.tabObj ps) ∧ TriplesOk ps.toList
theorem pP {h} {P} {ps} (e : h.get? P = some (PySem.W.tabObj ps)) (t : TriplesOk ps.toList) : bz Pg w H h P (cP P) :=
 ⟨⟨ps, e, t⟩, ⟨_, e⟩, fun h1 h2 ⟨ps, a, b⟩ k => ⟨ps, k _ a, b⟩⟩
theorem uf {o} (h : H a = some o) : bB H a o = H := by
 funext b
 unfold bB
 grind
structure Bm (mg : Str → Option Value) (base : Heap) : Prop where
 ex : ∃ bm ob, mg "__builtins__" = some (.ref bm) ∧ bm ≠ builtinsNs ∧ base.get? bm = some ob ∧ ob.cls = .type "module" ∧ ob.dict = some builtinsNs ∧ ob.data = .plain
section
variable {X : Cx} {pins : List (Addr × Obj)} {σ : St} {H : Hp} {s : Shared}
theorem Inv.grown (I : Inv X pins σ H s) {P} {ps} {h'} {tk} (hP : H P = some (cP P)) (k : ∀ b o, b ≠ P → s.heap.get? b = some o → h'.get? b = some o) (e : h'.get? P = some (PySem.W.tabObj ps)) (t : TriplesOk ps.toList) :
 Inv X pins σ H { s with heap := h', toks := tk } := by
 have z := I.write (t' := tk) (by rw [hP]; trivial) (.inl rfl) k ⟨_, e⟩ (pP e t)
 rw [uf hP] at z
 exact z
theorem Inv.gens (I : Inv X pins σ H s) {s'} (hh : s'.heap = s.heap) (ho : s'.os = s.os) (hb : AllBare s'.gens) (hz : s.gens.size ≤ s'.gens.size) : Inv X pins σ H s' :=
 I.call' (ch := []) ⟨ho, hz⟩ (by rw [hh]; exact Un.refl) (by rw [hh]; exact I.hok) hb fun b hb => absurd hb (by simp)
theorem cZ (hb : AllBare s.gens) (hx : x.bare = true) : AllBare (s.setGen g x).gens := by
 intro y hy
 obtain ⟨i, hi, rfl⟩ := Array.mem_iff_getElem.mp hy
 by_cases e : i = g
 · subst e
   simp [Shared.setGen, hx]
 · have hs := by simpa [Shared.setGen] using hi
   have q : (s.setGen g x).gens[i]? = s.gens[i]? := by simp [Shared.setGen, Ne.symm e]
   rw [Array.getElem?_eq_getElem hi, Array.getElem?_eq_getElem hs] at q
   rw [Option.some.inj q]
   exact hb _ (Array.getElem_mem hs)
theorem cX : (s.setGen g x).gens.size = s.gens.size := by simp [Shared.setGen]
theorem uz {Q} {c P} {pos} {q} {sc} (I : Inv X pins σ H s) (hc : X.env.code = .ref c) (hd : PySem.W.CodeHd X.base c P) (ht : H P = some (cP P))
 (hQ : ∀ code h' tk, Inv X pins σ H { s with heap := h', toks := tk } → (∀ b o, b ≠ P → s.heap.get? b = some o → h'.get? b = some o) → Q code { s with heap := h', toks := tk }) : wpAny M A (genexprCode X.env pos q sc) Q E s := by
 obtain ⟨⟨ps, e, t⟩, _, _⟩ := I.hok P _ ht
 have hd' := hd.keeps I.bk
 cases hf : codeAmong _ _ with
 | some cv => exact wpAny_genexprCode_hit hc (hd'.code e t) hf (hQ cv _ _ I fun _ _ _ e => e)
 | none =>
  refine wpAny_genexprCodeX hc (hd'.code e t) (hd'.tab e) hf fun c' h' tk hx _ _ hcode _ htab _ => ?_
  obtain ⟨_, _, _, _, _, _, _, _, _, op, _, _, _, _, _, _, _, hop, hpd, htr, _⟩ := hcode
  exact hQ _ h' tk (I.grown ht (fun b o hb e => hx b o hb e) htab.2 htr) fun b o hb e => hx b o hb e
theorem xz {Q} (I : Inv X pins σ H s) (B : Bm X.mg X.base) (h : Q builtinsNs s) : wpAny M A (builtinsFor X.env.globals X.env.builtins) Q E s := by
 obtain ⟨bm, ob, e1, e2, e3, e4, e5, e6⟩ := B.ex
 rw [I.ok.glob]
 exact wpAny_builtinsFor (I.mod.glob.keeps I.bk) e1 e2 (I.bk _ _ e3) e4 e5 e6 h
end
def rH (X : Cx) (N' : List Str) (elt : Expr) (gs : List Comprehension) (scope : Scope) (pos : Pos) (cl : List (Str × Addr)) (C : Addr) (code : Value) (it : Addr) (ex : List Addr) (s : Shared) (H : Hp) : Cx where
 prog := X.prog
 w := X.w
 K := X.K
 mg := X.mg
 base := X.base
 A := X.A.in1.in1.over (.compLoop (.GeneratorExp elt gs scope pos) 0 (.ref it) .none (genEnv scope cl C code builtinsNs X.env)) []
 N := N'
 s₀ := s
 H₀ := H
 env := genEnv scope cl C code builtinsNs X.env
 outer := X.stack
 stack := genEnv scope cl C code builtinsNs X.env :: X.stack
 ex := ex
 fn := fun _ => false
 calm := X.calm
 pn := []
 xe := fun _ _ => False
section
variable {X : Cx} {pins : List (Addr × Obj)} {σ : St} {H H' : Hp} {s : Shared}
theorem xV (I : Inv X pins σ H s) {elt : Expr} {gs : List Comprehension} {scope : Scope} {pos : Pos} {N' : List Str} {ix : List (Option Nat)} {cl : List (Str × Addr)} {ex : List Addr} {code : Value} {it : Addr} {h' : Heap} {tk : Nat} {g' : Array GenState} (hok : aO X.env.scope X.N scope N' ix = true)
 (hc1 : ∀ x c, cl.lookup x = some c → X.env.cells.lookup x = some c) (hc2 : ∀ x, (x, NameKind.free) ∈ scope.names → (cl.lookup x).isSome = true) (hex : ∀ b ∈ ex, bC X pins H b ∧ b < s.heap.objs.size)
 {mC : Str → Option Value} (hns : h'.Ns s.heap.objs.size mC) (old : ∀ b o, s.heap.get? b = some o → h'.get? b = some o) (hg : AllBare g') :
 Inv (rH X N' elt gs scope pos cl s.heap.objs.size code it ex { s with gens := g' } H) [] (aY ix σ) H { s with heap := h', gens := g', toks := tk } := by
 obtain ⟨hk, _, nocell⟩ := cu hok
 refine ⟨⟨I.ok.mod, hk, I.ok.glob, rfl, Nat.le_refl _, fun x y c e1 e2 => I.ok.inj x y c (hc1 x c e1) (hc1 y c e2), fun x hx => ?_, fun x c z => (nomatch z), I.ok.hd, ?_, .inr ⟨rfl, rfl⟩, fun b hb => ?_, I.bs, Nat.le_trans I.ok.bsz I.sz, fun b o e hb => ?_, fun b hb => I.off (hex b hb).1, I.stack, I.stkFree⟩,
  ⟨rfl, Nat.le_refl _⟩, hg, Un.kept old, ⟨_, hns, fun i x v e1 e2 e3 => ?_⟩, fun x c e => ?_, I.hok.fresh (Nat.le_refl _), fun x c e => I.freeC x c (hc1 x c e), fun p hp => (nomatch hp), I.hok.kept old, ?_⟩
 · refine Option.isSome_iff_exists.mp (hc2 x ?_)
   rcases hx with z | z
   · exact absurd rfl (nocell _ (PySem.mem_of_lookup (show scope.names.lookup x = some .cell from z)))
   · exact PySem.mem_of_lookup (show scope.names.lookup x = some .free from z)
 · show pushEnvs [_] X.A.frames = _
   rw [I.ok.frames]
   rfl
 · exact ⟨Nat.ne_of_lt (hex b hb).2, fun x c e => (hex b hb).1.2.2.2.2.1 x c (hc1 x c e)⟩
 · rcases (hex b hb).1.2.2.2.1 with z | z
   · exact I.ok.noex b o e z
   · exact absurd (Nat.lt_of_lt_of_le (Nat.lt_of_lt_of_le (Heap.lt_size e) I.ok.bsz) z) (Nat.lt_irrefl _)
 · obtain ⟨u, r, hf, c, hc, z⟩ := lc I hok hc1 hc2 old e1 e2
   exact ⟨u, r, .inr ⟨.inr hf, c, hc, z⟩⟩
 · obtain ⟨v, o, ho', hd⟩ := I.cell x c (hc1 x c e)
   exact ⟨v, o, old _ o ho', hd⟩
 · unfold aO at hok
   rw [cY]
   exact c9 (Bool.and_eq_true_iff.mp hok).2
end
section
variable {Xc : Cx} {pg : List (Addr × Obj)} {σc : St} {d : Bool} {Q : VK} {J : It} {fp : List Addr} {it : Addr} {tn : Nat → Heap → Prop} {elt target iter : Expr} {ifs : List Expr} {scope : Scope} {pos : Pos} {g : TG} {tt : TT} {te : TE} {A1 : Around}
 {W : Nat → Nat → Hp → Prop}
theorem qE (T : iP Xc.prog Xc.w Xc.K target J fp it tn) {n} {s s₀} {R} {Y} (st : tn 0 s.heap)
 (loop : Seg (model Xc.prog Xc.w) A1 R Y n s₀ (.compLoop (.GeneratorExp elt [⟨target, iter, ifs, 0⟩] scope pos) 0 (.ref it) .none Xc.env)
  ((model Xc.prog Xc.w).den (.compLoop (.GeneratorExp elt [⟨target, iter, ifs, 0⟩] scope pos) 0 (.ref it) .none Xc.env)) [] s) :
 Seg (model Xc.prog Xc.w) A1 R Y n s₀ (.compStart (.GeneratorExp elt [⟨target, iter, ifs, 0⟩] scope pos) 0 (.ref it) .none Xc.env)
  ((model Xc.prog Xc.w).den (.compStart (.GeneratorExp elt [⟨target, iter, ifs, 0⟩] scope pos) 0 (.ref it) .none Xc.env)) [] s := by
 show Seg _ A1 _ _ _ _ _ ((compStart _ 0 _ _ _).onRaise _) [] s
 rw [Sem.onRaise_eq_wrap]
 refine seg_bind_wrap (wpAny_askSetting ?_)
 split
 · exact seg_again rfl loop
 · first
    | exact seg_bind_wrap (wpAny_rule (seg_bind_wrap (wpAny_standAt (seg_bind_wrap (T.self _ 0 s _ _ st (seg_again rfl loop))))))
end
structure Tb (K : PySem.W.Frag) (mg : Str → Option Value) (base : Heap) (x : Str) (P : Addr) : Prop where
 ex : ∃ c, PySem.W.tabIn K x = some (c, P) ∧ PySem.W.CodeHd base c P
 kb : K.In base
 nb : base.Ns mainGlobals mg
 bm : Bm mg base
section
variable {Pg : Program} {w : World} {K : PySem.W.Frag} {mg : Str → Option Value} {base : Heap}
theorem Df.hasT {st} {N ps} {k} {sp} {P} (F : Df K mg x st) (T : Tb K mg base x P) (S : cL N ps (ai st))
 (hb : ∀ (kV doc pm : Value) (an : Option _) (cdv ct : Value) (us : List _), us.length = ps.length → bindArgs (PySem.W.fnOf x x (aV st) (aF st) (ai st) .none kV doc pm an cdv ct) ⟨us, []⟩ = pure (ps.zip us))
 (len : ∀ vs H Q E, sp vs H Q E → vs.length = ps.length)
 (hbody : ∀ (f c : Addr) (A : Around) (outer : List _) (s : Shared) (H : Hp) (vs : List V) (Q : VK) (E : XK), PySem.W.CodeHd base c P → Bm mg base → bv k (A.deeper (envOfC x (ai st) s.heap.objs.size f (.ref c))) → sp vs H Q E →
  ∃ t, fV (iV nk Pg w K mg base N x (ai st) f (.ref c) A outer s H E).nox (aF st) t ∧ t { nx := fun _ H' => Q .non H', rt := Q } (start N vs) H) : Gw Pg w K mg base (k + 1) x ps sp := by
 obtain ⟨f, fd, F, m⟩ := F.ex
 obtain ⟨c, ht, hcd⟩ := T.ex
 obtain ⟨oc, od, kV, doc, pm, an, cdv, ct, osl, e, lk, hcd'⟩ := id F.ex
 have hcode := PySem.W.law_code T.kb T.nb ht m (T.kb _ _ lk) rfl
 have hcv : cdv = .ref c := by simp_all
 subst hcv
 refine ⟨f, fd, ?_, m, F.kp, F.binds hb⟩
 rw [e] at lk ⊢
 refine yT lk hcd' S len fun A outer s H vs Q E hr hsp => ?_
 obtain ⟨t, h, q⟩ := hbody f c A _ s H vs Q E hcd T.bm hr hsp
 exact ⟨t, h.nox, q⟩
end
theorem qK {P : Program} {w : World} {K : PySem.W.Frag} {mg mb : Str → Option Value} {k : Nat} {fa a : Addr} {fd : FuncData} {x : Str} {sp : Sp} {s₁ : Shared} {vs : List Value} {ns : List Int} {tabs : List (Addr × Addr)}
 (KX : K.In s₁.heap) (hns : s₁.heap.Ns mainGlobals mg) (hb : s₁.heap.Ns builtinsNs mb) (hbb : ∀ x : Str, x ≠ "__name__" → mb x = bootBuiltins x) (hlim : s₁.heap.NoLimit) (hbm : Bm mg s₁.heap) (hg : s₁.gens = #[])
 (ha : s₁.heap.get? a = some { cls := .type "list", data := .seq vs.toArray }) (hi : IntsAre vs ns) (hl : ns.length ≤ sizeLine) (hr : bv k callerA) (hT : PySem.W.TabsAt tabs s₁.heap) (hnt : PySem.W.noTabs K = true)
 (F : ∀ base : Heap, K.In base → base.Ns mainGlobals mg → Bm mg base → (∀ q ∈ tabs, PySem.W.CodeHd base q.1 q.2) → f7 P w K mg base nk k fa fd [x] sp) (hbind : ∀ (s : Shared) (u : Value), BindsTo s fd ⟨[u], []⟩ [(x, u)])
 (hsp : ∀ H : Hp, cF K H a (ns.map V.int) → (∀ q ∈ tabs, H q.2 = some (cP q.2)) → sp [.ref a] H (fun v H' => v = .bl true ∧ ∀ q ∈ tabs, H' q.2 = some (cP q.2)) fun _ _ _ => False) :
 codeAny (model P w) callerA (.call (.ref fa) ⟨[.ref a], []⟩) (fun r s' => r = .ok (.ret (.bool true)) ∧ OldK s₁.heap s'.heap ∧ s'.os = s₁.os ∧ AllBare s'.gens) s₁ := by
 have rv := dX hi
 have lenV := hi.length
 have tabObj_at : ∀ b ∈ tabs.map (·.2), s₁.heap.get? b = some (PySem.W.tabObj #[]) := fun b hb => by
  obtain ⟨q, hq, rfl⟩ := List.mem_map.mp hb
  exact (hT q hq).2
 have aNot : a ∉ tabs.map (·.2) := fun hb => by
  have e := tabObj_at a hb
  rw [ha] at e
  cases e
 have wa : ∀ b o, K.lookup b = some o → b ∉ tabs.map (·.2) := fun b o e hb => by
  have e1 := tabObj_at b hb
  rw [KX b o e] at e1
  cases e1
  have h2 := List.all_eq_true.mp hnt (b, _) (PySem.W.mem_of_lookupK e)
  exact absurd (show false = true from h2) Bool.false_ne_true
 have core : ∀ H : Hp, (∀ b, b ∉ tabs.map (·.2) → H b = none ∨ (b = a ∧ K.lookup a = none ∧ ∃ o xs, H b = some (.frz o (.lst xs)))) → (∀ b ∈ tabs.map (·.2), H b = some (cP b)) → cF K H a (ns.map V.int) → gh P w H s₁.heap →
  codeAny (model P w) callerA (.call (.ref fa) ⟨[.ref a], []⟩) (fun r s' => r = .ok (.ret (.bool true)) ∧ OldK s₁.heap s'.heap ∧ s'.os = s₁.os ∧ AllBare s'.gens) s₁ := by
  intro H hO hB hS hok
  have base_of : ∀ {b : Addr} {o : Obj}, s₁.heap.get? b = some o → H b = none → (ik s₁.heap H).get? b = some o := fun e n => sv e n
  have free_of : ∀ {b : Addr} {o : Obj}, s₁.heap.get? b = some o → o ≠ PySem.W.tabObj #[] → o ≠ { cls := .type "list", data := .seq vs.toArray } → H b = none := fun {b o} e n1 n2 => by
   by_cases hb : b ∈ tabs.map (·.2)
   · have := tabObj_at b hb
     rw [e] at this
     exact absurd (Option.some.inj this) n1
   · rcases hO b hb with z | ⟨z, _, _⟩
     · exact z
     · rw [z, ha] at e
       exact absurd (Option.some.inj e).symm n2
  have nsK : ∀ {b : Addr} {m : Str → Option Value}, s₁.heap.Ns b m → (ik s₁.heap H).Ns b m := fun {b m} ⟨o, es, ep, e, d, r⟩ => ⟨o, es, ep, base_of e (free_of e (fun z => by rw [z] at d; cases d) (fun z => by rw [z] at d; cases d)), d, r⟩
  have hKb : K.In (ik s₁.heap H) := fun b o e => base_of (KX b o e) (by
   rcases hO b (wa b o e) with z | ⟨z, z2, _⟩
   · exact z
   · rw [z, z2] at e; cases e)
  have hM : Mod K mg (ik s₁.heap H) := ⟨hKb, nsK hns, ⟨mb, nsK hb, hbb⟩, let ⟨mc, h1, h2⟩ := hlim; ⟨mc, nsK h1, h2⟩⟩
  have hbmB : Bm mg (ik s₁.heap H) := by
   obtain ⟨bm, ob, e1, e2, e3, e4, e5, e6⟩ := hbm.ex
   exact ⟨bm, ob, e1, e2, base_of e3 (free_of e3 (fun z => by rw [z] at e4; cases e4) (fun z => by rw [z] at e4; injection e4 with e; exact absurd e (by decide))), e4, e5, e6⟩
  have hcdB : ∀ q ∈ tabs, PySem.W.CodeHd (ik s₁.heap H) q.1 q.2 := fun q hq => by
   obtain ⟨o, vs', file, tf, flags, tg, inF, text, tt, e1, r1, r⟩ := (hT q hq).1
   exact ⟨o, vs', file, tf, flags, tg, inF, text, tt, base_of e1 (free_of e1 (fun z => by rw [z] at r1; cases r1) (fun z => by rw [z] at r1; injection r1 with e; exact absurd e (by decide))), r1, r⟩
  have e0 : wX P w K mg (ik s₁.heap H) callerA [] s₁ H := ⟨rfl, hM, fun b o e => vQ e, Nat.le_of_eq (qV _ _), trivial, fun b hb => absurd (show b ∈ ([] : List Addr) from hb) (by simp), hok, .of_eq hg⟩
  refine codeAny_mono ((F _ hKb (nsK hns) hbmB hcdB).run callerA [] s₁ H ⟨[.ref a], []⟩ [.ref a] [.ref a] _ _ hr e0 (hbind s₁ (.ref a)) (.cons rfl .nil) (hsp H hS fun q hq => hB _ (List.mem_map_of_mem hq))) fun r s' h => ?_
  cases r with
  | error e => exact False.elim h
  | ok fl =>
   cases fl with
   | next => exact False.elim h
   | brk => exact False.elim h
   | cont => exact False.elim h
   | ret u =>
    obtain ⟨v, H', os, bare, un, hok', r', q', qt⟩ := h
    subst q'
    obtain rfl : u = Value.bool true := r'
    have kept : ∀ b o, b ∉ tabs.map (·.2) → s₁.heap.get? b = some o → s'.heap.get? b = some o := fun b o hb e => by
     rcases hO b hb with z | ⟨_, _, ob, xs, z⟩
     · exact un.keep b o e z (by intro z; exact absurd (show b ∈ ([] : List Addr) from z) (by simp)) (by simp)
     · have z2 := un.frzs b ob _ z
       obtain ⟨e1, _⟩ := hok b _ z
       obtain ⟨e2, _⟩ := hok' b _ z2
       rw [e] at e1; cases e1
       exact e2
    have grown : ∀ b ∈ tabs.map (·.2), ∃ ps, s'.heap.get? b = some (PySem.W.tabObj ps) := fun b hb => by
     obtain ⟨q, hq, rfl⟩ := List.mem_map.mp hb
     obtain ⟨⟨ps, e, _⟩, _⟩ := hok' _ _ (qt q hq)
     exact ⟨ps, e⟩
    refine ⟨rfl, ⟨fun b o e => ?_, fun b o e => ?_⟩, os.1, bare⟩
    · by_cases hb : b ∈ tabs.map (·.2)
      · have e1 := tabObj_at b hb
        rw [e] at e1
        cases e1
        obtain ⟨ps, e2⟩ := grown b hb
        obtain ⟨q, hq, rfl⟩ := List.mem_map.mp hb
        exact .inr (.inl ⟨((hT q hq).1.tab (hT q hq).2).isCodeTable, rfl, #[], ps, rfl, by rw [Array.empty_append]; exact e2⟩)
      · exact .inl (kept b o hb e)
    · by_cases hb : b ∈ tabs.map (·.2)
      · obtain ⟨ps, e2⟩ := grown b hb
        exact ⟨_, e2⟩
      · exact ⟨o, kept b o hb e⟩
 have tabOk : ∀ {H : Hp} {b : Addr}, b ∈ tabs.map (·.2) → bz P w H s₁.heap b (cP b) := fun {H b} hb => pP (tabObj_at b hb) trivial
 cases hk : K.lookup a with
 | some o =>
  have e := KX a o hk
  rw [ha] at e
  cases e
  refine core (fun b => if b ∈ tabs.map (·.2) then some (cP b) else none) (fun b hb => .inl (if_neg hb)) (fun b hb => if_pos hb) (.inr ⟨_, vs.toArray, _, hk, rfl, rfl, rfl, by rw [List.size_toArray, lenV]; exact hl, by simpa using rv⟩) (fun b u z => ?_)
  by_cases hb : b ∈ tabs.map (·.2)
  · have z' := (if_pos hb).symm.trans z
    cases z'
    exact tabOk hb
  · have z' := (if_neg hb).symm.trans z
    cases z'
 | none =>
  refine core (fun b => if b ∈ tabs.map (·.2) then some (cP b) else if b = a then some (.frz { cls := .type "list", data := .seq vs.toArray } (.lst (ns.map V.int))) else none) (fun b hb => ?_) (fun b hb => if_pos hb) (.inl (.inr ⟨{ cls := .type "list", data := .seq vs.toArray }, (if_neg aNot).trans (if_pos rfl)⟩)) (fun b u z => ?_)
  · by_cases e : b = a
    · exact .inr ⟨e, hk, _, _, (if_neg hb).trans (if_pos e)⟩
    · exact .inl ((if_neg hb).trans (if_neg e))
  · by_cases hb : b ∈ tabs.map (·.2)
    · have z' := (if_pos hb).symm.trans z
      cases z'
      exact tabOk hb
    · have z1 := (if_neg hb).symm.trans z
      by_cases e : b = a
      · have z' := (if_pos e).symm.trans z1
        cases z'
        subst e
        exact ⟨ha, by rw [List.length_map]; exact hl, vs, _, rv, ha⟩
      · have z' := (if_neg e).symm.trans z1
        cases z'
theorem uN {l : PySem.W.OpenLaw} {n k} {q} {loose} {XP} {YP} {d} {K : Params → PySem.W.Frag} {x}
 (hn : l.most = some n) (hn2 : n ≤ sizeLine) (hdf : d.params.defaults = []) (hr : bv k callerA)
 (hY : ∀ (w : World) (h : Heap), YP w h → (K w.params).In h) (hnt : ∀ w : World, PySem.W.noTabs (K w.params) = true)
 (F : ∀ (w : World) (mg mb : Str → Option _) (fa : Addr) (h : Heap) (s₀ : Shared), PySem.W.Ground q loose [] XP w s₀ mg mb h → (K w.params).In h → h.Ns mainGlobals mg → mg d.name = some (.ref fa) →
  ∃ (fd : FuncData) (tabs : List _) (sp : Sp), (∀ (s : Shared) (u : Value), BindsTo s fd ⟨[u], []⟩ [(x, u)]) ∧ PySem.W.TabsAt tabs h ∧
   (∀ base, (K w.params).In base → base.Ns mainGlobals mg → Bm mg base → (∀ q ∈ tabs, PySem.W.CodeHd base q.1 q.2) → f7 l.prog w (K w.params) mg base nk k fa fd [x] sp) ∧
   ∀ (H : Hp) (a : Addr) (ns : List _), ns.length ≤ n → cF (K w.params) H a (ns.map V.int) → (∀ q ∈ tabs, H q.2 = some (cP q.2)) → sp [.ref a] H (fun v H' => v = .bl true ∧ ∀ q ∈ tabs, H' q.2 = some (cP q.2)) fun _ _ _ => False) :
 PySem.W.WalkO q loose XP YP l.row.toRowW d [] fun f vs => PySem.call f vs := by
 refine Att.l7 hn hdf fun w s₀ s₁ mg mb fa o pm cd doc a vs ns G Y ho hd hcd hmg hobj hints hlen hg => ?_
 have KX := hY w _ Y
 obtain ⟨fd, tabs, sp, hb, hT, hF, hsp⟩ := F w mg mb fa _ _ G KX G.T.g hmg
 have hbm : Bm mg _ := let ⟨bm, ob, e1, e2, e3, e4, e5, e6⟩ := G.T.bmain; ⟨bm, ob, e1, e2, e3, e4, e5, e6⟩
 exact qK KX G.T.g G.T.b G.T.builtins G.T.nolimit hbm hg hobj hints (Nat.le_trans hlen hn2) hr hT (hnt w) hF hb fun H hS hTb => hsp H a ns hlen hS hTb
def JX (h : Heap) (x C : Addr) : Option Addr → Prop
 | none => ∃ oe vs, h.get? x = some oe ∧ oe.cls = .ref C ∧ oe.data = .fields vs ∧ vs[1]? = some .none
 | some T => ∃ oe vs oT ts, h.get? x = some oe ∧ oe.cls = .ref C ∧ oe.data = .fields vs ∧ vs[1]? = some (.ref T) ∧ T ≠ x ∧ h.get? T = some oT ∧ oT.data = .fields ts ∧ ts[3]? = some .none
structure Fl (h0 : Heap) (H : Hp) (h : Heap) (x C : Addr) : Prop where
 ex : ∃ T, JX h x C T ∧ H x = none ∧ h0.get? x = none ∧ ∀ t, T = some t → H t = none ∧ h0.get? t = none
end L2
end
section
namespace L2
open PySem PySem.Spec PyProof.Rows SeqAt
section
variable {X : Cx} {K : PySem.W.Frag}
def rG (K : PySem.W.Frag) : List V → Hp → VK → Prop := fun xs H Q => ∃ (p : Addr) (bs : List Bool), xs = [.ref p] ∧ cF K H p (bs.map V.bl) ∧ Q (.bl (bs.all id)) H
theorem tX {bs : List _} {us} (h : am (bs.map V.bl) us) : us = bs.map Value.bool := by
 induction bs generalizing us with
 | nil => cases h; rfl
 | cons b bs ih =>
  cases h with
  | cons a r => rw [ih r]; cases a; rfl
theorem ju (bs : List _) : (List.range bs.length).all (fun i => bs.getD i false) = bs.all id := by
 induction bs with
 | nil => rfl
 | cons b bs ih =>
  rw [List.length_cons, List.range_succ_eq_map, List.all_cons, List.all_map, List.all_cons, ← ih]
  rfl
theorem iU (hc : X.calm = true) : bp X (.builtin "all") (rG X.K) := by
 intro pins s σ H xs us Q I r h
 obtain ⟨p, bs, rfl, hq, q⟩ := h
 obtain ⟨u, rfl, rx⟩ := vals1 r
 cases rx
 obtain ⟨its, r', pl, hz⟩ := I.list hq
 obtain rfl := tX r'
 have hl := pl.isList
 refine call_all_walk (wpAny_pyIter_list hl ?_)
 have ho : p < s.heap.objs.size := by obtain ⟨o, e, _⟩ := hl; exact Heap.lt_size e
 have hh : X.A.in1.handled = none := I.ok.hd hc
 refine ⟨_, _, _, _, _, _, fun i => bs.getD i false, rfl, Walks.list hh _ p (Nat.ne_of_lt ho) _, ⟨⟨_, Heap.get?_push_size _ rfl, rfl, rfl⟩, hl.push _⟩, ?_, ?_⟩
 · intro i v s' Q' E hP hQ
   have e : v = Value.bool (bs.getD i false) := by
    cases hb : bs[i]? with
    | none => simp_all
    | some b =>
     simp_all
   subst e
   exact wpAny_of_eq rfl hQ
 · intro h' tk hk
   have e : (List.range (bs.map Value.bool).toArray.size).all (fun i => bs.getD i false) = bs.all id := by
    rw [List.size_toArray, List.length_map]
    exact ju bs
   rw [e]
   refine ⟨.bl _, H, ?_, rfl, q⟩
   exact I.kept fun b u e => hk b u (fun z => absurd (Heap.lt_size e) (by simp_all)) (Heap.get?_push_of_some _ e)
theorem Ho (h : X.K = K) (hc : X.calm = true) : bp X (.builtin "all") (rG K) := by subst h; exact iU hc
theorem f8 : fillsNumberSlot (.type "tuple") "mul" = pure false := rfl
theorem jZ : seqRepeat? (.type "tuple") = pure (some (.builtin "tuple.__mul__")) := rfl
theorem gQ (a : Int) (t : Tok) (l : Addr) (items : Array _) (n : Nat) (dd : Option _) (sl : Array _) :
 Meets (Builtin.«int.__rmul__» ⟨[.int a t, .ref l], []⟩) fun _ R s => s.heap.get? l = some { cls := .type "tuple", dict := dd, data := .seq items n, slots := sl } ∧ R (.ok (.ret Value.notImplemented)) s :=
 .of_wp fun prog w A R s h => by obtain ⟨hl, h⟩ := h; wp_walk; exact ⟨_, rfl, h⟩
theorem nA (l : Addr) (items : Array _) (n : Nat) (dd : Option _) (sl : Array _) (u : Tok) :
 Meets (Builtin.«tuple.__mul__» ⟨[.ref l, .int 1 u], []⟩) fun _ R s => s.heap.get? l = some { cls := .type "tuple", dict := dd, data := .seq items n, slots := sl } ∧ R (.ok (.ret (.ref l))) s :=
 .of_wp fun prog w A R s h => by
  obtain ⟨hl, h⟩ := h; wp_walk using AutoSeq1.wpAny_loadPart' hl; exact ⟨_, rfl, h⟩
theorem nM (l : Addr) (v : Value) (n : Nat) (dd : Option _) (sl : Array _) (u : Tok) :
 Meets (Builtin.«tuple.__mul__» ⟨[.ref l, .int 0 u], []⟩) fun _ R s => s.heap.get? l = some { cls := .type "tuple", dict := dd, data := .seq #[v] n, slots := sl } ∧ R (.ok (.ret (.ref s.heap.objs.size))) { s with heap := s.heap.push { cls := .type "tuple", data := .seq #[] } } :=
 .of_wp fun prog w A R s h => by
  obtain ⟨hl, h⟩ := h; wp_walk using AutoSeq1.wpAny_loadPart' hl; exact ⟨_, rfl, h⟩
theorem mI (l : Addr) (items : Array _) (n : Nat) (dd : Option _) (sl : Array _) (x : Int) (u : Tok) (c0 : ¬(decide (x < -2 ^ 63) || decide (x ≥ 2 ^ 63)) = true) (c1 : ¬(items.isEmpty || x == 1) = true) (c2 : ¬(decide (x ≤ 0) || items.isEmpty) = true)
 (c3 : ¬items.size * x > (2 ^ 63 - 1) / 8) (c4 : ¬Builtin.Tuple.tupleTooMany (items.size * x) = true) (hsz : ¬ ((List.replicate x.toNat items).foldl (· ++ ·) #[]).size > sizeLine) :
 Meets (Builtin.«tuple.__mul__» ⟨[.ref l, .int x u], []⟩) fun _ R s => s.heap.get? l = some { cls := .type "tuple", dict := dd, data := .seq items n, slots := sl } ∧ R (.ok (.ret (.ref s.heap.objs.size))) { s with heap := s.heap.push { cls := .type "tuple", data := .seq ((List.replicate x.toNat items).foldl (· ++ ·) #[]) } } :=
 .of_wp fun prog w A R s h => by
  obtain ⟨hl, h⟩ := h; refine wpAny_ite_false (decide_eq_false c0) ?_; wp_walk using AutoSeq1.wpAny_loadPart' hl; refine wpAny_ite_false (decide_eq_false c3) ?_; wp_walk; exact ⟨_, rfl, h⟩
end
end L2
end
section
namespace L2
structure Ap (z TI TO i1 i2 : Addr) : Prop where
 TIz : TI ≠ z
 TOz : TO ≠ z
 i1z : i1 ≠ z
 i2z : i2 ≠ z
 TITO : TI ≠ TO
 TIi1 : TI ≠ i1
 TIi2 : TI ≠ i2
 TOi1 : TO ≠ i1
 TOi2 : TO ≠ i2
 i12 : i1 ≠ i2
section
variable {prog : Program} {w : World} {A : Around} {E : Value → Shared → Prop} {s : Shared}
def Co (z TO i1 i2 : Addr) (h h' : Heap) : Prop := ∀ c o, c ≠ z → c ≠ TO → c ≠ i1 → c ≠ i2 → h.get? c = some o → h'.get? c = some o
theorem lr {z TI TO i1 i2 : Addr} {a b : Value} {T1 T2 : Heap → Prop} {P1 P2 : Value → Heap → Prop} {EN : Prop} {Q : Fin → Shared → Prop} (D : Ap z TI TO i1 i2)
 (hz : IsZip s.heap z TI TO .none) (hTI : IsPair s.heap TI (.ref i1) (.ref i2)) (hTO : IsPair s.heap TO a b) (t1 : T1 s.heap) (t2 : T2 s.heap) (f1 : qh i1 T1) (f1' : ∀ x, qh i1 (P1 x)) (f2 : qh i2 T2) (f2' : ∀ y, qh i2 (P2 y))
 (n1 : ∀ h, Co z TO i1 i2 s.heap h → T1 h → ∀ (E' Q' : Value → Shared → Prop), (EN → ∀ h' e, Heap.ExtBut i1 h h' → (∃ o, h'.get? e = some o ∧ o.cls = .type "StopIteration") → E' (.ref e) { s with heap := h' }) → (∀ x h', P1 x h' → Heap.SameBut i1 h h' → Q' x { s with heap := h' }) → wpAny (model prog w) A (Builtin.SmallTypes.nextOf (.ref i1)) Q' E' { s with heap := h })
 (n2 : ∀ x h1, P1 x h1 → ∀ h, Co z TO i1 i2 s.heap h → T2 h → ∀ (E' Q' : Value → Shared → Prop), (EN → ∀ h' e, Heap.ExtBut i2 h h' → (∃ o, h'.get? e = some o ∧ o.cls = .type "StopIteration") → E' (.ref e) { s with heap := h' }) → (∀ y h', P2 y h' → Heap.SameBut i2 h h' → Q' y { s with heap := h' }) → wpAny (model prog w) A (Builtin.SmallTypes.nextOf (.ref i2)) Q' E' { s with heap := h })
 (hQ : ∀ x y h', IsZip h' z TI TO (rawInt s.heap.objs.size) → IsPair h' TI (.ref i1) (.ref i2) → IsPair h' TO x y → P1 x h' → P2 y h' → IsPair h' s.heap.objs.size x y → h'.objs.size = s.heap.objs.size + 1 → Co z TO i1 i2 s.heap h' → Q (.done (.ret (.ref s.heap.objs.size))) { s with heap := h' })
 (hE : EN → ∀ h' e, Co z TO i1 i2 s.heap h' → (∃ o, h'.get? e = some o ∧ o.cls = .type "StopIteration") → E (.ref e) { s with heap := h' }) :
 wpAny (model prog w) A (Builtin.«zip.__next__» ⟨[.ref z], []⟩) Q E s := by
 show wpAny _ _ (field (.ref z) 2 >>= _) _ _ _
 refine wpAny_bind (wpAny_field hz rfl (x := .bool false) rfl ?_)
 show wpAny _ _ (field (.ref z) 3 >>= _) _ _ _
 refine wpAny_bind (wpAny_field hz rfl (x := .ref TI) rfl ?_)
 refine wpAny_bind (wpAny_seqItems hTI rfl ?_)
 show wpAny _ _ (Builtin.SmallTypes.ownedTupleIsFree (.ref z) >>= _) _ _ _
 refine wpAny_bind ?_
 unfold Builtin.SmallTypes.ownedTupleIsFree
 refine wpAny_bind (wpAny_field hz rfl (x := .none) rfl (wpAny_pure ?_))
 simp only [if_true]
 refine wpAny_bind (wpAny_rule ?_)
 refine wpAny_bind (wpAny_field hz rfl (x := .ref TO) rfl ?_)
 refine wpAny_bind (wpAny_setField_rec hz (by simp) fun h₁ hz₁ hs₁ => ?_)
 replace hz₁ : IsZip h₁ z TI TO .ellipsis := hz₁
 refine wpAny_bind ?_
 simp only [List.zipIdx_cons, List.zipIdx_nil, List.forIn_cons, List.forIn_nil]
 have g1 : Co z TO i1 i2 s.heap h₁ := fun c o c1 _ _ _ e => hs₁.extBut _ _ c1 e
 refine wpAny_bind (wpAny_bind (wpAny_onRaise ?_))
 show wpAny _ _ (Builtin.SmallTypes.nextOf (.ref i1) >>= _) _ _ _
 refine wpAny_bind (n1 h₁ g1 (f1 _ _ t1 fun o e => hs₁.extBut _ _ D.i1z e) _ _ (fun en h₂ e hs₂ he => ?_) fun x h₂ h1₂ hs₂ => wpAny_pure ?_)
 · obtain ⟨oe, hoe, hce⟩ := he
   have hz₂ : IsZip h₂ z TI TO .ellipsis := hs₂ _ _ D.i1z.symm hz₁
   have hez : e ≠ z := fun x => by subst x; rw [hz₂] at hoe; cases hoe; simp at hce
   exact wpAny_setField_rec hz₂ (by simp) fun h₃ _ hs₃ => hE en h₃ e (fun c o c1 c2 c3 c4 x => hs₃.extBut _ _ c1 (hs₂ _ _ c3 (g1 c o c1 c2 c3 c4 x))) ⟨oe, hs₃.extBut _ _ hez hoe, hce⟩
 have hTO₂ : IsPair h₂ TO a b := hs₂.extBut _ _ D.TOi1 (hs₁.extBut _ _ D.TOz hTO)
 refine wpAny_bind (wpAny_seqItems hTO₂ rfl ?_)
 refine wpAny_bind (wpAny_updateSeq_pair hTO₂ fun h₃ hTO₃ hs₃ => ?_)
 replace hTO₃ : IsPair h₃ TO x b := hTO₃
 refine wpAny_bind (wpAny_letGo (wpAny_pure ?_))
 have g3 : Co z TO i1 i2 s.heap h₃ := fun c o c1 c2 c3 c4 e => hs₃.extBut _ _ c2 (hs₂.extBut _ _ c3 (g1 c o c1 c2 c3 c4 e))
 refine wpAny_bind (wpAny_bind (wpAny_onRaise ?_))
 show wpAny _ _ (Builtin.SmallTypes.nextOf (.ref i2) >>= _) _ _ _
 refine wpAny_bind (n2 _ _ h1₂ h₃ g3 (f2 _ _ t2 fun o e => hs₃.extBut _ _ D.TOi2.symm (hs₂.extBut _ _ D.i12.symm (hs₁.extBut _ _ D.i2z e))) _ _ (fun en h₄ e hs₄ he => ?_) fun y h₄ h2₄ hs₄ => wpAny_pure ?_)
 · obtain ⟨oe, hoe, hce⟩ := he
   have hz₄ : IsZip h₄ z TI TO .ellipsis := hs₄ _ _ D.i2z.symm (hs₃.extBut _ _ D.TOz.symm (hs₂.extBut _ _ D.i1z.symm hz₁))
   have hez : e ≠ z := fun x => by subst x; rw [hz₄] at hoe; cases hoe; simp at hce
   exact wpAny_setField_rec hz₄ (by simp) fun h₅ _ hs₅ => hE en h₅ e (fun c o c1 c2 c3 c4 x => hs₅.extBut _ _ c1 (hs₄ _ _ c4 (g3 c o c1 c2 c3 c4 x))) ⟨oe, hs₅.extBut _ _ hez hoe, hce⟩
 have hTO₄ : IsPair h₄ TO x b := hs₄.extBut _ _ D.TOi2 hTO₃
 refine wpAny_bind (wpAny_seqItems hTO₄ rfl ?_)
 refine wpAny_bind (wpAny_updateSeq_pair hTO₄ fun h₅ hTO₅ hs₅ => ?_)
 replace hTO₅ : IsPair h₅ TO x y := hTO₅
 refine wpAny_bind (wpAny_letGo (wpAny_pure (wpAny_pure ?_)))
 refine wpAny_bind (wpAny_seqItems hTO₅ rfl ?_)
 refine wpAny_bind (wpAny_newTuple ?_)
 have hsz : h₅.objs.size = s.heap.objs.size := by rw [hs₅.1, hs₄.1, hs₃.1, hs₂.1, hs₁.1]
 have hz₅ : IsZip h₅ z TI TO .ellipsis := hs₅.extBut _ _ D.TOz.symm (hs₄.extBut _ _ D.i2z.symm (hs₃.extBut _ _ D.TOz.symm (hs₂.extBut _ _ D.i1z.symm hz₁)))
 have g5 : Co z TO i1 i2 s.heap h₅ := fun c o c1 c2 c3 c4 e => hs₅.extBut _ _ c2 (hs₄.extBut _ _ c4 (g3 c o c1 c2 c3 c4 e))
 have h1₅ : P1 x h₅ := f1' _ _ _ h1₂ fun o e => hs₅.extBut _ _ D.TOi1.symm (hs₄.extBut _ _ D.i12 (hs₃.extBut _ _ D.TOi1.symm e))
 have h2₅ : P2 y h₅ := f2' _ _ _ h2₄ fun o e => hs₅.extBut _ _ D.TOi2.symm e
 have hzlt : z < h₅.objs.size := Heap.lt_size hz₅
 show wpAny _ _ (Builtin.SmallTypes.ownedTupleHandOut (.ref z) (.ref h₅.objs.size) >>= _) _ _ _
 refine wpAny_bind ?_
 unfold Builtin.SmallTypes.ownedTupleHandOut
 have hz₆ : IsZip (h₅.push { cls := .type "tuple", data := .seq #[x, y] }) z TI TO .ellipsis := Heap.get?_push_of_some _ hz₅
 refine wpAny_bind (wpAny_setField_rec hz₆ (by simp) fun h₇ hz₇ hs₇ => ?_)
 replace hz₇ : IsZip h₇ z TI TO (rawInt h₅.objs.size) := hz₇
 refine wpAny_setField_rec hz₇ (by simp) fun h₈ hz₈ hs₈ => ?_
 replace hz₈ : IsZip h₈ z TI TO (rawInt h₅.objs.size) := hz₈
 have up : ∀ c o, c ≠ z → h₅.get? c = some o → h₈.get? c = some o := fun c o c1 e => hs₈.extBut _ _ c1 (hs₇.extBut _ _ c1 (Heap.get?_push_of_some _ e))
 have hT₈ : IsPair h₈ h₅.objs.size x y := hs₈.extBut _ _ (Nat.ne_of_gt hzlt) (hs₇.extBut _ _ (Nat.ne_of_gt hzlt) (Heap.get?_push_size _ rfl))
 have hz8 : h₈.objs.size = h₅.objs.size + 1 := by rw [hs₈.1, hs₇.1, Heap.size_push]
 rw [hsz] at hz₈ hT₈ hz8
 refine wpAny_pure ?_
 show Q (.done (.ret (.ref h₅.objs.size))) _
 rw [hsz]
 exact hQ _ _ h₈ hz₈ (up _ _ D.TIz (g5 _ _ D.TIz D.TITO D.TIi1 D.TIi2 hTI)) (up _ _ D.TOz hTO₅) (f1' _ _ _ h1₅ fun o e => up _ o D.i1z e) (f2' _ _ _ h2₅ fun o e => up _ o D.i2z e) hT₈ hz8 fun c o c1 c2 c3 c4 e => up c o c1 (g5 c o c1 c2 c3 c4 e)
end
def GS (S1 S2 : Hp → List V → Prop) : It := ⟨fun i H => ∃ xs x ys y, S1 H xs ∧ xs[i]? = some x ∧ S2 H ys ∧ ys[i]? = some y,
 fun i H v H' => ∃ p x y, H p = none ∧ v = .ref p ∧ (∀ xs, S1 H xs → xs[i]? = some x) ∧ (∀ ys, S2 H ys → ys[i]? = some y) ∧ H' = bB H p (.tup [x, y]),
 fun i H => ∃ xs ys, S1 H xs ∧ S2 H ys ∧ (xs.length ≤ i ∨ ys.length ≤ i)⟩
theorem vA {P : Program} {w : World} {K : PySem.W.Frag} {elts : List Expr} {x1} {pt : Pos} {z TI TO i1 i2 l1 l2 : Addr} {S1 S2 : Hp → List V → Prop} {T1 T2 : Nat → Heap → Prop} (D : Ap z TI TO i1 i2)
 (k1 : zU P w K S1 l1 i1 T1) (k2 : zU P w K S2 l2 i2 T2) (a1 : l1 ≠ z ∧ l1 ≠ TO ∧ l1 ≠ i1 ∧ l1 ≠ i2) (a2 : l2 ≠ z ∧ l2 ≠ TO ∧ l2 ≠ i1 ∧ l2 ≠ i2) :
 iP P w K (.Tuple elts x1 pt) (GS S1 S2) [z, TI, TO, i1, i2] z (fun i h => T1 i h ∧ T2 i h ∧ IsZip h z TI TO .none ∧ IsPair h TI (.ref i1) (.ref i2) ∧ ∃ a b, IsPair h TO a b) where
 mem := by simp
 obj := fun i h st b hb => by
  obtain ⟨t1, t2, hz, hTI, u, v, hTO⟩ := st
  simp only [List.mem_cons, List.not_mem_nil, or_false] at hb
  rcases hb with e | e | e | e | e
  · simp_all
  · simp_all
  · simp_all
  · rw [e]; exact k1.obj _ _ t1
  · rw [e]; exact k2.obj _ _ t2
 keep := fun i h h' st k => by
  obtain ⟨t1, t2, hz, hTI, u, v, hTO⟩ := st
  exact ⟨k1.own i _ _ t1 fun o q => k i1 (by simp) o q, k2.own i _ _ t2 fun o q => k i2 (by simp) o q, k z (by simp) _ hz, k TI (by simp) _ hTI, u, v, k TO (by simp) _ hTO⟩
 item := by
  intro X hP hw hK hc i pins s σ H E I hf st hg
  obtain ⟨xs, x, ys, y, q1, hx, q2, hy⟩ := hg
  obtain ⟨t1, t2, hz, hTI, u, v, hTO⟩ := st
  obtain ⟨u1, r1, n1⟩ := k1.nx X hK pins σ H s xs x i I q1 hx
  obtain ⟨u2, r2, n2⟩ := k2.nx X hK pins σ H s ys y i I q2 hy
  have hT : s.TypeIs (.ref z) "zip" := ⟨_, hz, rfl⟩
  unfold pyNext
  refine wpAny_bind (wpAny_attempt (wpAny_callSpecial?_slot (name := Str.ofString "__next__") hT F.slot_zip_next
   (wpAny_call_entry F.slot_zip_next hT F.entry_zip_next
    (lr (T1 := T1 i) (T2 := T2 i) (P1 := fun x h => u1 = x ∧ T1 (i + 1) h) (P2 := fun x h => u2 = x ∧ T2 (i + 1) h) (EN := False) D hz hTI hTO t1 t2 (k1.own i) (fun x h h' t q => ⟨t.1, k1.own _ _ _ t.2 q⟩) (k2.own i) (fun x h h' t q => ⟨t.1, k2.own _ _ _ t.2 q⟩)
     (fun h g t E' Q' _ hQ => n1 h (fun o e => g _ o a1.1 a1.2.1 a1.2.2.1 a1.2.2.2 e) t _ _ _ fun h' t => hQ _ h' ⟨rfl, t⟩) (fun _ _ _ h g t E' Q' _ hQ => n2 h (fun o e => g _ o a2.1 a2.2.1 a2.2.2.1 a2.2.2.2 e) t _ _ _ fun h' t => hQ _ h' ⟨rfl, t⟩)
     (fun w1 w2 h' b1 b2 b3 ⟨e4, b4⟩ ⟨e5, b5⟩ b6 b7 b8 => ⟨_, rfl, wpAny_pure ?_⟩) nofun) (F.args_zip_next_1 _))))
  subst e4 e5
  refine ⟨_, rfl, wpAny_letOwnedTupleGo_zip b1 fun h2 c2 hs2 => ?_⟩
  have pz : s.heap.objs.size ≠ z := Nat.ne_of_gt (Heap.lt_size hz)
  have k2' : ∀ b o, b ∉ [z, TI, TO, i1, i2] → s.heap.get? b = some o → h2.get? b = some o := fun b o hb q => by
   simp only [List.mem_cons, List.not_mem_nil, or_false, not_or] at hb
   exact (hs2.2 b hb.1).trans (b8 b o hb.1 hb.2.2.1 hb.2.2.2.1 hb.2.2.2.2 q)
  have I2 : Inv X pins σ H { s with heap := h2, toks := s.toks } := I.turnedL k2' hf
  have f := I.fpOk (Nat.le_refl _) (I.hok.fresh (Nat.le_refl _))
  have hpt : h2.get? s.heap.objs.size = some { cls := .type "tuple", data := .seq #[u1, u2] } := (hs2.2 _ pz).trans b6
  have I3 := I2.track (o := .tup [x, y]) f ⟨(by show 2 ≤ sizeLine; decide), [u1, u2], .cons r1 (.cons r2 .nil), ⟨_, hpt, rfl, 0, rfl⟩⟩
  have up : ∀ c, c ≠ z → ∀ o, h'.get? c = some o → h2.get? c = some o := fun c hc o e => (hs2.2 c hc).trans e
  refine ⟨.ref s.heap.objs.size, _, I3, rfl, ⟨s.heap.objs.size, x, y, f.1, rfl, fun zs hy' => by rw [k1.inj X pins σ H s zs xs hK I hy' q1]; exact hx, fun zs hy' => by rw [k2.inj X pins σ H s zs ys hK I hy' q2]; exact hy, rfl⟩,
   ⟨k1.own _ _ _ b4 (up _ D.i1z), k2.own _ _ _ b5 (up _ D.i2z), c2, up _ D.TIz _ b2, _, _, up _ D.TOz _ b3⟩, fun b hb => ?_⟩
  have hlt : b < s.heap.objs.size := by
   simp only [List.mem_cons, List.not_mem_nil, or_false] at hb
   rcases hb with e | e | e | e | e
   · rw [e]; exact Heap.lt_size hz
   · rw [e]; exact Heap.lt_size hTI
   · rw [e]; exact Heap.lt_size hTO
   · rw [e]; obtain ⟨o, q, _⟩ := k1.obj _ _ t1; exact Heap.lt_size q
   · rw [e]; obtain ⟨o, q, _⟩ := k2.obj _ _ t2; exact Heap.lt_size q
  rw [ay (Nat.ne_of_lt hlt)]
  exact (hf b hb).1
 done := by
  intro X hP hw hK hc i pins s σ H E I hf st hg
  obtain ⟨xs, ys, q1, q2, hend⟩ := hg
  obtain ⟨t1, t2, hz, hTI, u, v, hTO⟩ := st
  have hT : s.TypeIs (.ref z) "zip" := ⟨_, hz, rfl⟩
  unfold pyNext
  refine wpAny_bind (wpAny_attempt (wpAny_callSpecial?_slot (name := Str.ofString "__next__") hT F.slot_zip_next
   (wpAny_call_entry F.slot_zip_next hT F.entry_zip_next (lr (T1 := T1 i) (T2 := T2 i) (P1 := fun _ _ => ys.length ≤ i) (P2 := fun _ _ => False) (EN := True) D hz hTI hTO t1 t2 (k1.own i) (fun _ _ _ h _ => h) (k2.own i) (fun _ _ _ h _ => h) (fun h g t E' Q' hE hI => ?_)
    (fun _ _ h2 h3 g3 t3 E' Q' hE3 _ => k2.en X hK pins σ H s ys i I q2 h2 h3 (fun o e => g3 _ o a2.1 a2.2.1 a2.2.2.1 a2.2.2.2 e) t3 _ _ _ (I.ok.hd hc) (hE3 trivial)) (fun _ _ _ _ _ _ _ h => h.elim) fun _ h' e g he => ?_) (F.args_zip_next_1 _))))
  · by_cases h1 : xs.length ≤ i
    · exact k1.en X hK pins σ H s xs i I q1 h1 h (fun o e => g _ o a1.1 a1.2.1 a1.2.2.1 a1.2.2.2 e) t _ _ _ (I.ok.hd hc) (hE trivial)
    · have h2 : ys.length ≤ i := by simp_all
      obtain ⟨u1, r1, n1⟩ := k1.nx X hK pins σ H s xs (xs[i]'(by omega)) i I q1 (List.getElem?_eq_getElem (by omega))
      exact n1 h (fun o e => g _ o a1.1 a1.2.1 a1.2.2.1 a1.2.2.2 e) t _ _ _ fun h' _ sb => hI _ h' h2 sb
  · obtain ⟨o, ho, hc'⟩ := he
    refine wpAny_bind (wpAny_isInstance (T := "StopIteration") (b := true) ⟨o, ho, hc'⟩ isSubtype_stop ?_)
    refine wpAny_pure ⟨rfl, ?_⟩
    exact I.turnedL (t' := s.toks) (ch := [z, TI, TO, i1, i2]) (fun b o hb q => by
     simp only [List.mem_cons, List.not_mem_nil, or_false, not_or] at hb
     exact g b o hb.1 hb.2.2.1 hb.2.2.2.1 hb.2.2.2.2 q) hf
 self := fun A i s Q E st h => by
  obtain ⟨t1, t2, hz, _⟩ := st
  exact wpAny_pyIter_zip hz h
abbrev GM (h : Heap) (l1 : Addr) : Heap := h.push { cls := .type "tuple_iterator", data := .fields #[.ref l1, .int 0 0] }
abbrev Hh (h : Heap) (l1 l2 : Addr) : Heap := (GM h l1).push { cls := .type "tuple_iterator", data := .fields #[.ref l2, .int 0 0] }
abbrev IS (h : Heap) (l1 l2 : Addr) : Heap := (Hh h l1 l2).push { cls := .type "tuple", data := .seq #[.ref h.objs.size, .ref (GM h l1).objs.size] }
abbrev IN (h : Heap) (l1 l2 : Addr) : Heap := (IS h l1 l2).push { cls := .type "tuple", data := .seq #[.none, .none] }
abbrev Ch (h : Heap) (l1 l2 : Addr) : Heap := (IN h l1 l2).push { cls := .type "zip", data := .fields #[.none, .bool false, .bool false, .ref (Hh h l1 l2).objs.size, .ref (IS h l1 l2).objs.size] }
theorem jR {h : Heap} {a} {items} (x : h.IsTuple a items) (o : Obj) : (h.push o).IsTuple a items := by
 obtain ⟨o', e, r⟩ := x
 exact ⟨o', Heap.get?_push_of_some _ e, r⟩
theorem gY (l1 l2 : Addr) (xs ys : Array Value) :
 Meets (Builtin.«zip.__new__» ⟨[.type "zip", .ref l1, .ref l2], []⟩) (fun _ R s => s.heap.IsTuple l1 xs ∧ s.heap.IsTuple l2 ys ∧
  R (.ok (.ret (.ref (IN s.heap l1 l2).objs.size))) { s with heap := Ch s.heap l1 l2 }) :=
 .of_wp fun prog w A R s h => by
  obtain ⟨hp, g, d, tk, os⟩ := s; obtain ⟨hl1, hl2, h⟩ := h
  have hsub := sub_zip
  have hL1 := hl1
  have hL2 : Heap.IsTuple (Shared.heap ⟨hp.push { cls := .type "tuple_iterator", data := .fields #[.ref l1, .int 0 0] }, g, d, tk, os⟩) l2 ys := jR hl2 _
  wp_walk using wpAny_pyIter_tuple hL1, wpAny_pyIter_tuple hL2
  exact ⟨_, rfl, h⟩
section
variable {prog : Program} {w : World} {A : Around} {E : Value → Shared → Prop} {s : Shared}
theorem qA {l1 l2 : Addr} {xs ys : Array Value} {Q : Value → Shared → Prop} (hl1 : s.heap.IsTuple l1 xs) (hl2 : s.heap.IsTuple l2 ys)
 (h : ∀ h', IsZip h' (s.heap.objs.size + 4) (s.heap.objs.size + 2) (s.heap.objs.size + 3) .none → IsPair h' (s.heap.objs.size + 2) (.ref s.heap.objs.size) (.ref (s.heap.objs.size + 1)) →
  IsPair h' (s.heap.objs.size + 3) .none .none → h'.IsTupleIter s.heap.objs.size l1 0 → h'.IsTupleIter (s.heap.objs.size + 1) l2 0 → h'.objs.size = s.heap.objs.size + 5 →
  (∀ c o, s.heap.get? c = some o → h'.get? c = some o) → Q (.ref (s.heap.objs.size + 4)) { s with heap := h' }) :
 wpAny (model prog w) A (call (.type "zip") [.ref l1, .ref l2]) Q E s := by
 refine callType_new F.called_zip (by decide) (F.typeCall_zip_2 _ _) (F.newCall_zip_2 _ _) (fun obj => F.args_object_init_3 obj _ _) F.entry_zip_new
  (gY l1 l2 xs ys) ⟨hl1, hl2, ?_⟩
 have z1 : (GM s.heap l1).objs.size = s.heap.objs.size + 1 := Heap.size_push ..
 have z2 : (Hh s.heap l1 l2).objs.size = s.heap.objs.size + 2 := by rw [Heap.size_push, z1]
 have z3 : (IS s.heap l1 l2).objs.size = s.heap.objs.size + 3 := by rw [Heap.size_push, z2]
 have z4 : (IN s.heap l1 l2).objs.size = s.heap.objs.size + 4 := by rw [Heap.size_push, z3]
 have z5 : (Ch s.heap l1 l2).objs.size = s.heap.objs.size + 5 := by rw [Heap.size_push, z4]
 have g5 : (Ch s.heap l1 l2).get? _ = some _ := Heap.get?_push_size _ rfl
 have g4 : (Ch s.heap l1 l2).get? _ = some _ := Heap.get?_push_of_some _ (Heap.get?_push_size _ rfl)
 have g3 : (Ch s.heap l1 l2).get? _ = some _ := Heap.get?_push_of_some _ (Heap.get?_push_of_some _ (Heap.get?_push_size _ rfl))
 have g2 : (Ch s.heap l1 l2).get? _ = some _ := Heap.get?_push_of_some _ (Heap.get?_push_of_some _ (Heap.get?_push_of_some _ (Heap.get?_push_size _ rfl)))
 have g1 : (Ch s.heap l1 l2).get? _ = some _ := Heap.get?_push_of_some _ (Heap.get?_push_of_some _ (Heap.get?_push_of_some _ (Heap.get?_push_of_some _ (Heap.get?_push_size _ rfl))))
 rw [z2, z3, z4] at g5
 rw [z1, z2] at g3
 rw [z3] at g4
 rw [z1] at g2
 rw [z4]
 exact ⟨⟨_, g5, rfl⟩, h _ g5 g3 g4 ⟨_, g1, rfl, rfl⟩ ⟨_, g2, rfl, rfl⟩ z5 fun c o x =>
  Heap.get?_push_of_some _ (Heap.get?_push_of_some _ (Heap.get?_push_of_some _ (Heap.get?_push_of_some _ (Heap.get?_push_of_some _ x))))⟩
end
theorem CB (n : Addr) : Ap (n + 4) (n + 2) (n + 3) n (n + 1) where
 TIz := Nat.ne_of_lt (Nat.add_lt_add_left (by decide) n)
 TOz := Nat.ne_of_lt (Nat.add_lt_add_left (by decide) n)
 i1z := Nat.ne_of_lt (Nat.lt_add_of_pos_right (by decide))
 i2z := Nat.ne_of_lt (Nat.add_lt_add_left (by decide) n)
 TITO := Nat.ne_of_lt (Nat.add_lt_add_left (by decide) n)
 TIi1 := Nat.ne_of_gt (Nat.lt_add_of_pos_right (by decide))
 TIi2 := Nat.ne_of_gt (Nat.add_lt_add_left (by decide) n)
 TOi1 := Nat.ne_of_gt (Nat.lt_add_of_pos_right (by decide))
 TOi2 := Nat.ne_of_gt (Nat.add_lt_add_left (by decide) n)
 i12 := Nat.ne_of_lt (Nat.lt_add_of_pos_right (by decide))
theorem jc {n l : Addr} (h : l < n) : l ≠ n + 4 ∧ l ≠ n + 3 ∧ l ≠ n ∧ l ≠ n + 1 :=
 ⟨Nat.ne_of_lt (Nat.lt_of_lt_of_le h (Nat.le_add_right n 4)), Nat.ne_of_lt (Nat.lt_of_lt_of_le h (Nat.le_add_right n 3)), Nat.ne_of_lt h, Nat.ne_of_lt (Nat.lt_of_lt_of_le h (Nat.le_add_right n 1))⟩
def Hv (b : Bool) (K : PySem.W.Frag) (ta : TA) : TI := fun σ H R => ta σ H fun vs H1 => ∃ a c, vs = [.ref a, .ref c] ∧ (∃ xs, vo K b H1 a xs) ∧ (∃ ys, vo K b H1 c ys) ∧ R (GS (fun H xs => vo K b H a xs) (fun H ys => vo K b H c ys)) H1
section
variable {X : Cx}
theorem boot_zip : bootBuiltins "zip" = some (.type "zip") := rfl
theorem BC {σ : St} {H} {s} (I : Inv X pins σ H s) : ∀ b ∈ [s.heap.objs.size + 4, s.heap.objs.size + 2, s.heap.objs.size + 3, s.heap.objs.size, s.heap.objs.size + 1], bC X pins H b := fun b hb => by
 have hle : s.heap.objs.size ≤ b := by
  simp only [List.mem_cons] at hb
  rcases hb with e | e | e | e | e
  · simp_all
  · simp_all
  · simp_all
  · simp_all
  simp_all
 exact I.fpOk hle (I.hok.fresh hle)
theorem Cf (k : Bool) {elts : List Expr} {x1} {pt : Pos} {a b : Expr} {ta : TA} {p pos : Pos} (hg : Gl X "zip") (hm : X.mg "zip" = none) (ha : PA X [a, b] ta) (hs : starEach [a, b] X.env = (false, eval a X.env) :: starEach [b] X.env) (hpl : (backTo pos (starEach [b] X.env)).any (·.1) = false) :
 PI X (.Tuple elts x1 pt) (.Call (.Name "zip" p) [a, b] [] pos) (Hv k X.K ta) := by
 intro pins s σ H R I h
 refine Call_ (cz I hg hm boot_zip (PyProof.Rows.callWith_type1 (aU (ha pos pins s σ H _ I h) fun us s1 ⟨vs, H1, I1, r1, q1⟩ => ?_) hs hpl))
 obtain ⟨t1, t2, e, ⟨xs, hq1⟩, ⟨ys, hq2⟩, q⟩ := q1
 subst e
 obtain ⟨u1, u2, rfl, ru1, ru2⟩ := vals2 r1
 cases ru1
 cases ru2
 have go : t1 < s1.heap.objs.size → t2 < s1.heap.objs.size → ∀ h', IsZip h' (s1.heap.objs.size + 4) (s1.heap.objs.size + 2) (s1.heap.objs.size + 3) .none → IsPair h' (s1.heap.objs.size + 2) (.ref s1.heap.objs.size) (.ref (s1.heap.objs.size + 1)) → IsPair h' (s1.heap.objs.size + 3) .none .none →
  GA k t1 s1.heap.objs.size 0 h' → GA k t2 (s1.heap.objs.size + 1) 0 h' → (∀ c o, s1.heap.get? c = some o → h'.get? c = some o) → wpAny (model X.prog X.w) X.A (pyIter (.ref (s1.heap.objs.size + 4))) (GF X pins σ (.Tuple elts x1 pt) R) X.xe { s1 with heap := h' } := fun lt1 lt2 h' hz hTI hTO hi1 hi2 hk =>
  wpAny_pyIter_zip hz ⟨_, _, _, _, H1, rfl, I1.kept (t' := s1.toks) hk, vA (CB _) (tu k t1 _) (tu k t2 _) (jc lt1) (jc lt2), ⟨hi1, hi2, hz, hTI, _, _, hTO⟩, BC I1, q⟩
 cases k
 · obtain ⟨its1, rv1, ht1, hz1⟩ := I1.list hq1
   obtain ⟨its2, rv2, ht2, hz2⟩ := I1.list hq2
   exact call_zip_2 ht1.isList ht2.isList fun h' a b c d e _ g => go (by obtain ⟨o, e, _⟩ := ht1.isList; exact Heap.lt_size e) (by obtain ⟨o, e, _⟩ := ht2.isList; exact Heap.lt_size e) h' a b c d e g
 · obtain ⟨its1, rv1, ht1, hz1⟩ := I1.tuple hq1
   obtain ⟨its2, rv2, ht2, hz2⟩ := I1.tuple hq2
   exact qA ht1 ht2 fun h' a b c d e _ g => go ht1.lt ht2.lt h' a b c d e g
end
theorem oD {K} {pos} {es} {k} {t} {n} (hK : X.K = K) (hc : X.calm = true) (h : CJ X es t)
 (hn : (assignEach es X.env).length = n := by rfl) (hst : (assignEach es X.env).findIdx? (·.1) = none := by rfl) : PG X (.Tuple es k pos) (F1 K n t) := by
 subst hK
 exact Ah hc h hn hst
section
variable {X : Cx} {C : Addr} {pins : List (Addr × Obj)} {σ : St} {H : Hp} {s : Shared} {Q : VK} {x m : Str} {p pos apos : Pos} {e o : Expr} {es : List Expr} {ta : TE} {t : TA}
structure HA (P : Program) (w : World) (K : PySem.W.Frag) (mg : Str → Option Value) (base : Heap) (k : Nat) (C : Addr) (m : Str) (ps : List Str) (sp : Sp) : Prop where
 ex : ∃ f fd, f7 P w K mg base nk k f fd ps sp ∧ Dx K C m f ∧ Binds K fd ps []
end
structure Jk (K : PySem.W.Frag) (C : Addr) (m qual : Str) (st : Stmt) : Prop where
 ex : ∃ f fd, vG K m qual st f fd ∧ Dx K C m f
section
variable {P : Program} {w : World} {K : PySem.W.Frag} {mg : Str → Option Value} {base : Heap}
theorem Jk.has {st} {N ps} {k} {sp} (F : Jk K C m qual st) (S : cL N ps (ai st))
 (hb : ∀ (kV doc pm : Value) (an : Option _) (cdv ct : Value) (us : List _), us.length = ps.length → bindArgs (PySem.W.fnOf m qual (aV st) (aF st) (ai st) .none kV doc pm an cdv ct) ⟨us, []⟩ = pure (ps.zip us))
 (len : ∀ vs H Q E, sp vs H Q E → vs.length = ps.length)
 (hbody : ∀ (f : Addr) (cdv : Value) (A : Around) (outer : List _) (s : Shared) (H : Hp) (vs : List V) (Q : VK) (E : XK), bv k (A.deeper (envOfC qual (ai st) s.heap.objs.size f cdv)) → sp vs H Q E →
  ∃ t, fV (iV nk P w K mg base N qual (ai st) f cdv A outer s H E).nox (aF st) t ∧ t { nx := fun _ H' => Q .non H', rt := Q } (start N vs) H) : HA P w K mg base (k + 1) C m ps sp := by
 obtain ⟨f, fd, F, m⟩ := F.ex
 exact ⟨f, fd, F.ok S len (hbody f), m, F.binds hb⟩
end
def ui (K : PySem.W.Frag) : R2 := fun x y H Q => ∃ l b xs zs, x = .ref l ∧ y = .ref b ∧ cF K H l xs ∧ cF K H b zs ∧ xs.length + zs.length ≤ sizeLine ∧ ∀ p, H p = none → Q (.ref p) (bB H p (.lst (xs ++ zs)))
section
variable {X : Cx}
theorem wy : cD X (binaryOp .Add) (ui X.K) := by
 intro pins s σ H x y v u Q I rx ry h
 obtain ⟨l, b, xs, zs, rfl, rfl, hH, hB, hz, q⟩ := h
 cases rx
 cases ry
 obtain ⟨its, r, ⟨⟨c1, d1, t1, s1⟩, n1, e1, k1, k2, k3⟩, _⟩ := I.list hH
 obtain ⟨its2, r2, ⟨⟨c2, d2, t2, s2⟩, n2, e2, j1, j2, j3⟩, _⟩ := I.list hB
 subst k1 k2 k3 j1 j2 j3
 have l1 := r.length
 have l2 := r2.length
 have e : its.toArray ++ its2.toArray = (its ++ its2).toArray := by simp
 refine concat_meets ⟨_, e1, rfl⟩ ⟨_, e2, rfl⟩ noFill_list_add seq_list_add PySem.F.slot_list_add PySem.F.entry_list_add (PySem.F.args_list_add_2 _ _) (list_addW l b _ _ n1 n2 _ _ s1 s2 (by simp; omega)) ⟨e1, e2, ?_⟩
 rw [e]
 exact ⟨.ref _, _, I.lnew (r.append r2) (by simp_all), rfl, q _ I.fresh⟩
theorem C7 {K} (h : X.K = K) : cD X (binaryOp .Add) (ui K) := by subst h; exact wy
end
end L2
end
section
namespace L2
open PySem PySem.Spec PyProof.Rows SeqAt
def TupAt (K : PySem.W.Frag) (L : Addr → Prop) (H : Hp) (a : Addr) (xs : List V) : Prop :=
 (Rd H a (.tup xs) ∧ ¬ L a) ∨
  ∃ (o : Obj) (its : Array Value) (n : Nat), K.lookup a = some o ∧ o.cls = .type "tuple" ∧ o.data = .seq its n ∧ its.size ≤ sizeLine ∧ am xs its.toList
def LstAt (K : PySem.W.Frag) (L : Addr → Prop) (H : Hp) (a : Addr) (xs : List V) : Prop :=
 (Rd H a (.lst xs) ∧ ¬ L a) ∨
  ∃ (o : Obj) (its : Array Value) (n : Nat), K.lookup a = some o ∧ o.cls = .type "list" ∧ o.dict = none ∧ o.data = .seq its n ∧ its.size ≤ sizeLine ∧ am xs its.toList
theorem TupAt.sq {K} {L} {H} {a} {xs} (h : TupAt K L H a xs) : eB K H a xs := h.elim (fun x => .inl x.1) .inr
theorem LstAt.sq {K} {L} {H} {a} {xs} (h : LstAt K L H a xs) : cF K H a xs := h.elim (fun x => .inl x.1) .inr
structure gI (L : Addr → Prop) (H : Hp) (L' : Addr → Prop) (H' : Hp) : Prop where
 keep : ∀ a o, ¬ L a → H a = some o → H' a = some o
 new : ∀ a, L' a → L a ∨ H a = none
theorem gI.refl (L : Addr → Prop) (H : Hp) : gI L H L H := ⟨fun _ _ _ h => h, fun _ h => .inl h⟩
theorem gI.trans {H H1 H2} (a : gI L H L1 H1) (b : gI L1 H1 L2 H2) : gI L H L2 H2 :=
 ⟨fun x o n h => b.keep x o (fun z => (a.new x z).elim n fun q => by rw [h] at q; cases q) (a.keep x o n h), fun x z => (b.new x z).elim (a.new x) fun q => by
  by_cases hx : L x
  · exact .inl hx
  · right
    cases e : H x with
    | none => rfl
    | some o => rw [a.keep x o hx e] at q; cases q⟩
theorem gI.fresh {H} {p} {o} (h : H p = none) : gI L H L (bB H p o) :=
 ⟨fun a u _ e => by rw [ay (aR e h)]; exact e, fun _ z => .inl z⟩
theorem Rd.step {H H'} {a} {u} (s : gI L H L' H') (r : Rd H a u) (n : ¬ L a) : Rd H' a u ∧ ¬ L' a := by
 rcases r with r | ⟨o, r⟩
 · exact ⟨.inl (s.keep a _ n r), fun z => (s.new a z).elim n fun q => by rw [r] at q; cases q⟩
 · exact ⟨.inr ⟨o, s.keep a _ n r⟩, fun z => (s.new a z).elim n fun q => by rw [r] at q; cases q⟩
mutual
def Rp (K : PySem.W.Frag) (L : Addr → Prop) (H : Hp) : T → V → Prop
 | .non, v => v = .non
 | .bl b, v => v = .bl b
 | .int i, v => v = .int i
 | .str x, v => v = .str x
 | .tup xs, v => ∃ a vs, v = .ref a ∧ TupAt K L H a vs ∧ aA K L H xs vs
 | .lst xs, v => ∃ a vs, v = .ref a ∧ LstAt K L H a vs ∧ aA K L H xs vs
def aA (K : PySem.W.Frag) (L : Addr → Prop) (H : Hp) : List T → List V → Prop
 | [], vs => vs = []
 | x :: xs, vs => ∃ v r, vs = v :: r ∧ Rp K L H x v ∧ aA K L H xs r
end
section
variable {K : PySem.W.Frag} {L L' : Addr → Prop} {H H' : Hp}
theorem TupAt.step (s : gI L H L' H') {a} {xs} (h : TupAt K L H a xs) : TupAt K L' H' a xs := h.elim (fun x => .inl (x.1.step s x.2)) .inr
theorem LstAt.step (s : gI L H L' H') {a} {xs} (h : LstAt K L H a xs) : LstAt K L' H' a xs := h.elim (fun x => .inl (x.1.step s x.2)) .inr
mutual
theorem Rp.step (s : gI L H L' H') : ∀ {t} {v}, Rp K L H t v → Rp K L' H' t v
 | .non, _, r => r
 | .bl _, _, r => r
 | .int _, _, r => r
 | .str _, _, r => r
 | .tup xs, _, r => by
  obtain ⟨a, vs, e, q, rs⟩ := r
  exact ⟨a, vs, e, q.step s, aA.step s rs⟩
 | .lst xs, _, r => by
  obtain ⟨a, vs, e, q, rs⟩ := r
  exact ⟨a, vs, e, q.step s, aA.step s rs⟩
theorem aA.step (s : gI L H L' H') : ∀ {ts} {vs}, aA K L H ts vs → aA K L' H' ts vs
 | [], _, r => r
 | t :: ts, _, r => by
  obtain ⟨v, rs, e, r1, r2⟩ := r
  exact ⟨v, rs, e, Rp.step s r1, aA.step s r2⟩
end
theorem aA.length : ∀ {ts} {vs}, aA K L H ts vs → vs.length = ts.length
 | [], _, r => by rw [r]; rfl
 | t :: ts, _, r => by obtain ⟨v, rs, rfl, r1, r2⟩ := r; rw [List.length_cons, List.length_cons, aA.length r2]
theorem aA.get : ∀ {ts} {vs} {i : Nat} {t}, aA K L H ts vs → ts[i]? = some t → ∃ v, vs[i]? = some v ∧ Rp K L H t v
 | [], _, _, _, r, e => by simp at e
 | x :: xs, _, 0, t, r, e => by
  obtain ⟨v, rs, rfl, r1, r2⟩ := r
  grind
 | x :: xs, _, i + 1, t, r, e => by
  obtain ⟨v, rs, rfl, r1, r2⟩ := r
  obtain ⟨u, h1, h2⟩ := aA.get r2 (by simpa using e)
  grind
theorem aA.getV {i : Nat} {v} (r : aA K L H ts vs) (e : vs[i]? = some v) : ∃ t, ts[i]? = some t ∧ Rp K L H t v := by
 have hi := (List.getElem?_eq_some_iff.mp e).1
 rw [r.length] at hi
 obtain ⟨u, h1, h2⟩ := r.get (List.getElem?_eq_getElem hi)
 simp_all
theorem aA.append : ∀ {ts us} {vs ws}, aA K L H ts vs → aA K L H us ws → aA K L H (ts ++ us) (vs ++ ws)
 | [], _, _, _, r, q => by rw [r]; exact q
 | t :: ts, us, _, ws, r, q => by obtain ⟨v, rs, rfl, r1, r2⟩ := r; exact ⟨v, _, rfl, r1, aA.append r2 q⟩
theorem aA.one (r : Rp K L H t v) : aA K L H [t] [v] := ⟨v, [], rfl, r, rfl⟩
theorem aA.nil : aA K L H [] [] := rfl
theorem aA.take : ∀ (n : Nat) {ts} {vs}, aA K L H ts vs → aA K L H (ts.take n) (vs.take n)
 | 0, _, _, _ => rfl
 | n + 1, [], _, r => by rw [r]; exact rfl
 | n + 1, t :: ts, _, r => by obtain ⟨v, rs, rfl, r1, r2⟩ := r; exact ⟨v, _, rfl, r1, aA.take n r2⟩
theorem aA.drop : ∀ (n : Nat) {ts} {vs}, aA K L H ts vs → aA K L H (ts.drop n) (vs.drop n)
 | 0, _, _, r => by simpa using r
 | n + 1, [], _, r => by rw [r]; exact rfl
 | n + 1, t :: ts, _, r => by obtain ⟨v, rs, rfl, r1, r2⟩ := r; simpa using aA.drop n r2
theorem aA.set (q : Rp K L H t v) : ∀ {ts} {vs} (i : Nat), aA K L H ts vs → aA K L H (ts.set i t) (vs.set i v)
 | [], _, _, r => by rw [r]; exact rfl
 | x :: xs, _, 0, r => by obtain ⟨u, rs, rfl, r1, r2⟩ := r; exact ⟨v, rs, rfl, q, r2⟩
 | x :: xs, _, i + 1, r => by obtain ⟨u, rs, rfl, r1, r2⟩ := r; exact ⟨u, _, rfl, r1, aA.set q i r2⟩
theorem aA.reverse (r : aA K L H ts vs) : aA K L H ts.reverse vs.reverse := by
 induction ts generalizing vs with
 | nil => rw [r]; exact rfl
 | cons t ts ih => obtain ⟨v, rs, rfl, r1, r2⟩ := r; rw [List.reverse_cons, List.reverse_cons]; exact (ih r2).append (.one r1)
theorem aA.strs : ∀ {ys : List _} {vs}, aA K L H (ys.map T.str) vs → vs = ys.map V.str
 | [], _, r => r
 | y :: ys, _, r => by obtain ⟨v, rs, rfl, r1, r2⟩ := r; rw [r1, aA.strs r2]; rfl
theorem aA.bls : ∀ {ys : List _} {vs}, aA K L H (ys.map T.bl) vs → vs = ys.map V.bl
 | [], _, r => r
 | y :: ys, _, r => by obtain ⟨v, rs, rfl, r1, r2⟩ := r; rw [r1, aA.bls r2]; rfl
theorem aA.ofInts : ∀ (ys : List _), aA K L H (ys.map T.int) (ys.map V.int)
 | [] => rfl
 | y :: ys => ⟨_, _, rfl, rfl, aA.ofInts ys⟩
end
inductive Sh : T → Value → Prop
 | non : Sh .non .none
 | bl (x : Bool) : Sh (.bl x) (.bool x)
 | int (x : Int) (t : Tok) : Sh (.int x) (.int x t)
 | str (x : Str) (t : Tok) : Sh (.str x) (.str x t)
theorem oy {K : PySem.W.Frag} {L : Addr → Prop} {H : Hp} {t : T} {v : V} {a : Value} (hd : cS t ≤ 0) (rt : Rp K L H t v) (ra : RelV v a) : Sh t a := by
 cases t with
 | non => cases rt; cases (show a = Value.none from ra); exact .non
 | bl x => cases rt; cases (show a = Value.bool x from ra); exact .bl x
 | int x => cases rt; obtain ⟨t, rfl⟩ := ra; exact .int x t
 | str x => cases rt; obtain ⟨t, rfl⟩ := ra; exact .str x t
 | _ => exact absurd hd (by simp [cS])
theorem Fb {A : Around} {s : Shared} {t u : T} {a b : Value} (h1 : Sh t a) (h2 : Sh u b) : RcAt A s a b (eqT t u) := by
 cases h1 with
 | non => cases h2 with
  | non => exact RcAt.none_none
  | bl _ => exact RcAt.none_bool _
  | int _ _ => exact RcAt.none_int _ _
  | str _ _ => exact RcAt.none_str _ _
 | bl _ => cases h2 with
  | non => exact RcAt.bool_none _
  | bl _ => exact RcAt.bool_bool _ _
  | int _ _ => exact RcAt.bool_int _ _ _
  | str _ _ => exact RcAt.bool_str _ _ _
 | int _ _ => cases h2 with
  | non => exact RcAt.int_none _ _
  | bl _ => exact RcAt.int_bool _ _ _
  | int _ _ => exact RcAt.int_int _ _ _ _
  | str _ _ => exact RcAt.int_str _ _ _ _
 | str _ _ => cases h2 with
  | non => exact RcAt.str_none _ _
  | bl _ => exact RcAt.str_bool _ _ _
  | int _ _ => exact RcAt.str_int _ _ _ _
  | str _ _ => exact RcAt.str_str _ _ _ _
theorem CW {A : Around} {s : Shared} {t u : T} {a b : Value} (h1 : Sh t a) (h2 : Sh u b) : RcNeAt A s a b (!eqT t u) := by
 cases h1 with
 | non => cases h2 with
  | non => exact RcNeAt.none_none
  | bl _ => exact RcNeAt.none_bool _
  | int _ _ => exact RcNeAt.none_int _ _
  | str _ _ => exact RcNeAt.none_str _ _
 | bl _ => cases h2 with
  | non => exact RcNeAt.bool_none _
  | bl _ => exact RcNeAt.bool_bool _ _
  | int _ _ => exact RcNeAt.bool_int _ _ _
  | str _ _ => exact RcNeAt.bool_str _ _ _
 | int _ _ => cases h2 with
  | non => exact RcNeAt.int_none _ _
  | bl _ => exact RcNeAt.int_bool _ _ _
  | int _ _ => exact RcNeAt.int_int _ _ _ _
  | str _ _ => exact RcNeAt.int_str _ _ _ _
 | str _ _ => cases h2 with
  | non => exact RcNeAt.str_none _ _
  | bl _ => exact RcNeAt.str_bool _ _ _
  | int _ _ => exact RcNeAt.str_int _ _ _ _
  | str _ _ => exact RcNeAt.str_str _ _ _ _
def CG : T → T → Bool
 | .lst _, .lst [] => true
 | .lst _, _ => false
 | _, .lst _ => false
 | .tup _, _ => false
 | _, .tup _ => false
 | _, _ => true
theorem uL {t u : T} (h : CG t u = true) : (∃ xs, t = .lst xs ∧ u = .lst []) ∨ (cS t ≤ 0 ∧ cS u ≤ 0) := by
 unfold CG at h
 split at h <;> first | exact .inl ⟨_, rfl, rfl⟩ | (cases h; done) | skip
 cases t <;> cases u <;> simp_all [cS]
theorem tH {α : Type} {c : Prop} [Decidable c] {x : Option α} {z : α} (h : (if c then x else none) = some z) : x = some z := by
 split at h
 · exact h
 · cases h
theorem zX {A : Around} {s : Shared} {K : PySem.W.Frag} {L : Addr → Prop} {H : Hp} {l l2 : Addr} {xs : List T} {vs : List V} {its : List Value} (hu : A.units < cLine) (rs : aA K L H xs vs) (rv : am vs its) (p : s.heap.IsList l its.toArray) (p2 : s.heap.IsList l2 #[]) : RcAt A s (.ref l) (.ref l2) (eqT (.lst xs) (.lst [])) := by
 cases xs with
 | nil => cases (show vs = [] from rs); cases rv; exact RcAt.lists (e := fun _ => true) p p2 rfl hu fun j h => absurd h (by simp)
 | cons x xs => obtain ⟨v, r, rfl, _, _⟩ := rs; cases rv; exact RcAt.lists_lengths p p2 (by simp) hu
theorem B3 {A : Around} {s : Shared} {K : PySem.W.Frag} {L : Addr → Prop} {H : Hp} {l l2 : Addr} {xs : List T} {vs : List V} {its : List Value} (hu : A.units < cLine) (rs : aA K L H xs vs) (rv : am vs its) (p : s.heap.IsList l its.toArray) (p2 : s.heap.IsList l2 #[]) : RcNeAt A s (.ref l) (.ref l2) (!eqT (.lst xs) (.lst [])) := by
 cases xs with
 | nil => cases (show vs = [] from rs); cases rv; exact RcNeAt.lists (e := fun _ => true) p p2 rfl hu fun j h => absurd h (by simp)
 | cons x xs => obtain ⟨v, r, rfl, _, _⟩ := rs; cases rv; exact RcNeAt.lists_lengths p p2 (by simp) hu
theorem Bn {X : Cx} {K : PySem.W.Frag} (L : Addr → Prop) (hK : X.K = K) (hu : X.A.units + 64 < cLine) : cD X (compareOp .Eq) (fun x y H Q => ∃ t u, Rp K L H t x ∧ Rp K L H u y ∧ CG t u = true ∧ Q (.bl (eqT t u)) H) := by
 subst hK
 intro pins s σ H x y v u Q I rx ry h
 obtain ⟨t, t', r1, r2, hk, q⟩ := h
 rcases uL hk with ⟨xs, rfl, rfl⟩ | ⟨hd, hd2⟩
 · obtain ⟨l, vs, rfl, e, rs⟩ := r1
   cases (show v = .ref l from rx)
   obtain ⟨its, r, p, _⟩ := I.list e.sq
   obtain ⟨l2, ws, rfl, e2, rs2⟩ := r2
   cases (show u = .ref l2 from ry)
   cases (show ws = [] from rs2)
   obtain ⟨its2, r2, p2, _⟩ := I.list e2.sq
   cases r2
   exact zX (by omega) rs r p.isList p2.isList X.prog X.w X.xe _ ⟨.bl _, H, I, rfl, q⟩
 · exact Fb (oy hd r1 rx) (oy hd2 r2 ry) X.prog X.w X.xe _ ⟨.bl _, H, I, rfl, q⟩
theorem Ct {X : Cx} {K : PySem.W.Frag} (L : Addr → Prop) (hK : X.K = K) (hu : X.A.units + 64 < cLine) : cD X (compareOp .NotEq) (fun x y H Q => ∃ t u, Rp K L H t x ∧ Rp K L H u y ∧ CG t u = true ∧ Q (.bl (!eqT t u)) H) := by
 subst hK
 intro pins s σ H x y v u Q I rx ry h
 obtain ⟨t, t', r1, r2, hk, q⟩ := h
 rcases uL hk with ⟨xs, rfl, rfl⟩ | ⟨hd, hd2⟩
 · obtain ⟨l, vs, rfl, e, rs⟩ := r1
   cases (show v = .ref l from rx)
   obtain ⟨its, r, p, _⟩ := I.list e.sq
   obtain ⟨l2, ws, rfl, e2, rs2⟩ := r2
   cases (show u = .ref l2 from ry)
   cases (show ws = [] from rs2)
   obtain ⟨its2, r2, p2, _⟩ := I.list e2.sq
   cases r2
   exact B3 (by omega) rs r p.isList p2.isList X.prog X.w X.xe _ ⟨.bl _, H, I, rfl, q⟩
 · exact CW (oy hd r1 rx) (oy hd2 r2 ry) X.prog X.w X.xe _ ⟨.bl _, H, I, rfl, q⟩
end L2
end
section
namespace L2
def AccAt (RA : List V → Obj → Prop) (S : Addr) (ys : List V) (h : Heap) : Prop := ∃ o, h.get? S = some o ∧ RA ys o
def RT (ys : List V) (o : Obj) : Prop := ∃ (its : List Value) (k : Nat), o = { cls := .type "list", data := .seq its.toArray k } ∧ am ys its
def HE (RA : List V → Obj → Prop) (Xc : Cx) (pg : List (Addr × Obj)) (σc : St) (S : Addr) (Q : List V → Hp → Prop) : Nat → Shared → Shared → Prop := fun _ s₀ s₁ => s₁.heap.get? S = s₀.heap.get? S ∧ ∃ ys H, Inv Xc pg σc H s₁ ∧ H S = none ∧ AccAt RA S ys s₁.heap ∧ ys.length ≤ sizeLine ∧ Q ys H
def IY (RA : List V → Obj → Prop) (Xc : Cx) (pg : List (Addr × Obj)) (σc : St) (S : Addr) (Q : List V → Hp → Prop) : GenEnd := fun n s₀ r s₁ => r = .ok .next ∧ HE RA Xc pg σc S Q n s₀ s₁
def Gv (RA : List V → Obj → Prop) (OkL : List V → Prop) (Xc : Cx) (pg : List (Addr × Obj)) (σc : St) (S : Addr) : Protocol := fun n s₀ v s kap => s.heap.get? S = s₀.heap.get? S ∧ ∃ ys y H, OkL (ys ++ [y]) ∧ RelV y v ∧ Inv Xc pg σc H s ∧ H S = none ∧ AccAt RA S ys s.heap ∧ ys.length < sizeLine ∧
 ∀ s'', Inv Xc pg σc H s'' → AccAt RA S (ys ++ [y]) s''.heap → (∀ b o, b ≠ S → s.heap.get? b = some o → s''.heap.get? b = some o) → kap (.send .none) s''
section
variable {RA : List V → Obj → Prop} {OkL : List V → Prop} {Xc : Cx} {pg : List (Addr × Obj)} {σc : St} {S : Addr} {Q : List V → Hp → Prop} {J : It} {fp : List Addr} {it : Addr} {tn : Nat → Heap → Prop} {elt target iter : Expr} {ifs : List Expr} {scope : Scope} {pos : Pos} {g : TG} {tt : TT} {te : TE} {A1 : Around}
 {W : Nat → Nat → List V → Hp → Prop}
theorem xY (hRA : ∀ ys o v, RA ys o → o.data ≠ .cell v) (T : iP Xc.prog Xc.w Xc.K target J fp it tn) (xA : Xc.A = A1.over (.compLoop (.GeneratorExp elt [⟨target, iter, ifs, 0⟩] scope pos) 0 (.ref it) .none Xc.env) []) (xc : Xc.calm = true) (xx : Xc.xe = fun _ _ => False) (hco : Xc.env.scope.isCoroutine = false)
 (hg : PG Xc target g) (hf : PF Xc ifs tt) (he : PE Xc elt te) (hSf : S ∉ fp) (sL : S ≠ Xc.env.locals) (sF : S ∉ Xc.fs) (stat : ∀ {H' : Hp} {o : Obj}, (∀ b ∈ fp, H' b = none) → ∀ b ∈ fp, bC Xc ((S, o) :: pg) H' b)
 (turn : ∀ i m ys H, W i m ys H → (J.stop i H ∧ ys.length ≤ sizeLine ∧ Q ys H) ∨
  (J.go i H ∧ ys.length < sizeLine ∧ ∃ N : List V → Hp → Prop, (∀ ys' H', N ys' H' → ∃ m', m' < m ∧ W (i + 1) m' ys' H') ∧ ∀ x H2, J.yld i H x H2 → g x σc H2 fun σ2 H3 => Sub σc σ2 ∧ tt σ2 H3 fun ok H4 =>
   if ok = true then te σ2 H4 fun y H5 => N (ys ++ [y]) H5 else N ys H4))
 (hW : ∀ i m ys H, W i m ys H → OkL ys) :
 ∀ (m n : Nat), m < n → ∀ (i : Nat) (ys : List V) (H : Hp) (s s₀ : Shared), W i m ys H → Inv Xc pg σc H s → H S = none → AccAt RA S ys s.heap → tn i s.heap → (∀ b ∈ fp, H b = none) → s.heap.get? S = s₀.heap.get? S →
  Seg (model Xc.prog Xc.w) A1 (IY RA Xc pg σc S Q) (Gv RA OkL Xc pg σc S) n s₀ (.compLoop (.GeneratorExp elt [⟨target, iter, ifs, 0⟩] scope pos) 0 (.ref it) .none Xc.env)
   ((model Xc.prog Xc.w).den (.compLoop (.GeneratorExp elt [⟨target, iter, ifs, 0⟩] scope pos) 0 (.ref it) .none Xc.env)) [] s := by
 intro m
 induction m using Nat.strongRecOn with
 | ind m ih =>
  intro n hmn i ys H s s₀ w I hS acc st fr hq
  show Seg _ A1 _ _ _ s₀ _ ((compTurn (.GeneratorExp elt [⟨target, iter, ifs, 0⟩] scope pos) 0 (.ref it) .none Xc.env).onRaise (leaving Xc.env)) [] s
  rw [compTurn_gen, Sem.onRaise_eq_wrap]
  refine seg_bind_wrap (wpAny_standAt ?_)
  obtain ⟨o, oS, vS⟩ := acc
  have oc : ∀ v, o.data ≠ .cell v := fun v => hRA _ _ v vS
  have Ip : Inv Xc ((S, o) :: pg) σc H s := I.pins_of fun p hp => by
   rcases List.mem_cons.mp hp with z | z
   · rw [z]; exact ⟨oS, hS, sL, sF, oc⟩
   · exact I.pin p (List.mem_append_right _ z)
  have unS : ∀ {H' : Hp} {s' : Shared} {σ' : St}, Inv Xc ((S, o) :: pg) σ' H' s' → Inv Xc pg σ' H' s' ∧ H' S = none ∧ s'.heap.get? S = some o := fun {H' s' σ'} K =>
   have p := K.pin (S, o) (List.mem_append_right _ List.mem_cons_self)
   ⟨K.pins_of fun p hp => K.pin p (List.mem_append_right _ (List.mem_cons_of_mem _ hp)), p.2.1, p.1⟩
  rcases turn i m ys H w with ⟨stop, hz, q⟩ | ⟨go, hz, N, hN, step⟩
  · have td := fun E => T.done Xc rfl rfl rfl xc i _ s σc H E Ip (stat fr) st stop
    rw [xA] at td
    refine seg_bind_wrap (aU (td _) fun r s6 h6 => ?_)
    obtain ⟨hr, I6⟩ := h6
    subst hr
    obtain ⟨j1, j2, j3⟩ := unS I6
    exact seg_end (.ok .next) ⟨rfl, j3.trans (oS.symm.trans hq), ys, H, j1, j2, ⟨o, j3, vS⟩, hz, q⟩
  · have ti := fun E => T.item Xc rfl rfl rfl xc i _ s σc H E Ip (stat fr) st go
    rw [xA] at ti
    refine seg_bind_wrap (aU (ti _) fun r s6 h6 => ?_)
    obtain ⟨u, hr, h6⟩ := h6
    subst hr
    refine seg_bind_wrap (aU h6 fun _ s7 h7 => ?_)
    obtain ⟨x, H7, I7, r7, y7, st7, fr7⟩ := h7
    have I7' := I7.pinned (stat fr7) (T.obj _ _ st7)
    have g7 := hg _ s7 σc H7 x u _ I7' r7 (step x H7 y7)
    rw [xA, xx] at g7
    refine seg_bind_wrap (wpAny_mono g7 (fun _ s8 h8 => ?_) fun _ _ h => h.elim)
    obtain ⟨σ8, H8, I8, sub8, q8⟩ := h8
    have t8 := hf _ s8 σ8 H8 _ I8 q8
    rw [xA, xx] at t8
    refine seg_bind_wrap (wpAny_mono t8 (fun ok s9 h9 => ?_) fun _ _ h => h.elim)
    obtain ⟨H9, I9, q9⟩ := h9
    have back : ∀ {H' : Hp} {s' : Shared}, Inv Xc (((S, o) :: pg) ++ eG fp s7.heap) σ8 H' s' → (Inv Xc pg σc H' s' ∧ H' S = none ∧ s'.heap.get? S = some o) ∧ tn (i + 1) s'.heap ∧ (∀ b ∈ fp, H' b = none) := fun {H' s'} K => by
     refine ⟨unS (K.weak sub8.1.symm sub8.2).unpinned, T.keep _ _ _ st7 fun b hb o e => (K.pin (b, o) (List.mem_append_right _ (List.mem_append_right _ (bM hb e)))).1, fun b hb => ?_⟩
     obtain ⟨o, e, d⟩ := T.obj _ _ st7 b hb
     exact (K.pin (b, o) (List.mem_append_right _ (List.mem_append_right _ (bM hb e)))).2.1
    cases ok with
    | false =>
     obtain ⟨m', hm, w9⟩ := hN _ _ q9
     obtain ⟨⟨b1, bS, bO⟩, b2, b3⟩ := back I9
     exact seg_again rfl (ih m' hm n (by omega) _ ys H9 s9 _ w9 b1 bS ⟨o, bO, vS⟩ b2 b3 (bO.trans (oS.symm.trans hq)))
    | true =>
     have e9 := he _ s9 _ H9 _ I9 q9
     rw [xA, xx] at e9
     simp only [if_true]
     have hy : ∀ v, yieldOut Xc.env v = yieldValue v := fun v => by simp only [yieldOut, hco, Bool.false_eq_true, if_false]
     simp only [hy]
     rw [Sem.bind_eq_wrap', Sem.bind_eq_wrap', Sem.wrap_wrap, Sem.wrap_wrap]
     refine seg_wrap (wpAny_mono e9 (fun y s10 h10 => ?_) fun _ _ h => h.elim)
     obtain ⟨z, H10, I10, r10, q10⟩ := h10
     obtain ⟨m', hm, w10⟩ := hN _ _ q10
     obtain ⟨⟨b1, bS, bO⟩, b2, b3⟩ := back I10
     obtain ⟨n', rfl⟩ : ∃ n', n = n' + 1 := ⟨n - 1, by omega⟩
     refine seg_at (seg_yield rfl rfl rfl ⟨bO.trans (oS.symm.trans hq), ys, z, H10, hW _ _ _ _ w10, r10, b1, bS, ⟨o, bO, vS⟩, hz, fun s'' I'' acc'' kp'' => ?_⟩)
     exact seg_again rfl (ih m' hm n' (by omega) _ _ _ _ _ w10 I'' bS acc'' (T.keep _ _ _ b2 fun b hb o e => kp'' b o (fun z => hSf (z ▸ hb)) e) b3 rfl)
def nC (RA : List V → Obj → Prop) (OkL : List V → Prop) (Xc : Cx) (pg : List (Addr × Obj)) (σc : St) (S : Addr) (Q : List V → Hp → Prop) (A1 : Around) (gn n : Nat) (s : Shared) : Prop :=
 ∃ ys H gs, Inv Xc pg σc H s ∧ H S = none ∧ AccAt RA S ys s.heap ∧ s.gens[gn]? = some gs ∧ ∀ s'', Inv Xc pg σc H s'' → s''.heap = s.heap → gs.Goes (model Xc.prog Xc.w) A1 (IY RA Xc pg σc S Q) (Gv RA OkL Xc pg σc S) n (.send .none) s''
theorem sU {A : Around} {a : Addr} {gn : Nat} {RR : Result → Shared → Prop} {res : Value} (hh : A.handled = none) (hroom : A.depth < recursionLimit) (hgn : gn < Xc.s₀.gens.size) (hpin : ∀ {H s}, Inv Xc pg σc H s → s.heap.IsGen a gn)
 (sS : ∀ {H : Hp}, H S = none → bC Xc pg H S)
 (hR : ∀ ys H s', Inv Xc pg σc H s' → H S = none → AccAt RT S ys s'.heap → ys.length ≤ sizeLine → Q ys H → RR (.ok (.ret res)) s') :
 ∀ (n : Nat) (s : Shared), nC RT (fun _ => True) Xc pg σc S Q A.in1.in1 gn n s → codeAny (model Xc.prog Xc.w) A (.builtin "list.extend.loop" ⟨[.ref S, .ref a, res], []⟩) RR s := by
 have turn : ∀ (n : Nat), (∀ n' s, n = n' + 1 → nC RT (fun _ => True) Xc pg σc S Q A.in1.in1 gn n' s → codeAny (model Xc.prog Xc.w) A (.builtin "list.extend.loop" ⟨[.ref S, .ref a, res], []⟩) RR s) → ∀ s, nC RT (fun _ => True) Xc pg σc S Q A.in1.in1 gn n s → codeAny (model Xc.prog Xc.w) A (.builtin "list.extend.loop" ⟨[.ref S, .ref a, res], []⟩) RR s := by
  intro n ih s R
  obtain ⟨ys, H, gs, I, hS, acc, hgs, go⟩ := R
  have I1 : Inv Xc pg σc H (s.setGen gn .running) := I.gens rfl rfl (cZ I.bare rfl) (Nat.le_of_eq cX.symm)
  refine codeAny_builtin F.entry_extend_loop ?_
  refine wpAny_bind (wpAny_pyNext_genexpQ (A := A.in1) (P := HE RT Xc pg σc S Q) (Y := Gv RT (fun _ => True) Xc pg σc S) hh I.nolimit hroom (hpin I) hgs (go _ I1 rfl) (fun v s1 gs' hb hv => ?_) (fun s1 hp h' hk => ?_))
  · obtain ⟨_, ys1, y, H1, _, r1, J1, hS1, ⟨_, oS, its, k, rfl, vS⟩, hz1, k1⟩ := hv
    have J2 : Inv Xc pg σc H1 (s1.setGen gn gs') := J1.gens rfl rfl (cZ J1.bare hb) (Nat.le_of_eq cX.symm)
    have vl := vS.length
    obtain ⟨f0, f1, f2, f3, f4, f5⟩ := sS hS1
    refine wpAny_bind (wpAny_updateSeq (s := s1.setGen gn gs') oS rfl (wpAny_pure ⟨plainId_quiet F.plain_extend_loop _, ?_⟩) (by rw [List.size_toArray]; omega) (by rw [Array.size_push, List.size_toArray]; omega))
    have kp : ∀ b o, b ≠ S → s1.heap.get? b = some o → (s1.heap.update S (Obj.mapSeq (·.push v))).get? b = some o := fun b o hb e => (Heap.get?_update_other _ _ (Ne.symm hb)).trans e
    have J3 : Inv Xc pg σc H1 { s1.setGen gn gs' with heap := s1.heap.update S (Obj.mapSeq (·.push v)) } := J2.turned (t' := (s1.setGen gn _).toks) kp hS1 f1 f3 f4 f5
    have acc3 : AccAt RT S _ (s1.heap.update S (Obj.mapSeq (·.push v))) := ⟨_, Heap.get?_update_self _ oS rfl, _, _, by rw [← List.push_toArray]; rfl, vS.append (.cons r1 .nil)⟩
    cases n with
    | zero => exact (k1 _ J3 acc3 kp).elim
    | succ n' =>
     refine ih n' _ rfl ⟨_, H1, gs', J3, hS1, acc3, ?_, fun s'' I'' e'' => k1 _ I'' (by rw [e'']; exact acc3) fun b o hb e => by rw [e'']; exact kp b o hb e⟩
     have hlt := Nat.lt_of_lt_of_le hgn J1.os.2
     simp [Shared.setGen, hlt]
  · obtain ⟨_, ys1, H1, J1, hS1, ⟨_, oS, its, k, rfl, vS⟩, hz1, q1⟩ := hp
    have J2 : Inv Xc pg _ H1 (s1.setGen gn .finished) := J1.gens rfl rfl (cZ J1.bare rfl) (Nat.le_of_eq cX.symm)
    exact wpAny_pure (hR _ H1 _ (J2.kept hk) hS1 ⟨_, hk _ _ oS, its, k, rfl, vS⟩ hz1 q1)
 intro n
 induction n with
 | zero => exact turn 0 fun n' s e => by omega
 | succ n ih => exact turn _ fun n' s e => by cases e; exact ih s
end
section
variable {prog : Program} {w : World} {A : Around} {E : Value → Shared → Prop} {s : Shared} {a : Addr} {gn : Nat}
theorem nR {h h' : Heap} (g : h.IsGen a gn) (k : ∀ b o, h.get? b = some o → h'.get? b = some o) : h'.IsGen a gn := by
 obtain ⟨o, x, y, e, r⟩ := g
 exact ⟨o, x, y, k _ _ e, r⟩
theorem kT {Q : List Value → Shared → Prop} (hg : s.heap.IsGen a gn)
 (h : ∀ h3 k, h3.get? s.heap.objs.size = some { cls := .type "list", data := .seq ([] : List Value).toArray k } → (∀ b o, s.heap.get? b = some o → h3.get? b = some o) →
  codeAny (model prog w) A (.builtin "list.extend.loop" ⟨[.ref s.heap.objs.size, .ref a, .ref s.heap.objs.size], []⟩) (fun r s' => r = .ok (.ret (.ref s.heap.objs.size)) ∧ ∃ (its : List Value) (k : Nat), s'.heap.get? s.heap.objs.size = some { cls := .type "list", data := .seq its.toArray k } ∧ Q its s') { s with heap := h3 }) :
 wpAny (model prog w) A (collect (.ref a)) Q E s := by
 have hlt : a < s.heap.objs.size := by obtain ⟨o, x, y, e, r⟩ := hg; exact Heap.lt_size e
 have hSI : s.heap.objs.size ≠ a := Nat.ne_of_gt hlt
 have old1 : ∀ b o, s.heap.get? b = some o → (s.heap.push { cls := .type "list", data := .seq ([] : List Value).toArray }).get? b = some o := fun b o e => Heap.get?_push_of_some _ e
 have g1 : (s.heap.push { cls := .type "list", data := .seq ([] : List Value).toArray }).IsGen a gn := nR hg old1
 refine wpAny_bind (wpAny_runValue (codeAny_builtin F.entry_proto_collect ?_))
 refine wpAny_bind (wpAny_newObj_type ?_)
 refine wpAny_pure ⟨plainId_quiet F.plain_list_iadd _, codeAny_builtin F.entry_list_iadd ?_⟩
 show wpAny _ A.in1 (Builtin.List.listExtendWith (.ref s.heap.objs.size) (.ref a) (.ref s.heap.objs.size)) _ _ _
 have hT : Shared.TypeIs { s with heap := s.heap.push { cls := .type "list", data := .seq ([] : List Value).toArray } } (.ref a) "generator" := g1.typeIs
 refine wpAny_bind (wpAny_typeOf hT ?_)
 have h1 : Builtin.List.listSameRef (.ref s.heap.objs.size) (.ref a) = false := by simp [Builtin.List.listSameRef, hSI]
 have h2 : (Value.type "generator" == Value.type "list") = false := by decide
 have h3 : (Value.type "generator" == Value.type "tuple") = false := by decide
 simp only [h1, h2, h3, Bool.or_false, Bool.false_eq_true, if_false]
 refine wpAny_bind (wpAny_pyIter_gen g1 ?_)
 refine wpAny_bind (wpAny_holding ?_)
 refine wpAny_bind (wpAny_specialOf hT F.gen_no_len ?_)
 refine wpAny_bind (wpAny_specialOf hT F.gen_no_hint ?_)
 refine wpAny_pure ?_
 refine wpAny_bind (wpAny_rule ?_)
 have hS₁ : (s.heap.push { cls := .type "list", data := .seq ([] : List Value).toArray }).get? s.heap.objs.size = some { cls := .type "list", data := .seq ([] : List Value).toArray } := Heap.get?_push_size _ rfl
 refine wpAny_bind ?_
 refine wpAny_bind (wpAny_updateSeq hS₁ rfl ?_)
 have hS₂ := Heap.get?_update_self (Obj.mapSeq (·.push Value.none)) hS₁ rfl
 refine wpAny_updateSeq hS₂ rfl ?_
 have hS₃ := Heap.get?_update_self (Obj.mapSeq (·.pop)) hS₂ rfl
 have oth : ∀ b o, b ≠ s.heap.objs.size → (s.heap.push { cls := .type "list", data := .seq ([] : List Value).toArray }).get? b = some o →
  (((s.heap.push { cls := .type "list", data := .seq ([] : List Value).toArray }).update s.heap.objs.size (Obj.mapSeq (·.push Value.none))).update _ (Obj.mapSeq (·.pop))).get? b = some o :=
  fun b o hb e => (Heap.get?_update_other _ _ (Ne.symm hb)).trans ((Heap.get?_update_other _ _ (Ne.symm hb)).trans e)
 refine wpAny_pure ⟨plainId_quiet F.plain_extend_loop _, codeAny_mono (h _ _ hS₃ fun b o e => oth b o (Nat.ne_of_lt (Heap.lt_size e)) (old1 b o e)) fun r s' hr => ?_⟩
 obtain ⟨rfl, its, k, oS, q⟩ := hr
 refine wpAny_bind (wpAny_load oS ?_)
 exact wpAny_pure q
theorem jG {Q₁ : Value → Shared → Prop} (hg : s.heap.IsGen a gn)
 (h : ∀ h3 k, h3.get? s.heap.objs.size = some { cls := .type "list", data := .seq ([] : List Value).toArray k } → (∀ b o, s.heap.get? b = some o → h3.get? b = some o) →
  codeAny (model prog w) A.in1 (.builtin "list.extend.loop" ⟨[.ref s.heap.objs.size, .ref a, .ref s.heap.objs.size], []⟩) (fun r s' => r = .ok (.ret (.ref s.heap.objs.size)) ∧ ∃ (its : List Value) (k : Nat), s'.heap.get? s.heap.objs.size = some { cls := .type "list", data := .seq its.toArray k } ∧ its.length ≤ sizeLine ∧ Q₁ (.ref s'.heap.objs.size) { s' with heap := s'.heap.push { cls := .type "tuple", data := .seq its.toArray } }) { s with heap := h3 }) :
 codeAny (model prog w) A (.call (.builtin "tuple.__new__") ⟨[.type "tuple", .ref a], []⟩) (wants Q₁ E) s := by
 refine codeAny_of_tree ?_
 show wpAny _ A.in1 (do checkBuiltinCall "tuple.__new__" ⟨[.type "tuple", .ref a], []⟩; again (.builtin "tuple.__new__" ⟨[.type "tuple", .ref a], []⟩)) _ _ s
 refine wpAny_bind (wpAny_of_eq (F.newCall_tuple_1 _) (wpAny_pure ⟨plainId_quiet F.plain_tuple_new _, codeAny_builtin F.entry_tuple_new ?_⟩))
 rw [Around.under_plainId F.plain_tuple_new _]
 have hsub := sub_tuple_self
 have hinit := init_tuple_lookup
 have hmh := madeHere_tuple
 have hTI : s.TypeIs (.ref a) "generator" := hg.typeIs
 have hcl := fun (Q : List Value → Shared → Prop) (E' : Value → Shared → Prop) => kT (A := A.in1) (prog := prog) (w := w) (Q := Q) (E := E') hg
 wp_walk using wpAny_typeOf hTI, hcl
 intro h3 k e3 k3
 refine codeAny_mono (h h3 k e3 k3) fun r s' hr => ?_
 obtain ⟨rfl, its, k', oS, hz, q⟩ := hr
 refine ⟨rfl, its, k', oS, ?_⟩
 show wpAny _ _ (Builtin.Tuple.tupleExact its.toArray >>= fun v => ret v) _ _ _
 refine wpAny_bind (wpAny_newObj_type ?_ (by exact hz))
 exact wpAny_pure q
theorem jS (hg : s.heap.IsGen a gn)
 (h : ∀ h3 k, h3.get? s.heap.objs.size = some { cls := .type "list", data := .seq [].toArray k } → (∀ b o, s.heap.get? b = some o → h3.get? b = some o) →
  codeAny (model prog w) A.in1.in1 (.builtin "list.extend.loop" ⟨[.ref s.heap.objs.size, .ref a, .ref s.heap.objs.size], []⟩) (fun r s' => r = .ok (.ret (.ref s.heap.objs.size)) ∧ ∃ (its : List _) (k : Nat), s'.heap.get? s.heap.objs.size = some { cls := .type "list", data := .seq its.toArray k } ∧ its.length ≤ sizeLine ∧ Q (.ref s'.heap.objs.size) { s' with heap := s'.heap.push { cls := .type "tuple", data := .seq its.toArray } }) { s with heap := h3 }) :
 wpAny (model prog w) A (call (.type "tuple") [.ref a]) Q E s := by
 refine callType_codes (Q₁ := fun obj s₁ => s₁.TypeIs obj "tuple" ∧ Q obj s₁) F.called_tuple (F.typeCall_tuple_1 _) F.entry_object_init
  (jG hg fun h3 k e3 k3 => codeAny_mono (h h3 k e3 k3) fun r s' hr => ?_) fun obj s₁ h₁ => ?_
 · obtain ⟨e, its, k', oS, hz, q⟩ := hr
   exact ⟨e, its, k', oS, hz, ⟨_, Heap.get?_push_size _ rfl, rfl⟩, q⟩
 · exact ⟨h₁.1, F.args_object_init_2 _ _, object_init_meets F.called_tuple.init.lookup F.called_tuple.made rfl _ w _ _ _ ⟨h₁.1, rfl, h₁.2⟩⟩
end
def RS (ys : List V) (o : Obj) : Prop := ∃ (ns : List Int) (t : Tok) (c : Nat), ys = ns.map V.int ∧ o = { cls := .type "list", dict := none, data := .seq #[.int ns.sum t] c, slots := #[] }
def kF (ys : List V) : Prop := ∃ ns : List Int, ys = ns.map V.int
theorem rB {t t1} {c c1} (h : ({ cls := .type "list", dict := none, data := .seq #[.int n t] c, slots := #[] } : Obj) = { cls := .type "list", dict := none, data := .seq #[.int m t1] c1, slots := #[] }) : n = m := by grind
theorem kF.last {ns : List _} {y} (h : kF (ns.map V.int ++ [y])) : ∃ z, y = V.int z := by
 obtain ⟨ms, e⟩ := h
 have := congrArg List.getLast? e
 rw [List.getLast?_concat] at this
 cases q : ms.getLast? with
 | none => grind
 | some z => simp_all
section
variable {Xc : Cx} {pg : List (Addr × Obj)} {σc : St} {S : Addr} {Q : List V → Hp → Prop}
theorem vh {A : Around} {a : Addr} {gn : Nat} {RR : Result → Shared → Prop} (hh : A.handled = none) (hroom : A.depth < recursionLimit) (hgn : gn < Xc.s₀.gens.size) (hpin : ∀ {H s}, Inv Xc pg σc H s → s.heap.IsGen a gn)
 (sS : ∀ {H : Hp}, H S = none → bC Xc pg H S)
 (hR : ∀ (ns : List Int) H s' t, Inv Xc pg σc H s' → Q (ns.map V.int) H → RR (.ok (.ret (.int ns.sum t))) s') :
 ∀ (n : Nat) (stage : Int) (s : Shared), stage = 0 ∨ stage = 2 → nC RS kF Xc pg σc S Q A.in1.in1 gn n s → codeAny (model Xc.prog Xc.w) A (.builtin "sum.loop" ⟨[.ref a, .ref S, rawInt stage, rawInt 0], []⟩) RR s := by
 have turn : ∀ (n : Nat), (∀ n' stage s, n = n' + 1 → stage = 0 ∨ stage = 2 → nC RS kF Xc pg σc S Q A.in1.in1 gn n' s → codeAny (model Xc.prog Xc.w) A (.builtin "sum.loop" ⟨[.ref a, .ref S, rawInt stage, rawInt 0], []⟩) RR s) → ∀ stage s, stage = 0 ∨ stage = 2 → nC RS kF Xc pg σc S Q A.in1.in1 gn n s → codeAny (model Xc.prog Xc.w) A (.builtin "sum.loop" ⟨[.ref a, .ref S, rawInt stage, rawInt 0], []⟩) RR s := by
  intro n ih stage s hst R
  obtain ⟨ys, H, gs, I, hS, ⟨_, oS, ns, t0, c0, rfl, rfl⟩, hgs, go⟩ := R
  have I1 : Inv Xc pg σc H (s.setGen gn .running) := I.gens rfl rfl (cZ I.bare rfl) (Nat.le_of_eq cX.symm)
  refine codeAny_builtin F.entry_sum_loop ?_
  rw [Around.under_plainId F.plain_sum_loop _]
  show wpAny _ A.in1 (seqItems? (.ref S) >>= _) _ _ s
  refine wpAny_bind (wpAny_seqItems oS rfl ?_)
  show wpAny _ A.in1 (tryCatch (pyNext (.ref a)) _ >>= _) _ _ s
  refine wpAny_bind (wpAny_tryCatch (wpAny_pyNext_genexpQ (A := A.in1) (P := HE RS Xc pg σc S Q) (Y := Gv RS kF Xc pg σc S) hh I.nolimit hroom (hpin I) hgs (go _ I1 rfl) (fun v s1 gs' hb hv => ?_) (fun s1 hp h' hk => ?_)))
  · obtain ⟨eS, ys1, y, H1, al, r1, J1, hS1, ⟨o1, oS1, ns1, t1, c1, rfl, e1⟩, hz1, k1⟩ := hv
    have e2 : ns.sum = ns1.sum := rB (Option.some.inj ((eS.trans oS).symm.trans oS1) |>.trans e1)
    obtain ⟨z, rfl⟩ := al.last
    obtain ⟨t, rfl⟩ := r1
    have oS2 : (s1.setGen gn gs').heap.get? S = _ := eS.trans oS
    have J2 : Inv Xc pg σc H1 (s1.setGen gn gs') := J1.gens rfl rfl (cZ J1.bare hb) (Nat.le_of_eq cX.symm)
    obtain ⟨f0, f1, f2, f3, f4, f5⟩ := sS hS1
    have nxt : ∀ (stage : Int) (h2 : Heap) (tk : Nat) (t2 : Tok) (c2 : Nat), stage = 0 ∨ stage = 2 → (∀ b o, b ≠ S → s1.heap.get? b = some o → h2.get? b = some o) → h2.get? S = some { cls := .type "list", dict := none, data := .seq #[.int (ns.sum + z) t2] c2, slots := #[] } → codeAny (model Xc.prog Xc.w) A (.builtin "sum.loop" ⟨[.ref a, .ref S, rawInt stage, rawInt 0], []⟩) RR { s1.setGen gn gs' with heap := h2, toks := tk } := fun stage h2 tk t2 c2 hst kp o2 => by
     have J3 : Inv Xc pg σc H1 { s1.setGen gn gs' with heap := h2, toks := tk } := J2.turned kp hS1 f1 f3 f4 f5
     have acc3 : AccAt RS S (ns1.map V.int ++ [V.int z]) h2 := ⟨_, o2, ns1 ++ [z], t2, c2, by simp, by rw [List.sum_append, List.sum_cons, List.sum_nil, Int.add_zero, e2]⟩
     cases n with
     | zero => exact (k1 _ J3 acc3 kp).elim
     | succ n' =>
      refine ih n' stage _ rfl hst ⟨_, H1, gs', J3, hS1, acc3, ?_, fun s'' I'' e'' => k1 s'' I'' (by rw [e'']; exact acc3) fun b o hb e => by rw [e'']; exact kp b o hb e⟩
      have hlt : gn < s1.gens.size := Nat.lt_of_lt_of_le hgn J1.os.2
      simp [Shared.setGen, hlt]
    rcases hst with rfl | rfl
    · show wpAny _ A.in1 (if (_ : Bool) = true then (mkInt (ns.sum + z) >>= _) else _) _ _ _
      split
      · refine wpAny_bind (wpAny_mkInt ?_)
        show wpAny _ A.in1 (updateSeq S (fun _ => #[.int (ns.sum + z) _]) >>= _) _ _ _
        refine wpAny_bind (wpAny_updateSeq oS2 rfl (wpAny_pure ⟨plainId_quiet F.plain_sum_loop _, nxt 0 _ _ _ _ (.inl rfl) (fun b o hb e => (Heap.get?_update_other _ _ (Ne.symm hb)).trans e) (Heap.get?_update_self _ oS2 rfl)⟩))
      · refine wpAny_bind (wpAny_rule (wpAny_bind (wpAny_attempt (wpAny_holding (PySem.P.add_int ?_)))))
        show wpAny _ A.in1 (updateSeq S (fun _ => #[.int (ns.sum + z) _]) >>= _) _ _ _
        refine wpAny_bind (wpAny_updateSeq oS2 rfl ?_)
        have oS3 := Heap.get?_update_self (Obj.mapSeq fun _ => #[Value.int (ns.sum + z) (s1.setGen gn gs').toks]) oS2 rfl
        refine wpAny_bind (wpAny_letGo (wpAny_bind (wpAny_updateSeq oS3 rfl (wpAny_pure ⟨plainId_quiet F.plain_sum_loop _, nxt 2 _ _ _ _ (.inr rfl) (fun b o hb e => (Heap.get?_update_other _ _ (Ne.symm hb)).trans ((Heap.get?_update_other _ _ (Ne.symm hb)).trans e)) (Heap.get?_update_self _ oS3 rfl)⟩))))
    · show wpAny _ A.in1 ((holding [Value.int z t] (binaryOp .Add (.int ns.sum t0) (.int z t))).attempt >>= _) _ _ _
      refine wpAny_bind (wpAny_attempt (wpAny_holding (PySem.P.add_int ?_)))
      show wpAny _ A.in1 (updateSeq S (fun _ => #[.int (ns.sum + z) _]) >>= _) _ _ _
      refine wpAny_bind (wpAny_updateSeq oS2 rfl ?_)
      have oS3 := Heap.get?_update_self (Obj.mapSeq fun _ => #[Value.int (ns.sum + z) (s1.setGen gn gs').toks]) oS2 rfl
      refine wpAny_bind (wpAny_letGo (wpAny_bind (wpAny_updateSeq oS3 rfl (wpAny_pure ⟨plainId_quiet F.plain_sum_loop _, nxt 2 _ _ _ _ (.inr rfl) (fun b o hb e => (Heap.get?_update_other _ _ (Ne.symm hb)).trans ((Heap.get?_update_other _ _ (Ne.symm hb)).trans e)) (Heap.get?_update_self _ oS3 rfl)⟩))))
  · obtain ⟨eS, ys1, H1, J1, hS1, ⟨o1, oS1, ns1, t1, c1, rfl, e1⟩, hz1, q1⟩ := hp
    have e2 : ns.sum = ns1.sum := rB (Option.some.inj ((eS.trans oS).symm.trans oS1) |>.trans e1)
    have J2 : Inv Xc pg σc H1 (s1.setGen gn .finished) := J1.gens rfl rfl (cZ J1.bare rfl) (Nat.le_of_eq cX.symm)
    have := hR ns1 H1 _ t0 (J2.kept (t' := (s1.setGen gn .finished).toks) hk) q1
    rw [← e2] at this
    exact wpAny_pure this
 intro n
 induction n with
 | zero => exact fun st s => turn 0 (fun n' st s e => by omega) st s
 | succ n ih => exact fun st s => turn (n + 1) (fun n' st s e => by cases e; exact ih st s) st s
end
section
variable {prog : Program} {w : World} {A : Around} {E : Value → Shared → Prop} {s : Shared} {a : Addr} {gn : Nat}
theorem mM (hg : s.heap.IsGen a gn)
 (h : ∀ (tk : Nat) (t0 : Tok) (h3 : Heap), h3.get? s.heap.objs.size = some { cls := .type "list", dict := none, data := .seq #[.int 0 t0] 0, slots := #[] } → (∀ b o, s.heap.get? b = some o → h3.get? b = some o) →
  codeAny (model prog w) A (.builtin "sum.loop" ⟨[.ref a, .ref s.heap.objs.size, rawInt 0, rawInt 0], []⟩) (wants Q E) { s with heap := h3, toks := tk }) :
 wpAny (model prog w) A (call (.builtin "sum") [.ref a]) Q E s := by
 refine call_function_tree F.kind_sum F.plain_sum F.entry_sum (F.args_sum1 _) ?_
 refine wpAny_bind (wpAny_of_eq (rfl) (wpAny_bind (wpAny_pyIter_gen hg (wpAny_bind (wpAny_mkInt (wpAny_bind (wpAny_pure ?_)))))))
 refine wpAny_bind (wpAny_bind (wpAny_bind (wpAny_isInstance (typeIs_int _ _ _) PySem.sub_int_str ?_)))
 refine wpAny_pure (wpAny_pure (wpAny_bind (wpAny_newObj_type (wpAny_pure ⟨plainId_quiet F.plain_sum_loop _, ?_⟩))))
 exact h _ _ _ (Heap.get?_push_size _ rfl) fun b o e => Heap.get?_push_of_some _ e
end
def rg : Nat → Around → Around
 | 0, A => A
 | d + 1, A => (rg d A).in1
theorem tV (A : Around) : ∀ d, (rg d A).handled = A.handled
 | 0 => rfl
 | d + 1 => tV A d
theorem u9 (A : Around) : ∀ d, (rg d A).depth = A.depth
 | 0 => rfl
 | d + 1 => u9 A d
theorem u8 (A : Around) : ∀ d, (rg d A).units = A.units + d
 | 0 => rfl
 | d + 1 => by show (rg d A).units + 1 = _; rw [u8 A d]; rfl
def cg (d : Nat) (X : Cx) (N' : List Str) (elt : Expr) (gs : List Comprehension) (scope : Scope) (pos : Pos) (cl : List (Str × Addr)) (C : Addr) (code : Value) (it : Addr) (ex : List Addr) (s : Shared) (H : Hp) : Cx :=
 { rH X N' elt gs scope pos cl C code it ex s H with A := (rg d X.A).over (.compLoop (.GeneratorExp elt gs scope pos) 0 (.ref it) .none (genEnv scope cl C code builtinsNs X.env)) [] }
theorem bv.gen4 {k d} (hd : d ≤ 4) {A} (r : bv (k + 1) A) {elt} {gs} {scope} {pos} {it acc} {env} : bv k ((rg d A).over (.compLoop (.GeneratorExp elt gs scope pos) 0 it acc env) []) := by
 have h1 := r.dp
 have h2 := r.un
 refine ⟨(tV A d).trans r.hd, ?_, ?_⟩
 · show (rg d A).depth + 0 + 1 + 3 * k + 5 < _
   rw [u9]
   omega
 · show (rg d A).units + 0 + 3 + 16 * k + 200 < _
   rw [u8]
   omega
theorem HU {d : Nat} (hd : d = 2 ∨ d = 4) {X : Cx} {pins : List (Addr × Obj)} {σ : St} {H : Hp} {s : Shared} {N' : List Str} {elt : Expr} {gs : List Comprehension} {scope : Scope} {pos : Pos} {cl : List (Str × Addr)} {C : Addr} {code : Value} {it : Addr} {ex : List Addr} {s0 : Shared} {H0 : Hp} (I : Inv (rH X N' elt gs scope pos cl C code it ex s0 H0) pins σ H s) : Inv (cg d X N' elt gs scope pos cl C code it ex s0 H0) pins σ H s := by
 rcases hd with rfl | rfl <;> exact ⟨{ I.ok with hd := I.ok.hd, frames := I.ok.frames }, I.os, I.bare, I.base, I.loc, I.cell, I.free, I.freeC, I.pin, I.hok, I.len⟩
def zd (P : Addr) (ix : List (Option Nat)) (wi : TI) (g : TG) (tt : TT) (te : TE) : TE := fun σ H Q => wi σ H fun J H1 => H1 P = some (cP P) ∧ uU J (aY ix σ) g tt te (fun ys H' => ∀ p, H' p = none → Q (.ref p) (bB H' p (.tup ys))) H1
def se (OkL : List V → Prop) (J : It) (σc : St) (g : TG) (tt : TT) (te : TE) (Q : List V → Hp → Prop) (H1 : Hp) : Prop :=
 fK OkL (fun ys => ys.length ≤ sizeLine) (fun ys => ys.length < sizeLine) (CP te) [] J σc g tt Q H1
def zC (P : Addr) (ix : List (Option Nat)) (wi : TI) (g : TG) (tt : TT) (te : TE) : TE := fun σ H Q => wi σ H fun J H1 => H1 P = some (cP P) ∧ se kF J (aY ix σ) g tt te (fun ys H' => ∀ ns : List Int, ys = ns.map V.int → Q (.int ns.sum) H') H1
section
variable {X : Cx}
theorem pb {d : Nat} (hd4 : d = 2 ∨ d = 4) {RA : List V → Obj → Prop} {OkL : List V → Prop} (hRA : ∀ ys o v, RA ys o → o.data ≠ .cell v) {QF : List V → Hp → Prop} {KK : It → Hp → Prop} {pins : List (Addr × Obj)} {s : Shared} {σ : St} {H : Hp} {elt target iter : Expr} {ifs : List Expr} {scope : Scope} {pos : Pos} {N' : List Str} {ix : List (Option Nat)} {wi : TI} {g : TG} {tt : TT} {te : TE} {c P : Addr} {QQ : Value → Shared → Prop}
 (hcalm : X.calm = true) (hroom : X.A.depth < recursionLimit) (hi : PI X target iter wi)
 (hg : ∀ cl C code it ex s H, PG (cg d X N' elt [⟨target, iter, ifs, 0⟩] scope pos cl C code it ex s H) target g) (hf : ∀ cl C code it ex s H, PF (cg d X N' elt [⟨target, iter, ifs, 0⟩] scope pos cl C code it ex s H) ifs tt)
 (he : ∀ cl C code it ex s H, PE (cg d X N' elt [⟨target, iter, ifs, 0⟩] scope pos cl C code it ex s H) elt te)
 (hok : aO X.env.scope X.N scope N' ix = true) (hco : scope.isCoroutine = false) (h0 : scope.names.lookup (".0" : Str) = some NameKind.local) (B : Bm X.mg X.base) (hc : X.env.code = .ref c) (hd : PySem.W.CodeHd X.base c P)
 (hs : ∀ x, genFold iter X.env x = pure x) (I : Inv X pins σ H s) (h : wi σ H KK) (hKK : ∀ J H1, KK J H1 → H1 P = some (cP P) ∧ se OkL J (aY ix σ) g tt te QF H1)
 (hQQ : ∀ (Xc : Cx) (pg : List (Addr × Obj)) (σc : St) (a : Addr) (gn n : Nat) (s' : Shared), Xc.prog = X.prog → Xc.w = X.w → gn < Xc.s₀.gens.size → (∀ {H s}, Inv Xc pg σc H s → s.heap.IsGen a gn) → s'.heap.IsGen a gn →
  (∀ h3 tk o, h3.get? s'.heap.objs.size = some o → RA [] o → (∀ b o, s'.heap.get? b = some o → h3.get? b = some o) → nC RA OkL Xc pg σc s'.heap.objs.size QF (rg d X.A) gn n { s' with heap := h3, toks := tk }) →
  (∀ {H : Hp}, H s'.heap.objs.size = none → bC Xc pg H s'.heap.objs.size) →
  (∀ (H : Hp) (s'' : Shared), Inv Xc pg σc H s'' → Inv X pins σ H s'') → QQ (.ref a) s') :
 wpAny (model X.prog X.w) X.A (eval (.GeneratorExp elt [⟨target, iter, ifs, 0⟩] scope pos) X.env) QQ X.xe s := by
 obtain ⟨hk, _, hcell⟩ := cu hok
 obtain ⟨_, _, cl, hcl, hc1, hc2⟩ := gP I hok
 refine wpAny_GeneratorExp_make hco hcl hcell h0 hk hroom (aU (hi pins s σ H _ I h) fun v s1 h1 => aU h1 fun itv s2 h2 => ?_) hs
 obtain ⟨it, fp, tn, J, H2, e, I2, T, st2, f2, kk⟩ := h2
 obtain ⟨ht, W, ⟨m0, w0⟩, hWL, turn⟩ := hKK _ _ kk
 subst e
 refine ⟨I2.nolimit, uz I2 hc hd ht fun code h3 tk3 I3 k3 => xz I3 B ?_⟩
 intro h4 hns4 hsb4
 dsimp only at hns4 hsb4 ⊢
 have fpP : ∀ b ∈ fp, b ≠ P := fun b hb z => by
  have := (f2 b hb).1
  rw [z, ht] at this
  cases this
 have st3 : tn 0 h3 := T.keep _ _ _ st2 fun b hb o e => k3 b o (fpP b hb) e
 have fpLt : ∀ b ∈ fp, b < h3.objs.size := fun b hb => by
  obtain ⟨o, e, _⟩ := T.obj _ _ st3 b hb
  exact Heap.lt_size e
 have hz4 : h4.objs.size = h3.objs.size + 1 := by rw [hsb4.1, Heap.size_push]
 have old4 : ∀ b o, h3.get? b = some o → h4.get? b = some o := fun b o e => hsb4.extBut b o (Nat.ne_of_lt (Heap.lt_size e)) (Heap.get?_push_of_some _ e)
 generalize hog : ({ cls := .type "generator", data := .fields #[.int s2.gens.size 0, .str "<genexpr>" (tk3 + 1), .str (X.env.qual ++ "<genexpr>") (tk3 + 1 + 1)] } : Obj) = og
 have old5 : ∀ b o, h3.get? b = some o → (h4.push og).get? b = some o := fun b o e => Heap.get?_push_of_some _ (old4 b o e)
 have hex : ∀ b ∈ fp, bC X pins H2 b ∧ b < ({ s2 with heap := h3, toks := tk3 } : Shared).heap.objs.size := fun b hb => ⟨f2 b hb, fpLt b hb⟩
 have I5 := HU hd4 (xV I3 (elt := elt) (gs := [⟨target, iter, ifs, 0⟩]) (pos := pos) (code := code) (it := it) (tk := tk3 + 1 + 1 + 1) (g' := s2.gens.push (.fresh (.compStart (.GeneratorExp elt [⟨target, iter, ifs, 0⟩] scope pos) 0 (.ref it) .none (genEnv scope cl h3.objs.size code builtinsNs X.env)))) hok hc1 hc2 hex (hns4.push og) old5 (I3.bare.push rfl))
 generalize hXc : cg d X N' elt [⟨target, iter, ifs, 0⟩] scope pos cl ({ s2 with heap := h3, toks := tk3 } : Shared).heap.objs.size code it fp _ H2 = Xc at I5
 have hg' : PG Xc target g := by rw [← hXc]; exact hg _ _ _ _ _ _ _
 have hf' : PF Xc ifs tt := by rw [← hXc]; exact hf _ _ _ _ _ _ _
 have he' : PE Xc elt te := by rw [← hXc]; exact he _ _ _ _ _ _ _
 have xP : Xc.prog = X.prog := by rw [← hXc]; rfl
 have xw : Xc.w = X.w := by rw [← hXc]; rfl
 have xK : Xc.K = X.K := by rw [← hXc]; rfl
 have xE : Xc.env = genEnv scope cl h3.objs.size code builtinsNs X.env := by rw [← hXc]; rfl
 have xA : Xc.A = (rg d X.A).over (.compLoop (.GeneratorExp elt [⟨target, iter, ifs, 0⟩] scope pos) 0 (.ref it) .none Xc.env) [] := by rw [xE, ← hXc]; rfl
 have xc : Xc.calm = true := by rw [← hXc]; exact hcalm
 have xL : Xc.env.locals = h3.objs.size := by rw [xE]; rfl
 have xx : Xc.ex = fp := by rw [← hXc]; rfl
 have xp : Xc.pn = [] := by rw [← hXc]; rfl
 have xs : Xc.s₀.heap = h3 := by rw [← hXc]; rfl
 have xsg : Xc.s₀.gens.size = s2.gens.size + 1 := by rw [← hXc]; exact Array.size_push _
 have xso : Xc.s₀.os = s2.os := by rw [← hXc]; rfl
 have xH : Xc.H₀ = H2 := by rw [← hXc]; rfl
 have xf : Xc.fs = n9 X.stack := by rw [← hXc]; rfl
 have xcl : Xc.env.cells = cl := by rw [xE]; rfl
 have xx' : Xc.xe = fun _ _ => False := by rw [← hXc]; rfl
 have xco : Xc.env.scope.isCoroutine = false := by rw [xE]; exact hco
 have aLt : (h3.objs.size : Nat) < h4.objs.size := by omega
 have aFp : h4.objs.size ∉ fp := fun hb => Nat.lt_irrefl _ (Nat.lt_trans aLt (fpLt _ hb))
 have stat : ∀ {S : Addr} {H' : Hp} {o : Obj}, S ∉ fp → (∀ b ∈ fp, H' b = none) → ∀ b ∈ fp, bC Xc ((S, o) :: [(h4.objs.size, og)]) H' b := fun {S H' o} hSf hn b hb => by
  refine ⟨hn b hb, by rw [xL]; exact Nat.ne_of_lt (fpLt b hb), by rw [xf]; exact I2.off (f2 b hb), .inl (by rw [xx]; exact hb), fun x c e => (f2 b hb).2.2.2.2.1 x c (hc1 x c (by rw [xcl] at e; exact e)), fun p hp z => ?_⟩
  rw [xp] at hp
  have hp' : p = (S, o) ∨ p = (h4.objs.size, og) := by simpa using hp
  rcases hp' with hp' | hp'
  · rw [hp'] at z
    exact hSf (by have z' : S = b := z; rw [z']; exact hb)
  · rw [hp'] at z
    exact aFp (by have z' : h4.objs.size = b := z; rw [z']; exact hb)
 have aX : h4.objs.size ∉ n9 X.stack := fun hb => by
  rcases List.mem_cons.mp (I3.stkSub _ hb) with z | z
  · have h' : X.env.locals < h3.objs.size := I3.lt
    exact Nat.lt_irrefl _ (Nat.lt_trans aLt (by rw [z]; exact h'))
  · exact I3.nofs (a := h4.objs.size) (Nat.le_of_lt aLt) z
 have I6 : Inv Xc [(h4.objs.size, og)] (aY ix σ) H2 { s2 with heap := h4.push og, gens := s2.gens.push (.fresh (.compStart (.GeneratorExp elt [⟨target, iter, ifs, 0⟩] scope pos) 0 (.ref it) .none (genEnv scope cl h3.objs.size code builtinsNs X.env))), toks := tk3 + 1 + 1 + 1 } := I5.pins_of fun p hp => by
  have hp' : p = (h4.objs.size, og) := by simpa using hp
  subst hp'
  refine ⟨Heap.get?_push_size _ (by rw [← hog]; rfl), I3.hok.fresh (Nat.le_of_lt aLt), by rw [xL]; exact Nat.ne_of_gt aLt, by rw [xf]; exact aX, fun v z => ?_⟩
  rw [← hog] at z
  cases z
 rw [← xP, ← xw, ← xK] at T
 have hz5 : (h4.push og).objs.size = h4.objs.size + 1 := Heap.size_push _ _
 have sF : ∀ b ∈ fp, b < (h4.push og).objs.size := fun b hb => by rw [hz5]; exact Nat.lt_succ_of_lt (Nat.lt_trans (fpLt b hb) aLt)
 have hSf : (h4.push og).objs.size ∉ fp := fun hm => Nat.lt_irrefl _ (sF _ hm)
 have fS : ∀ {H : Hp}, H (h4.push og).objs.size = none → bC Xc [(h4.objs.size, og)] H (h4.push og).objs.size := fun {H} hn => I6.fpOk (Nat.le_refl _) hn
 have seg := xY (OkL := OkL) (Q := QF) hRA (Xc := Xc) (pg := [(h4.objs.size, og)]) (σc := aY ix σ) (S := (h4.push og).objs.size) (A1 := rg d X.A) (W := W) T xA xc xx' xco hg' hf' he' hSf (fS (H := fun _ => none) rfl).2.1 (fS (H := fun _ => none) rfl).2.2.1 (stat hSf) turn hWL m0 (m0 + 1) (Nat.lt_succ_self _) 0 [] H2
 have genAt : ∀ {H s}, Inv Xc [(h4.objs.size, og)] (aY ix σ) H s → s.heap.IsGen h4.objs.size s2.gens.size := fun {H s} K => by
  have := (K.pin (h4.objs.size, og) (List.mem_append_right _ (List.mem_singleton.mpr rfl))).1
  exact ⟨og, _, _, this, by rw [← hog], by rw [← hog], by rw [← hog]⟩
 refine hQQ Xc [(h4.objs.size, og)] (aY ix σ) h4.objs.size s2.gens.size (m0 + 1) _ xP xw (by rw [xsg]; exact Nat.lt_succ_self _) genAt (genAt I6) (fun h6 tk6 o6 e6 a6 k6 => ?_) fS (fun H' s' K => ?_)
 · refine ⟨[], H2, _, I6.kept (t' := tk6) k6, I6.hok.fresh (Nat.le_refl _), ⟨o6, e6, a6⟩, Array.getElem?_push_size .., fun s'' I'' e'' => ⟨rfl, ?_⟩⟩
   have e'' : s''.heap = h6 := e''
   have st'' : tn 0 s''.heap := by rw [e'']; exact T.keep _ _ _ st3 fun b hb o e => k6 b o (old5 b o e)
   rw [← xE]
   exact qE T st'' (seg s'' s'' w0 I'' (I6.hok.fresh (Nat.le_refl _)) (by rw [e'']; exact ⟨o6, e6, a6⟩) st'' (fun b hb => (f2 b hb).1) rfl)
 · have u := K.base
   rw [xs, xH, xf, xx] at u
   have ko := K.hok
   rw [xP, xw] at ko
   exact I3.call' (s' := s') (ch := fp) ⟨by rw [K.os.1, xso], by have := K.os.2; rw [xsg] at this; exact Nat.le_trans (Nat.le_succ _) this⟩ u ko K.bare (fun b hb => by
    have f := f2 b hb
    exact ⟨f.2.2.2.1, f.2.1, f.2.2.2.2.1, f.2.2.2.2.2⟩)
theorem xT {elt target iter : Expr} {ifs : List Expr} {scope : Scope} {pos cpos p : Pos} {N' : List Str} {ix : List (Option Nat)} {wi : TI} {g : TG} {tt : TT} {te : TE} {c P : Addr} {k : Nat} (hcalm : X.calm = true) (hr : bv k X.A) (hgl : Gl X "tuple") (hm : X.mg "tuple" = none) (B : Bm X.mg X.base) (hd : PySem.W.CodeHd X.base c P) (hc : X.env.code = .ref c) (hi : PI X target iter wi)
 (hg : ∀ cl C code it ex s H, PG (cg 4 X N' elt [⟨target, iter, ifs, 0⟩] scope pos cl C code it ex s H) target g) (hf : ∀ cl C code it ex s H, PF (cg 4 X N' elt [⟨target, iter, ifs, 0⟩] scope pos cl C code it ex s H) ifs tt)
 (he : ∀ cl C code it ex s H, PE (cg 4 X N' elt [⟨target, iter, ifs, 0⟩] scope pos cl C code it ex s H) elt te)
 (hok : aO X.env.scope X.N scope N' ix = true) (hco : scope.isCoroutine = false) (h0 : scope.names.lookup (".0" : Str) = some NameKind.local)
 (hs : ∀ x, genFold iter X.env x = pure x) :
 PE X (.Call (.Name "tuple" p) [.GeneratorExp elt [⟨target, iter, ifs, 0⟩] scope pos] [] cpos) (zd P ix wi g tt te) := by
 intro pins s σ H Q I h
 refine wpAny_Call_Name_kw (cz I hgl hm (show bootBuiltins (Str.ofString "tuple") = some (.type "tuple") by decide +kernel) ?_)
 refine PyProof.Rows.callWith_type1 ?_ rfl rfl
 refine Calls.spliced_cons (pb (.inr rfl) (RA := RT) (OkL := fun _ => True) (fun ys o v ho z => by obtain ⟨_, _, rfl, _⟩ := ho; cases z) hcalm hr.depth hi hg hf he hok hco h0 B hc hd hs I h (fun _ _ h => h) fun Xc pg σc a gn n s' xP xw hgn hpin hgen hrdy hS hfin => Calls.spliced_nil ?_)
 refine jS hgen fun h3 k e3 k3 => ?_
 have L := fun RR hR => sU (A := X.A.in1.in1) (RR := RR) (res := .ref s'.heap.objs.size) hr.hd hr.depth hgn hpin hS hR n _ (hrdy h3 s'.toks _ e3 ⟨[], k, rfl, .nil⟩ k3)
 rw [xP, xw] at L
 refine L _ fun ys H1 s'' J hS1 acc hz q => ?_
 obtain ⟨_, oS, its, k', rfl, vS⟩ := acc
 have J1 := hfin H1 _ J
 refine ⟨rfl, its, k', oS, by rw [← vS.length]; exact hz, .ref _, _, J1.laid (fun b o e => Heap.get?_push_of_some _ e) (Nat.le_refl _) ?_, rfl, q _ (J1.hok.fresh (Nat.le_refl _))⟩
 exact ⟨hz, its, vS, _, Heap.get?_push_size _ rfl, rfl, _, rfl⟩
theorem yv {elt target iter : Expr} {ifs : List Expr} {scope : Scope} {pos cpos p : Pos} {N' : List Str} {ix : List (Option _)} {wi} {g} {tt} {te} {c P} {k} (hcalm : X.calm = true) (hr : bv k X.A) (hgl : Gl X "sum") (hm : X.mg "sum" = none) (B : Bm X.mg X.base) (hd : PySem.W.CodeHd X.base c P) (hc : X.env.code = .ref c) (hi : PI X target iter wi)
 (hg : ∀ cl C code it ex s H, PG (cg 2 X N' elt [⟨target, iter, ifs, 0⟩] scope pos cl C code it ex s H) target g) (hf : ∀ cl C code it ex s H, PF (cg 2 X N' elt [⟨target, iter, ifs, 0⟩] scope pos cl C code it ex s H) ifs tt)
 (he : ∀ cl C code it ex s H, PE (cg 2 X N' elt [⟨target, iter, ifs, 0⟩] scope pos cl C code it ex s H) elt te)
 (hok : aO X.env.scope X.N scope N' ix = true) (hco : scope.isCoroutine = false) (h0 : scope.names.lookup (".0" : Str) = some NameKind.local)
 (hs : ∀ x, genFold iter X.env x = pure x) :
 PE X (.Call (.Name "sum" p) [.GeneratorExp elt [⟨target, iter, ifs, 0⟩] scope pos] [] cpos) (zC P ix wi g tt te) := by
 intro pins s σ H Q I h
 refine wpAny_Call_Name_kw (cz I hgl hm (show bootBuiltins _ = some (.builtin "sum") by decide +kernel) ?_)
 refine PyProof.Rows.callWith_builtin1 ?_ rfl rfl
 refine Calls.spliced_cons (pb (.inl rfl) (RA := RS) (fun ys o v ho z => by obtain ⟨_, _, _, _, rfl⟩ := ho; cases z) hcalm hr.depth hi hg hf he hok hco h0 B hc hd hs I h (fun J H1 k => k) fun Xc pg σc a gn n s' xP xw hgn hpin hgen hrdy hS hfin => Calls.spliced_nil ?_)
 refine mM hgen fun tk t0 h3 e3 k3 => ?_
 have L := fun RR hR => vh (RR := RR) hr.hd hr.depth hgn hpin hS hR n 0 _ (.inl rfl) (hrdy h3 tk _ e3 ⟨[], t0, 0, rfl, rfl⟩ k3)
 rw [xP, xw] at L
 exact L _ fun ns H1 s'' t J q => ⟨.int _, H1, hfin H1 _ J, ⟨t, rfl⟩, q ns rfl⟩
end
end L2
end
section
namespace HT
open PySem PyProof.Rows
end HT
namespace L2
def qe (x : Int) : List Int → List Int
 | [] => [x]
 | y :: r => if x ≤ y then x :: y :: r else y :: qe x r
def bH : List Int → List Int
 | [] => []
 | x :: r => qe x (bH r)
theorem fY (x : Int) : ∀ l, (qe x l).Perm (x :: l)
 | [] => .refl _
 | y :: r => by
  unfold qe
  split
  · exact .refl _
  · exact ((fY x r).cons y).trans (.swap x y r)
theorem bQ : ∀ l, (bH l).Perm l
 | [] => .refl _
 | x :: r => (fY x _).trans ((bQ r).cons x)
theorem gv (x : Int) : ∀ l, l.Pairwise (· ≤ ·) → (qe x l).Pairwise (· ≤ ·)
 | [], _ => List.pairwise_singleton _ _
 | y :: r, h => by
  unfold qe
  rw [List.pairwise_cons] at h
  split
  · next hxy =>
    refine List.pairwise_cons.mpr ⟨fun z hz => ?_, List.pairwise_cons.mpr h⟩
    rcases List.mem_cons.mp hz with e | e
    · rw [e]; exact hxy
    · exact Int.le_trans hxy (h.1 z e)
  · next hxy =>
    refine List.pairwise_cons.mpr ⟨fun z hz => ?_, gv x r h.2⟩
    rcases List.mem_cons.mp ((fY x r).mem_iff.mp hz) with e | e
    · omega
    · exact h.1 z e
theorem bG : ∀ l, (bH l).Pairwise (· ≤ ·)
 | [] => .nil
 | x :: r => gv x _ (bG r)
theorem cA : ∀ {a b : List Int}, a.Perm b → a.Pairwise (· ≤ ·) → b.Pairwise (· ≤ ·) → a = b
 | [], b, p, _, _ => (List.nil_perm.mp p).symm
 | x :: a, [], p, _, _ => absurd (List.perm_nil.mp p) (by simp)
 | x :: a, y :: b, p, ha, hb => by
  rw [List.pairwise_cons] at ha hb
  have e : x = y := by
   have h1 := p.mem_iff.mpr List.mem_cons_self
   have h2 := p.mem_iff.mp List.mem_cons_self
   rcases List.mem_cons.mp h1 with z | z
   · exact z.symm
   · rcases List.mem_cons.mp h2 with z' | z'
     · exact z'
     · exact Int.le_antisymm (ha.1 y z) (hb.1 x z')
  subst e
  rw [cA (List.Perm.cons_inv p) ha.2 hb.2]
end L2
end
section
namespace L2
def vF (xs : Array Nat) : Prop := ∀ i j : Nat, ∀ (hi : i < xs.size) (hj : j < xs.size), i < j → xs[i] < xs[j]
structure IH (xs : Array Nat) (j r : Nat) : Prop where
 le : r ≤ xs.size
 lo : ∀ i (h : i < xs.size), i < r → xs[i] < j
 hi : ∀ i (h : i < xs.size), r ≤ i → j ≤ xs[i]
theorem gN {j} (hx : vF xs) : ∀ (fuel lo hi : Nat), lo ≤ hi → hi ≤ xs.size → hi - lo ≤ fuel → (∀ i (h : i < xs.size), i < lo → xs[i] < j) → (∀ i (h : i < xs.size), hi ≤ i → j ≤ xs[i]) → IH xs j (SetTable.below.go xs j fuel lo hi)
 | 0, lo, hi, h1, h2, h3, h4, h5 => by
  have e : lo = hi := by omega
  subst e
  exact ⟨h2, h4, h5⟩
 | fuel + 1, lo, hi, h1, h2, h3, h4, h5 => by
  unfold SetTable.below.go
  by_cases hl : lo < hi
  · rw [if_pos hl]
    have hm : (lo + hi) / 2 < xs.size := by omega
    have eg : xs.getD ((lo + hi) / 2) j = xs[(lo + hi) / 2] := by simp_all
    show IH xs j (if xs.getD _ j < j then _ else _)
    rw [eg]
    by_cases hc : xs[(lo + hi) / 2] < j
    · rw [if_pos hc]
      refine gN hx _ _ _ (by omega) h2 (by omega) (fun i h hi' => ?_) h5
      by_cases e : i = (lo + hi) / 2
      · subst e; exact hc
      · exact Nat.lt_trans (hx i _ h hm (by omega)) hc
    · rw [if_neg hc]
      refine gN hx _ _ _ (by omega) (by omega) (by omega) h4 fun i h hi' => ?_
      by_cases e : i = (lo + hi) / 2
      · subst e; omega
      · exact Nat.le_trans (by omega) (Nat.le_of_lt (hx _ i hm h (by omega)))
  · rw [if_neg hl]
    have e : lo = hi := by omega
    subst e
    exact ⟨h2, h4, h5⟩
theorem ej (hx : vF xs) (j : Nat) : IH xs j (SetTable.below xs j) :=
 gN hx _ 0 _ (Nat.zero_le _) (Nat.le_refl _) (by omega) fun i h z => by omega fun i h z => by omega
theorem tY {p} {x} (h : p ≤ xs.size) : (SetTable.insertAt xs p x).size = xs.size + 1 := by
 unfold SetTable.insertAt
 simp
 omega
theorem rS {p} {x} (h : p ≤ xs.size) {i} (hi : i < (SetTable.insertAt xs p x).size) : (SetTable.insertAt xs p x)[i]? = if i < p then xs[i]? else if i = p then some x else xs[i - 1]? := by
 unfold SetTable.insertAt
 grind
theorem xi {j} (hx : vF xs) (hn : ∀ i (h : i < xs.size), xs[i] ≠ j) : vF (SetTable.insertAt xs (SetTable.below xs j) j) := by
 have c := ej hx j
 generalize SetTable.below xs j = p at c
 intro a b ha hb hab
 have ga := rS c.le ha
 have gb := rS c.le hb
 rw [Array.getElem?_eq_getElem ha] at ga
 rw [Array.getElem?_eq_getElem hb] at gb
 have hs := tY (x := j) c.le
 rw [hs] at ha hb
 by_cases a1 : a < p
 · rw [if_pos a1, Array.getElem?_eq_getElem (by have := c.le; omega)] at ga
   rw [Option.some.inj ga]
   have la := c.lo a (by have := c.le; omega) a1
   by_cases b1 : b < p
   · rw [if_pos b1, Array.getElem?_eq_getElem (by have := c.le; omega)] at gb
     rw [Option.some.inj gb]
     exact hx a b _ _ hab
   · rw [if_neg b1] at gb
     by_cases b2 : b = p
     · simp_all
     · rw [if_neg b2, Array.getElem?_eq_getElem (by omega)] at gb
       rw [Option.some.inj gb]
       exact Nat.lt_of_lt_of_le la (c.hi _ _ (by omega))
 · rw [if_neg a1] at ga
   rw [if_neg (by omega), if_neg (by omega), Array.getElem?_eq_getElem (by omega)] at gb
   rw [Option.some.inj gb]
   by_cases a2 : a = p
   · rw [if_pos a2] at ga
     rw [Option.some.inj ga]
     have h1 := c.hi (b - 1) (by omega) (by omega)
     have h2 := hn (b - 1) (by omega)
     omega
   · rw [if_neg a2, Array.getElem?_eq_getElem (by omega)] at ga
     rw [Option.some.inj ga]
     exact hx _ _ _ _ (by omega)
theorem qf {t : SetTable} (hx : vF t.place) {j} (h : ∀ i, t.slot j ≠ .live i) : ∀ i (hi : i < t.place.size), t.place[i] ≠ j := by
 intro i hi e
 have c := ej hx j
 have hb : SetTable.below t.place j = i := by
  rcases Nat.lt_trichotomy (SetTable.below t.place j) i with z | z | z
  · have h1 := c.hi _ (by omega) (Nat.le_refl _)
    have h2 := hx _ i (by omega) hi z
    omega
  · exact z
  · have := c.lo i hi z
    omega
 refine h i ?_
 unfold SetTable.slot
 simp_all
theorem eV : ∀ (fuel : Nat) (p : SetTable.Probe) {j} {d}, (∀ k, p.dummy = some k → t.slot k = .dummy) → SetTable.probe.go t f h fuel p = some (.empty j d) → t.slot j = .empty ∧ ∀ k, d = some k → t.slot k = .dummy
 | 0, p, j, d, _, e => by cases e
 | fuel + 1, p, j, d, hd, e => by
  unfold SetTable.probe.go at e
  have adv : ∀ q, (t.advance q).dummy = q.dummy := fun q => by
   unfold SetTable.advance
   split <;> rfl
  cases hs : t.slot p.j with
  | empty =>
   grind
  | dummy =>
   rw [hs] at e
   refine eV _ _ (fun k hk => ?_) e
   grind
  | live i =>
   rw [hs] at e
   dsimp only at e
   split at e
   · cases e
   · refine eV _ _ (fun k hk => hd k ?_) e
     grind
theorem iQ {t : SetTable} (hx : vF t.place) {h} {j} {b} (e : t.freeSlot h = some (j, b)) : ∀ i (hi : i < t.place.size), t.place[i] ≠ j := by
 unfold SetTable.freeSlot at e
 split at e
 · next j0 d hp =>
   obtain ⟨h1, h2⟩ := eV _ _ (fun k hk => by cases hk) hp
   refine qf hx fun i z => ?_
   cases d with
   | none => grind
   | some k => grind
 · cases e
theorem qo (n : Nat) : vF (Array.range n) := by
 intro i j hi hj hij
 simpa using hij
structure gB (b : Bool) (t : SetTable) : Prop where
 inc : vF t.place
 led : t.led = b
theorem gB.standIn (h : gB b t) (n : Nat) : gB b (t.standIn n) := ⟨qo n, h.led⟩
theorem gB.layNew (h : gB b t) (es : Array _) (k : Int) (x : Value) : gB b (layNew t es k x).2.1 := by
 unfold PySem.layNew
 split
 · next j d e =>
   have hp : gB b (t.put j).1 := ⟨xi h.inc (iQ h.inc e), h.led⟩
   show gB b ((t.put j).1.orStandIn _)
   unfold SetTable.orStandIn
   split
   · exact hp
   · exact hp.standIn _
 · exact h.standIn _
theorem yw {α : Type} (f : Nat → Option α) (n : Nat) : vF (((List.range n).filterMap fun j => (f j).map (j, ·)).map (·.1)).toArray := by
 have e : ((List.range n).filterMap fun j => (f j).map (j, ·)).map (·.1) = (List.range n).filter fun j => (f j).isSome := by
  induction List.range n with
  | nil => rfl
  | cons x l ih =>
   cases h : f x with
   | none => simpa [h] using ih
   | some y => simpa [h] using ih
 rw [e]
 have hp : ((List.range n).filter fun j => (f j).isSome).Pairwise _ := List.Pairwise.filter _ List.pairwise_lt_range
 intro i j hi hj hij
 have := List.pairwise_iff_getElem.mp hp i j (by simpa using hi) (by simpa using hj) hij
 simpa using this
theorem gB.relayAll (h : gB b t) (es : Array _) (n : Nat) : gB b (relayAll t es n).2.1 := by
 unfold PySem.relayAll
 split
 · next t' o e =>
   have ht : gB b t' := by
    unfold SetTable.relaid SetTable.laid at e
    cases hc : SetTable.layClean _ _ with
    | none => rw [hc] at e; cases e
    | some ow => rw [hc] at e; cases e; exact ⟨yw _ _, h.led⟩
   dsimp only
   split
   · exact ht
   · exact h.standIn _
 · exact h.standIn _
theorem gB.fresh (f m : Nat) : gB b (SetTable.fresh f m b) := ⟨fun i j hi _ _ => absurd hi (Nat.not_lt_zero _), rfl⟩
structure mP (b : Bool) (h : Heap) (a : Addr) (es : Array (Int × Value)) : Prop where
 ex : ∃ o ep t, h.get? a = some o ∧ o.ExactSet ∧ o.data = .set es ep t ∧ t.fits es.size = true ∧ gB b t
section
variable {prog : Program} {w : World} {K : Type} [DecidableEq K] {knd : KeyKind prog w K} {A : Around} {E : Value → Shared → Prop} {s : Shared} {b : Bool} {a : Addr}
theorem o9 {t'} {Q} (N : mP b s.heap a es) (hf : t'.fits es'.size = true) (hl : gB b t') (hz : es'.size < scanBound)
 (q : ∀ h', Heap.SameBut a s.heap h' → mP b h' a es' → Q () { s with heap := h' }) : wpAny (model prog w) A (storeSet a es' t') Q E s := by
 obtain ⟨o, ep, t, g, x, d, f, l⟩ := N.ex
 refine wpAny_storeSet_of g d (q _ (Heap.SameBut.update _ a _) ⟨{ o with data := .set _ (ep + 1) t' }, _, t', ?_, x, rfl, hf, hl⟩) (fits_of_scanBound hz)
 have u := Heap.get?_update_self (Obj.putSet es' t') g (by rw [putSet_of _ t' d]; rfl)
 rwa [putSet_of _ t' d] at u
theorem Cn {way : Bool → Sem _} (hw : ∀ (c : Bool) (z : Shared) (R : Unit → Shared → Prop), R () z → wpAny (model prog w) A (way c) R E z) {es es1} {t1} {d} {R} (N : mP b s.heap a es) (hf : t1.fits es1.size = true) (hl : gB b t1) (hz : es1.size < scanBound)
 (q : ∀ h' es', Heap.SameBut a s.heap h' → es'.toList.Perm es1.toList → mP b h' a es' → R (some true) { s with heap := h' }) :
 wpAny (model prog w) A (do
  storeSet a es1 t1
  if (!d && t1.tooFull) = true then
   match relayAll t1 es1 (SetTable.grown es1.size) with
   | (es, t, gave) => do
    way gave
    storeSet a es t
    pure (some true)
  else pure (some true)) R E s := by
 refine wpAny_bind (o9 N hf hl hz fun h1 sb N1 => ?_)
 split
 · have p := relayAll_perm t1 es1 (SetTable.grown es1.size)
   have f := relayAll_fits t1 es1 (SetTable.grown es1.size)
   have l := hl.relayAll es1 (SetTable.grown es1.size)
   cases e : relayAll t1 _ _ with
   | mk es2 r =>
    rw [e] at p f l
    have hs : es2.size = es1.size := p.length_eq
    exact wpAny_bind (hw _ _ _ (wpAny_bind (o9 N1 f l (by rw [hs]; exact hz) fun h2 sb2 N2 => wpAny_pure (q h2 _ (sb.trans sb2) p N2))))
 · exact wpAny_pure (q h1 _ sb (.refl _) N1)
theorem gB.bare (h : gB b t) : gB b { t with plain := false } := ⟨h.inc, h.led⟩
theorem FB {k} {x} {Q} (hk : knd.is k x = true) (hx : x.scannable = true) (N : mP b s.heap a es) (el : ElemsOf knd es.toList) (hb : es.size + 1 < scanBound)
 (q1 : (∃ e ∈ es.toList, knd.is k e.2 = true) → Q false s)
 (q2 : (∀ e ∈ es.toList, knd.is k e.2 = false) → ∀ h' es', Heap.SameBut a s.heap h' → es'.toList.Perm (es.toList ++ [(knd.hash k, x)]) → mP b h' a es' → Q true { s with heap := h' }) :
 wpAny (model prog w) A (setAddHashed a x (knd.hash k)) Q E s := by
 obtain ⟨o, ep, t, g, ox, d, f, l⟩ := N.ex
 refine wpAny_holding (wpAny_bind (wpAny_setState_of g d f ?_))
 show wpAny _ _ (if byScan x es = true then _ else _) _ _ _
 rw [if_pos (byScan_of hx (by omega) el)]
 refine wpAny_bind (wpAny_bind (wpAny_rule (wpAny_bind (wpAny_setScan_of hk g d f el ?_))))
 cases hr : es.toList.findIdx? _ with
 | some j =>
  obtain ⟨hj, hp, _⟩ := List.findIdx?_eq_some_iff_getElem.mp hr
  exact wpAny_pure (wpAny_pure (q1 ⟨_, List.getElem_mem hj, hp⟩))
 | none =>
  have no := fun e he => Bool.eq_false_iff.mpr (by simpa using List.findIdx?_eq_none_iff.mp hr e he)
  have p := layNew_perm t es (knd.hash k) x
  have f1 := layNew_fits t es (knd.hash k) x
  have l1 := l.layNew es (knd.hash k) x
  cases e : layNew t es _ x with
  | mk es1 r =>
   obtain ⟨t1, dm, gave⟩ := r
   rw [e] at p f1 l1
   rw [Array.toList_push] at p
   have hs : es1.size < scanBound := by
    have := p.length_eq
    grind
   have hw : ∀ (c : Bool) (z : Shared) (R : Unit → Shared → Prop), R () z → wpAny (model prog w) A (match c with | true => rule "set.scan.the-table-gave-way" | false => pure ()) R E z := fun c z R r => by
    cases c
    · exact wpAny_pure r
    · exact wpAny_rule r
   have dy := fun (t2 : SetTable) (f2 : t2.fits _ = true) l2 => Cn hw (d := dm) (R := fun r s' => wpAny (model prog w) A (match r with | some added => pure added | none => setAddHashedIn a x (knd.hash k) 99999) Q E s') N f2 l2 hs fun h' es' sb p' N' => wpAny_pure (q2 no h' _ sb (p'.trans p) N')
   refine wpAny_bind (hw _ _ _ ?_)
   by_cases hp : t1.plain = true
   · rw [if_pos hp]
     refine wpAny_bind ?_
     rw [hashByValue_scannable 8 hx]
     refine wpAny_pure ?_
     cases plainKind x
     · exact dy _ (f1) l1.bare
     · exact dy _ f1 l1
   · rw [if_neg hp]
     exact wpAny_bind (wpAny_pure (dy _ f1 l1))
end
section
variable (prog : Program) (w : World)
def xq (p : Int × Tok) : Int × Value := ((intKind prog w).hash p.1, .int p.1 p.2)
structure eN (b : Bool) (h : Heap) (a : Addr) (ks : List Int) : Prop where
 ex : ∃ (es : Array (Int × Value)) (l : List (Int × Tok)), mP b h a es ∧ es.toList.Perm (l.map (xq prog w)) ∧ l.map (·.1) = ks
end
section
variable {prog : Program} {w : World} {A : Around} {E : Value → Shared → Prop} {s : Shared} {b : Bool} {a : Addr}
theorem qb {l : List _} (p : es.Perm (l.map (xq prog w))) : ElemsOf (intKind prog w) es := by
 intro e he
 obtain ⟨y, hy, rfl⟩ := List.mem_map.mp (p.mem_iff.mp he)
 exact ⟨⟨y.1, intKind_is _ _ _ _, rfl⟩, rfl⟩
theorem pK {es : List _} {l : List _} (p : es.Perm (l.map (xq prog w))) {k} : (∃ e ∈ es, (intKind prog w).is k e.2 = true) ↔ k ∈ l.map (·.1) := by
 constructor
 · rintro ⟨e, he, h⟩
   obtain ⟨y, hy, rfl⟩ := List.mem_map.mp (p.mem_iff.mp he)
   have := (intKind _ w).inj _ _ _ h (intKind_is _ _ _ _)
   subst this
   exact List.mem_map.mpr ⟨y, hy, rfl⟩
 · intro h
   obtain ⟨y, hy, rfl⟩ := List.mem_map.mp h
   exact ⟨_, p.mem_iff.mpr (List.mem_map.mpr ⟨y, hy, rfl⟩), intKind_is _ _ _ _⟩
theorem eN.add {k} {t} {Q} (I : eN prog w b s.heap a ks) (hb : ks.length + 1 < scanBound)
 (q : ∀ h' r, Heap.SameBut a s.heap h' → eN prog w b h' a (step_dedup ks k) → Q r { s with heap := h' }) : wpAny (model prog w) A (setAddHashed a (.int k t) ((intKind prog w).hash k)) Q E s := by
 obtain ⟨es, l, N, p, e⟩ := I.ex
 have hz : es.size = ks.length := by rw [← e, List.length_map, ← Array.length_toList, p.length_eq, List.length_map]
 refine FB (intKind_is _ _ _ _) rfl N (qb p) (by omega) (fun h => ?_) fun h h' es' sb p' N' => ?_
 · have hk : ks.any (· == k) = true := by
    have := (pK p).mp h
    simp_all
   refine q _ _ (Heap.SameBut.refl a _) ?_
   unfold step_dedup
   simp_all
 · have hk : ¬ ks.any (· == k) = true := fun z => by
    obtain ⟨y, hy, ey⟩ := List.any_eq_true.mp z
    have := eq_of_beq ey
    subst this
    rw [← e] at hy
    obtain ⟨u, hu, h1⟩ := (pK p).mpr hy
    rw [h u hu] at h1
    cases h1
   refine q h' _ sb ?_
   unfold step_dedup
   refine ⟨es', l ++ [(k, t)], N', p'.trans ?_, by simp_all⟩
   rw [List.map_append]
   exact List.Perm.append_right _ p
theorem eN.fresh {led} (g : h.get? a = some { cls := .type "set", dict := none, data := .set #[] 0 (.fresh 0 0 led) }) : eN prog w led h a [] :=
 ⟨#[], [], ⟨_, 0, _, g, ⟨rfl, rfl, rfl⟩, rfl, rfl, gB.fresh 0 0⟩, .refl _, rfl⟩
theorem eN.keeps {ks} (I : eN prog w b h a ks) (k : ∀ o, h.get? a = some o → h'.get? a = some o) : eN prog w b h' a ks := by
 obtain ⟨es, l, ⟨o, ep, t, g, r⟩, p⟩ := I.ex
 exact ⟨es, l, ⟨o, ep, t, k o g, r⟩, p⟩
end
section
variable {prog : Program} {w : World} {A : Around} {R : Result → Shared → Prop} {b : Bool} {I S : Addr} {fp wr : List Addr} {G : Array GenState → Array GenState → Prop} {n : Nat} {P : Nat → Value → Prop} {St : Nat → Shared → Prop}
theorem lf (W : WalksS prog w A.in1 I fp wr G n P St) (hS : S ∉ fp) (f : Nat → Int) (hf : ∀ i v, P i v → ∃ t, v = .int (f i) t) (hb : n + 1 < scanBound) :
 ∀ (m i : Nat) (s : Shared), i + m = n → St i s → eN prog w b s.heap S (firstMet f i) → (∀ s', Moved (S :: wr) G s s' → eN prog w b s'.heap S (firstMet f n) → R (.ok (.ret .none)) s') →
  codeAny (model prog w) A (.builtin "set.update.loop" ⟨[.ref S, .ref I], []⟩) R s
 | m, i, s, hm, st, J, q => by
  have hw := fun z => hS (W.sub _ z)
  have up : ∀ x ∈ wr, x ∈ S :: wr := fun x z => List.mem_cons_of_mem _ z
  refine codeAny_builtin PyProof.Rows.F.entry_set_update_loop ?_
  cases m with
  | zero =>
   have e := hm
   subst e
   exact wpAny_bind (W.done s _ _ st fun s1 m1 => wpAny_pure (q s1 (m1.mono up) (J.keeps fun o z => m1.heap S o hw z)))
  | succ m =>
   refine wpAny_bind (W.item i s _ _ (by omega) st fun v s1 pv st1 m1 => ?_)
   obtain ⟨t, rfl⟩ := hf i v pv
   refine wpAny_bind (wpAny_holding ?_)
   have hl := firstMet_length_le f i
   refine wpAny_holding (wpAny_bind ((intKind _ w).pyHash (intKind_is _ _ _ _) (eN.add (J.keeps fun o z => m1.heap S o hw z) (by omega) fun h2 r sb J2 => ?_)))
   rw [← firstMet_succ] at J2
   refine wpAny_pure ⟨plainId_quiet PyProof.Rows.F.plain_set_update_loop _, lf W hS f hf hb m _ _ (by omega) (W.frame _ s1 _ _ st1 (Nat.le_succ _) fun x hx o z => ?_) J2 fun s3 m3 J3 => q s3 (Moved.trans W.gtrans ((m1.mono up).then_heap (Nat.le_succ _) fun x o hx z => ?_) m3) J3⟩
   · rw [sb.2 x fun c => hS (c ▸ hx)]; exact z
   · rw [sb.2 x fun c => hx (c ▸ List.mem_cons_self)]; exact z
end
def bZ (w : World) : Bool := !w.params.followText "set-order"
def mh (b : Bool) : Obj := { cls := .type "set", dict := none, data := .set #[] 0 (.fresh 0 0 b) }
section
variable {prog : Program} {w : World} {A : Around} {E : Value → Shared → Prop} {s : Shared}
theorem w8 (x : Value) {Q : Value → Shared → Prop} (q : Q (.ref s.heap.objs.size) { s with heap := s.heap.push (mh (bZ w)) }) :
 codeAny (model prog w) A (.call (.builtin "set.__new__") ⟨[.type "set", x], []⟩) (wants Q E) s := by
 refine codeAny_of_tree ?_
 have made : codeAny (model prog w) A (.builtin "set.__new__" ⟨[.type "set", x], []⟩) (wants Q E) s := by
  refine codeAny_builtin PySem.F.entry_set_new ?_
  have self := sub_set_self
  wp_walk
  refine wpAny_askSetting (wpAny_pure ?_)
  exact wpAny_bind (wpAny_alloc (wpAny_pure (wpAny_pure q)))
 exact wpAny_bind (wpAny_of_eq (PySem.F.newCall_set_1 x) (wpAny_pure ⟨plainId_quiet PySem.F.plain_set_new _, made⟩))
theorem uy {a l : Addr} {xs : Array Value} {Q : Value → Shared → Prop} (ha : s.heap.get? a = some (mh (bZ w))) (hl : s.heap.IsList l xs)
 (q : codeAny (model prog w) A.in1 (.builtin "set.update.loop" ⟨[.ref a, .ref s.heap.objs.size], []⟩) (wants (fun _ z => Q .none z) E) { s with heap := s.heap.push { cls := .type "list_iterator", data := .fields #[.ref l, .int 0 0] } }) :
 codeAny (model prog w) A (.call (.builtin "set.__init__") ⟨[.ref a, .ref l], []⟩) (wants Q E) s := by
 refine codeAny_call_builtin F.called_set.init.plain F.entry_set_init (check_set_init_1 ⟨_, ha, rfl⟩ ?_)
 obtain ⟨o, ho, hc, n, hd⟩ := id hl
 obtain ⟨c, od, dt, sl⟩ := o
 cases hc
 have s1 := F.sub_list_set
 have s2 := F.sub_list_frozenset
 unfold Builtin.«set.__init__» noKeywords Builtin.Frozenset.updateFrom
 generalize hI : pyIter = PI
 wp_walk
 subst hI
 refine wpAny_pyIter_list hl ?_
 refine wpAny_bind (wpAny_runValue ?_)
 refine codeAny_mono q fun r z hr => ?_
 cases r with
 | error e => exact hr
 | ok f =>
  cases f with
  | ret v => exact wpAny_pure (wpAny_pure hr)
  | _ => exact hr
theorem qG {l : Addr} {xs : Array Value} {ns : List Int} {Q : Value → Shared → Prop} (hh : A.handled = none) (hl : s.heap.IsList l xs) (hi : IntsAre xs.toList ns) (hb : xs.size + 1 < scanBound)
 (q : ∀ (h' : Heap) (tk : Nat), eN prog w (bZ w) h' s.heap.objs.size (firstMet (fun i => ns.getD i 0) xs.size) → (∀ b o, b < s.heap.objs.size → s.heap.get? b = some o → h'.get? b = some o) → Q (.ref s.heap.objs.size) { s with heap := h', toks := tk }) :
 wpAny (model prog w) A (call (.type "set") [.ref l]) Q E s := by
 obtain ⟨c, tl, m1⟩ := F.called_set.mro
 have m2 := F.called_set.made
 have m3 := F.called_set.sub
 have m4 := F.called_set.notType
 have m5 := F.called_set.canCreate
 have m6 := F.typeCall_set_1 (.ref l)
 refine wpAny_call (codeAny_of_tree ?_)
 change wpAny _ _ (callAny (.type "set") _) _ _ _
 refine wpAny_pure ⟨Code.quiet_builtin _ (by decide +kernel), codeAny_builtin F.entry_type_call ?_⟩
 rw [Around.under_plain (weight_type_call_type "set" [.ref l] []) rfl]
 repeat (any_goals (first | assumption | wp_step))
 refine codeAny_mono (w8 (.ref l) (E := E) (Q := fun v z => v = .ref s.heap.objs.size ∧ z = { s with heap := s.heap.push (mh (bZ w)) }) ⟨rfl, rfl⟩) fun r z hr => ?_
 cases r with
 | error e => exact hr
 | ok f =>
  cases f with
  | ret v =>
   obtain ⟨rfl, rfl⟩ := hr
   have g : (s.heap.push (mh (bZ w))).get? s.heap.objs.size = some (mh (bZ w)) := Heap.get?_push_size _ rfl
   have ty : Shared.TypeIs { s with heap := s.heap.push (mh (bZ w)) } (.ref s.heap.objs.size) "set" := ⟨_, g, rfl⟩
   have i1 := F.called_set.init.lookup
   have i2 := F.called_set.init.bind (.ref s.heap.objs.size)
   repeat (any_goals (first | assumption | wp_step))
   refine codeAny_mono (uy (E := E) (Q := fun v z => v = .none ∧ ∃ h' tk, z = { s with heap := h', toks := tk } ∧ eN prog w (bZ w) h' s.heap.objs.size (firstMet (fun i => ns.getD i 0) xs.size) ∧ (∀ b o, b < s.heap.objs.size → s.heap.get? b = some o → h'.get? b = some o)) g (hl.push _) ?_) fun r z hr => ?_
   · obtain ⟨o, ho, _⟩ := id hl
     have hlt : l < s.heap.objs.size := Heap.lt_size ho
     have hn : l ≠ (s.heap.push (mh (bZ w))).objs.size := by rw [Heap.size_push]; exact Nat.ne_of_lt (Nat.lt_succ_of_lt hlt)
     have hS : s.heap.objs.size ∉ [(s.heap.push (mh (bZ w))).objs.size, l] := by
      rw [Heap.size_push]
      intro z
      rcases List.mem_cons.mp z with z | z
      · omega
      · exact absurd (List.mem_singleton.mp z) (Nat.ne_of_gt hlt)
     refine lf (b := bZ w) ((Walks.list (by simp [hh]) _ l hn xs).toS) hS (fun i => ns.getD i 0) (fun i v hv => IntsAre.int_at hi i v (by rw [Array.getElem?_toList]; exact hv)) hb xs.size 0 _ (Nat.zero_add _)
      ⟨⟨_, Heap.get?_push_size _ rfl, rfl, rfl⟩, (hl.push _).push _⟩ (eN.fresh (Heap.get?_push_of_some _ g)) fun z hm J => ?_
     obtain ⟨h', g', d', tk', os'⟩ := z
     have e1 : g' = s.gens := hm.gens
     have e2 : d' = s.drawn := hm.drawn
     have e3 : os' = s.os := hm.os
     subst e1 e2 e3
     refine ⟨rfl, h', tk', rfl, J, fun b o hb' e => hm.heap b o (fun z => ?_) (Heap.get?_push_of_some _ (Heap.get?_push_of_some _ e))⟩
     rcases List.mem_cons.mp z with z | z
     · exact absurd z (Nat.ne_of_lt hb')
     · have := List.mem_singleton.mp z
       rw [this, Heap.size_push] at hb'
       omega
   · cases r with
     | error e => exact hr
     | ok f =>
      cases f with
      | ret v =>
       obtain ⟨rfl, h', tk, rfl, J, k⟩ := hr
       repeat (any_goals (first | assumption | wp_step))
       exact q _ _ J k
      | _ => exact hr
  | _ => exact hr
end
theorem eH {α : Type} : ∀ {l : List α} {i} {x}, l[i]? = some x → (x :: l.eraseIdx i).Perm l
 | y :: l, 0, x, h => by cases h; exact .refl _
 | y :: l, i + 1, x, h => by
  have := eH (l := l) h
  exact (List.Perm.swap y x _).trans (this.cons y)
theorem oX : ∀ (n k : Nat) (l : List α) (out : Array α), l.length = n → (pickOrder.go f n k l out).toList.Perm (out.toList ++ l)
 | 0, k, l, out, h => by
  cases l with
  | nil => rw [List.append_nil]; exact .refl _
  | cons => cases h
 | n + 1, k, l, out, h => by
  unfold pickOrder.go
  have hl : f k % l.length < l.length := Nat.mod_lt _ (by omega)
  rw [List.getElem?_eq_getElem hl]
  refine (oX n _ _ _ (by rw [List.length_eraseIdx, if_pos hl]; omega)).trans ?_
  rw [Array.toList_push, List.append_assoc]
  exact List.Perm.append_left _ (eH (List.getElem?_eq_getElem hl))
theorem jd (f : Nat → Nat) (xs : Array α) : (pickOrder f xs).toList.Perm xs.toList := by
 have := oX (f := f) xs.size 0 _ #[] Array.length_toList
 exact this
theorem pY (f : Nat → Nat) (xs : Array α) : (pickOrder f xs).size = xs.size := by
 have := (jd f xs).length_eq
 omega
def eR (xs : Array Nat) (i : Nat) : Nat := match i with
 | 0 => 0
 | i + 1 => xs.getD i 0 + 1
theorem mU (hx : vF xs) : ∀ {i}, i ≤ xs.size → SetTable.below xs (eR xs i) = i
 | 0, _ => by
  have c := ej hx (eR xs 0)
  rcases Nat.eq_zero_or_pos _ with z | z
  · exact z
  · have := c.lo 0 (by have := c.le; omega) z
    exact absurd this (Nat.not_lt_zero _)
 | i + 1, h => by
  have c := ej hx (eR xs (i + 1))
  have hi : i < xs.size := by omega
  have e : eR xs (i + 1) = xs[i] + 1 := by
   show xs.getD i 0 + 1 = _
   simp_all
  rw [e] at c ⊢
  generalize SetTable.below xs _ = r at c
  rcases Nat.lt_trichotomy r (i + 1) with z | z | z
  · have := c.hi i hi (by omega)
    omega
  · exact z
  · have h1 := c.lo _ (by have := c.le; omega) z
    have h2 := hx i (i + 1) hi (by have := c.le; omega) (Nat.lt_succ_self _)
    omega
section
variable {prog : Program} {w : World} {A : Around} {E : Value → Shared → Prop} {s : Shared} {a : Addr} {o : Obj} {es : Array (Int × Value)} {ep : Nat} {t : SetTable}
theorem gF (q : Q (w.params.followText "set-order") s) : wpAny (model prog w) A setsByText Q E s := wpAny_bind (wpAny_askSetting (wpAny_pure q))
theorem qO {Q} (g : s.heap.get? a = some o) (d : o.data = .set es ep t) (f : t.fits es.size = true) (hw : w.params.followText "set-order" = true)
 (q : Q ((pickOrder (w.params.setOrder a ep) es)[i]?.map fun e => (e.2, sl)) s) : wpAny (model prog w) A (setNext a sl i ep) Q E s := by
 refine wpAny_bind (wpAny_setState_of g d f (wpAny_bind (gF ?_)))
 rw [hw]
 show wpAny _ _ (if (ep != ep) = true then _ else _) _ _ _
 rw [if_neg (by simp)]
 refine wpAny_bind ?_
 refine wpAny_bind (wpAny_setState_of g d f (wpAny_bind (gF ?_)))
 rw [hw]
 exact wpAny_bind (wpAny_askSetting (wpAny_pure (wpAny_pure q)))
theorem mQ {Q} (g : s.heap.get? a = some o) (d : o.data = .set es ep t) (f : t.fits es.size = true) (l : gB (bZ w) t) (hw : w.params.followText "set-order" = false) (hd : (!t.plain && decide (es.size > 1)) = false) (hi : i ≤ es.size)
 (q : Q (es[i]?.map fun e => (e.2, eR t.place (i + 1))) s) : wpAny (model prog w) A (setNext a (eR t.place i) i e0) Q E s := by
 have hp : t.place.size = es.size := by
  unfold SetTable.fits at f
  simp_all
 have hl : t.led = true := by rw [l.led]; unfold bZ; rw [hw]; rfl
 refine wpAny_bind (wpAny_setState_of g d f (wpAny_bind (gF ?_)))
 rw [hw]
 show wpAny _ _ (if (!t.plain && decide _) = true then _ else _) _ _ _
 rw [hd]
 show wpAny _ _ ((if (!t.led && !es.isEmpty) = true then _ else _) >>= _) _ _ _
 rw [hl]
 rw [mU l.inc (by omega)]
 refine wpAny_pure ?_
 by_cases h : i < es.size
 · have e : eR t.place (i + 1) = t.place[i] + 1 := by
    show t.place.getD i 0 + 1 = _
    simp_all
   simp_all
 simp_all
end
abbrev jh (h : Heap) (it S : Addr) (sl i n ep : Nat) : Prop := h.get? it = some { cls := .type "set_iterator", dict := none, data := .fields #[rawInt sl, rawInt i, .ref S, rawInt n, rawInt ep], slots := #[] }
theorem bu : Slot "set_iterator" "__next__" "set_iterator.__next__" := by
 refine Slot.of (owner := "set_iterator") (n := "__next__") ?_ rfl rfl rfl ?_ ?_
 · rfl
 · first
   | exact Or.inl rfl
 · kernel_rfl
theorem ft : entryFor table "set_iterator.__next__" = some Builtin.«set_iterator.__next__» := entryFor_of_tree rfl
theorem gD (a : Value) : argsOk "set_iterator.__next__" ⟨[a], []⟩ := rfl
section
variable {prog : Program} {w : World} {A : Around} {E : Value → Shared → Prop} {s : Shared} {it S : Addr} {sl i ep : Nat} {o : Obj} {es : Array (Int × Value)} {ep' : Nat} {t : SetTable}
theorem vp {sl'} {Q} (hit : jh s.heap it S sl i es.size ep) (g : s.heap.get? S = some o) (d : o.data = .set es ep' t) (f : t.fits es.size = true)
 (st : ∀ (B : Around) (F : Value → Shared → Prop) (R : Option _ → Shared → Prop), R (some (x, sl')) s → wpAny (model prog w) B (setNext S sl i ep) R F s)
 (q : ∀ h', jh h' it S sl' (i + 1) es.size ep → Heap.SameBut it s.heap h' → Q (some x) { s with heap := h' }) : wpAny (model prog w) A (pyNext (.ref it)) Q E s := by
 have ty : s.TypeIs (.ref it) _ := ⟨_, hit, rfl⟩
 refine wpAny_bind (wpAny_attempt (wpAny_callSpecial?_slot ty bu
  (wpAny_call_entry bu ty ft ?_ (gD _))))
 refine wpAny_bind (wpAny_pure ?_)
 refine wpAny_bind (wpAny_fieldsOf hit rfl ?_)
 refine wpAny_bind (wpAny_setEntries_of g d f ?_)
 rw [if_neg (by simp)]
 refine wpAny_bind (st _ _ _ ?_)
 refine wpAny_bind (wpAny_setField hit rfl (by simp) ?_)
 have h1 := Heap.get?_update_self (Obj.mapFields (·.setIfInBounds 0 (rawInt sl'))) hit rfl
 refine wpAny_bind (wpAny_setField h1 rfl (by simp) ?_)
 exact wpAny_pure ⟨_, rfl, wpAny_pure (q _ (Heap.get?_update_self _ h1 rfl) ((Heap.SameBut.update ..).trans (Heap.SameBut.update ..)))⟩
theorem rM {R : PySem.Fin → Shared → Prop} {F} {z} (hh : B.handled = none) (q : ∀ x y, y.cls = .type "StopIteration" → y.isFreed = false → F (.ref (z.heap.push x).objs.size) { z with heap := (z.heap.push x).push y }) :
 wpAny (model prog w) B (newExc (.type "StopIteration") [] >>= fun e => raiseNew e) R F z := by
 refine wpAny_bind (wpAny_bind (wpAny_newObj_type (wpAny_bind (wpAny_of_eq (a := Value.none) ?fa (wpAny_newObj_type (wpAny_bind (wpAny_handled ?hd)) ?s2))) ?s1))
 case fa => rfl
 case s1 => size_fits
 case s2 => size_fits
 case hd =>
  rw [hh]
  exact wpAny_bind (wpAny_pure (wpAny_throw (q _ _ rfl rfl)))
theorem rF (hit : jh s.heap it S sl i es.size ep) (g : s.heap.get? S = some o) (d : o.data = .set es ep' t) (f : t.fits es.size = true)
 (st : ∀ (B : Around) (F : Value → Shared → Prop) (R : Option _ → Shared → Prop), R none s → wpAny (model prog w) B (setNext S sl i ep) R F s)
 (hh : A.handled = none) (q : ∀ h', Heap.ExtBut it s.heap h' → Q none { s with heap := h' }) : wpAny (model prog w) A (pyNext (.ref it)) Q E s := by
 have ty : s.TypeIs (.ref it) _ := ⟨_, hit, rfl⟩
 refine wpAny_bind (wpAny_attempt (wpAny_callSpecial?_slot ty bu
  (wpAny_call_entry bu ty ft ?_ (gD _))))
 refine wpAny_bind (wpAny_pure ?_)
 refine wpAny_bind (wpAny_fieldsOf hit rfl ?_)
 refine wpAny_bind (wpAny_setEntries_of g d f ?_)
 rw [if_neg (by simp)]
 refine wpAny_bind (st _ _ _ ?_)
 refine wpAny_bind (wpAny_setField hit rfl (by simp) ?_)
 refine rM hh fun x y hy fr => ?_
 refine wpAny_bind (wpAny_isInstance ⟨y, Heap.get?_push_size _ fr, hy⟩ isSubtype_stop (wpAny_pure (q _ ?_)))
 exact ((Heap.SameBut.update _ it _).extBut.push x).push y
end
theorem d9 : Slot "set_iterator" "__iter__" "set_iterator.__iter__" := by
 refine Slot.of (owner := "set_iterator") (n := "__iter__") ?_ rfl rfl rfl ?_ ?_
 · rfl
 · first
   | exact Or.inl rfl
 · kernel_rfl
theorem gT : entryFor table "set_iterator.__iter__" = some Builtin.«dict_keyiterator.__iter__» := by
 refine entryFor_alias (id' := "dict_keyiterator.__iter__") ?_ ?_ ?_ ?_
 · kernel_rfl
 · rfl
 · decide +kernel
 · kernel_rfl
theorem jl (a : Value) : argsOk "set_iterator.__iter__" ⟨[a], []⟩ := rfl
section
variable {prog : Program} {w : World} {A : Around} {I S : Addr} {o : Obj} {es : Array (Int × Value)} {ep : Nat} {t : SetTable}
theorem pX {Q} (hit : jh s.heap I S sl i n ep) (q : Q (.ref I) s) : wpAny (model prog w) A (pyIter (.ref I)) Q E s := by
 have ty : s.TypeIs (.ref I) _ := ⟨_, hit, rfl⟩
 refine wpAny_pyIter_slot ty d9 (wpAny_call_entry d9 ty gT ?_ (jl _))
 exact wpAny_pure ⟨_, rfl, _, _, ty, bu.lookup, q⟩
theorem qW (hne : S ≠ I) (d : o.data = .set es ep t) (f : t.fits es.size = true) (l : gB (bZ w) t) (hd : w.params.followText "set-order" = true ∨ (!t.plain && decide (es.size > 1)) = false) :
 ∃ (ord : Array (Int × Value)) (sl : Nat → Nat), ord.toList.Perm es.toList ∧ sl 0 = 0 ∧ ∀ A : Around, A.handled = none → Walks prog w A I [I, S] [I] es.size (fun i v => (ord[i]?).map (·.2) = some v) (fun i h => jh h I S (sl i) i es.size ep ∧ h.get? S = some o) := by
 have gen : ∀ (ord : Array (Int × Value)) (sl : Nat → Nat), ord.size = es.size → (∀ (s : Shared) (i : Nat), i ≤ es.size → s.heap.get? S = some o → ∀ (B : Around) (F : Value → Shared → Prop) (R : Option (Value × Nat) → Shared → Prop), R ((ord[i]?).map fun e => (e.2, sl (i + 1))) s → wpAny (model prog w) B (setNext S (sl i) i ep) R F s) →
  ∀ A : Around, A.handled = none → Walks prog w A I [I, S] [I] es.size (fun i v => (ord[i]?).map (·.2) = some v) (fun i h => jh h I S (sl i) i es.size ep ∧ h.get? S = some o) := by
  intro ord sl hz st A hh
  exact {
   sub := fun b hb => by grind
   frame := fun i h h' z k => ⟨k I (by simp) _ z.1, k S (by simp) _ z.2⟩
   item := fun i s Q E hi z q => by
    refine vp (x := ord[i].2) (sl' := sl (i + 1)) z.1 z.2 d f (fun B F R r => st s i (by omega) z.2 B F R (by simp_all)) fun h' hit' sb => ?_
    exact q _ h' s.toks (by simp_all) ⟨hit', by rw [sb.2 S hne]; exact z.2⟩ fun b o' hb e => sb.extBut b o' (fun c => hb (by simp_all)) e
   done := fun s Q E z q => rF z.1 z.2 d f (fun B F R r => st s es.size (Nat.le_refl _) z.2 B F R (by grind)) hh fun h' he => q h' _ fun b o' hb e => he b o' (fun c => hb (by simp_all)) e
   self := fun i s Q E z q => pX z.1 q }
 cases hw : w.params.followText _ with
 | true =>
  exact ⟨_, fun _ => 0, jd _ _, rfl, gen _ _ (pY _ _) fun s i hi g B F R r => qO g d f hw r⟩
 | false =>
  rw [hw] at hd
  exact ⟨es, _, .refl _, rfl, gen _ _ rfl fun s i hi g B F R r => mQ g d f l hw (hd.resolve_left fun z => by cases z) hi r⟩
end
section
variable {prog : Program} {w : World} {A : Around} {E : Value → Shared → Prop}
theorem rZ {n} {s} {Q} (hn : 0 < n) (q : ∀ k, k < n → Q k { s with drawn := s.drawn.bump src }) : wpAny (model prog w) A (choose src n) Q E s := by
 intro Γ p hΓ
 exact ⟨by omega, q _ (Nat.mod_lt _ hn)⟩
theorem sO : ∀ (n : Nat) (xs : List α) (s : Shared) {Q}, xs.length = n → (∀ ys d, ys.Perm xs → Q ys { s with drawn := d }) → wpAny (model prog w) A (drawOrder n xs) Q E s
 | 0, xs, s, Q, h, q => by
  have e := List.eq_nil_of_length_eq_zero h
  subst e
  exact wpAny_pure (q [] _ (.refl _))
 | n + 1, [], s, Q, h, q => by cases h
 | n + 1, x :: xs, s, Q, h, q => by
  refine wpAny_bind (rZ (by simp) fun k hk => ?_)
  rw [List.getElem?_eq_getElem hk]
  refine wpAny_bind (sO n _ _ (by rw [List.length_eraseIdx, if_pos hk, h]; rfl) fun ys d p => wpAny_pure (q _ d ?_))
  exact (p.cons _).trans (eH (List.getElem?_eq_getElem hk))
end
abbrev oj (h : Heap) (it S T : Addr) (i n ep : Nat) : Prop := h.get? it = some { cls := .type "set_iterator", dict := none, data := .fields #[.ref T, rawInt i, .ref S, rawInt n, rawInt ep], slots := #[] }
section
variable {prog : Program} {w : World} {A : Around} {E : Value → Shared → Prop} {s : Shared} {it S T : Addr} {i ep : Nat} {o u : Obj} {es : Array (Int × Value)} {t : SetTable} {ps : List Nat} {m : Nat}
theorem mE {p} {Q} (hit : oj s.heap it S T i es.size ep) (g : s.heap.get? S = some o) (d : o.data = .set es ep t) (f : t.fits es.size = true)
 (gt : s.heap.get? T = some u) (dt : u.data = .seq (ps.map fun k => rawInt (k : Nat)).toArray m) (hp : ps[i]? = some p) (hx : es[p]? = some x)
 (q : ∀ h', oj h' it S T (i + 1) es.size ep → Heap.SameBut it s.heap h' → Q (some x.2) { s with heap := h' }) : wpAny (model prog w) A (pyNext (.ref it)) Q E s := by
 have ty : s.TypeIs (.ref it) _ := ⟨_, hit, rfl⟩
 refine wpAny_bind (wpAny_attempt (wpAny_callSpecial?_slot ty bu
  (wpAny_call_entry bu ty ft ?_ (gD _))))
 refine wpAny_bind (wpAny_pure ?_)
 refine wpAny_bind (wpAny_fieldsOf hit rfl ?_)
 refine wpAny_bind (wpAny_setEntries_of g d f ?_)
 rw [if_neg (by simp)]
 refine wpAny_bind (wpAny_seqItems gt dt ?_)
 have hk : (ps.map fun k => rawInt (k : Nat)).toArray[Int.toNat i]? = some (rawInt p) := by
  simp_all
 change wpAny _ _ (match (ps.map fun k => rawInt _).toArray[Int.toNat i]? with | some (.int _ _) => _ | some _ => _ | none => _) _ _ _
 rw [hk]
 change wpAny _ _ (setNextDrawn S _ _ >>= _) _ _ _
 rw [Int.toNat_natCast]
 refine wpAny_bind ?_
 refine wpAny_bind (wpAny_setState_of g d f ?_)
 change wpAny _ _ (if (ep != ep) = true then _ else _) _ _ _
 rw [if_neg (by simp)]
 rw [hx]
 refine wpAny_pure ?_
 refine wpAny_bind (wpAny_setField hit rfl (by simp) ?_)
 exact wpAny_pure ⟨_, rfl, wpAny_pure (q _ (Heap.get?_update_self _ hit rfl) (Heap.SameBut.update ..))⟩
theorem qX (hit : oj s.heap it S T i es.size ep) (g : s.heap.get? S = some o) (d : o.data = .set es ep t) (f : t.fits es.size = true)
 (gt : s.heap.get? T = some u) (dt : u.data = .seq (ps.map fun k => rawInt (k : Nat)).toArray m) (hp : ps[i]? = none) (hh : A.handled = none)
 (q : ∀ h', Heap.ExtBut it s.heap h' → Q none { s with heap := h' }) : wpAny (model prog w) A (pyNext (.ref it)) Q E s := by
 have ty : s.TypeIs (.ref it) _ := ⟨_, hit, rfl⟩
 refine wpAny_bind (wpAny_attempt (wpAny_callSpecial?_slot ty bu
  (wpAny_call_entry bu ty ft ?_ (gD _))))
 refine wpAny_bind (wpAny_pure ?_)
 refine wpAny_bind (wpAny_fieldsOf hit rfl ?_)
 refine wpAny_bind (wpAny_setEntries_of g d f ?_)
 rw [if_neg (by simp)]
 refine wpAny_bind (wpAny_seqItems gt dt ?_)
 have hk : (ps.map fun k => rawInt (k : Nat)).toArray[Int.toNat i]? = none := by
  simp_all
 change wpAny _ _ (match (ps.map fun k => rawInt _).toArray[Int.toNat i]? with | some (.int _ _) => _ | some _ => _ | none => _) _ _ _
 rw [hk]
 refine wpAny_bind (wpAny_setField hit rfl (by simp) ?_)
 have h1 := Heap.get?_update_self (Obj.mapFields (·.setIfInBounds 0 (rawInt 0))) hit rfl
 refine wpAny_bind (wpAny_setField h1 rfl (by simp) ?_)
 refine rM hh fun x y hy fr => ?_
 refine wpAny_bind (wpAny_isInstance ⟨y, Heap.get?_push_size _ fr, hy⟩ isSubtype_stop (wpAny_pure (q _ ?_)))
 exact (((Heap.SameBut.update _ it _).trans (Heap.SameBut.update _ it _)).extBut.push x).push y
end
section
variable {prog : Program} {w : World} {A : Around} {I S T : Addr} {o u : Obj} {es : Array (Int × Value)} {ep : Nat} {t : SetTable} {ps : List Nat} {m : Nat}
theorem v4 (h : ps.Perm (List.range es.size)) : (ps.map fun k => es.getD k (0, .none)).Perm es.toList := by
 refine (h.map _).trans ?_
 have e : (List.range es.size).map (fun k => es.getD k (0, Value.none)) = es.toList := by
  apply List.ext_getElem
  · simp
  simp_all
 rw [e]
theorem mf (hS : S ≠ I) (hT : T ≠ I) (d : o.data = .set es ep t) (f : t.fits es.size = true) (dt : u.data = .seq (ps.map fun k => rawInt (k : Nat)).toArray m) (hp : ps.Perm (List.range es.size)) :
 ∃ ord : Array (Int × Value), ord.toList.Perm es.toList ∧ ∀ A : Around, A.handled = none → Walks prog w A I [I, S, T] [I] es.size (fun i v => (ord[i]?).map (·.2) = some v) (fun i h => oj h I S T i es.size ep ∧ h.get? S = some o ∧ h.get? T = some u) := by
 have hl : ps.length = es.size := by rw [hp.length_eq, List.length_range]
 refine ⟨(ps.map fun k => es.getD k (0, .none)).toArray, v4 hp, fun A hh => ?_⟩
 exact {
  sub := fun b hb => by simp_all
  frame := fun i h h' z k => ⟨k I (by simp) _ z.1, k S (by simp) _ z.2.1, k T (by simp) _ z.2.2⟩
  item := fun i s Q E hi z q => by
   have hlt : i < ps.length := by omega
   have hm : ps[i] < es.size := List.mem_range.mp (hp.mem_iff.mp (List.getElem_mem hlt))
   refine mE z.1 z.2.1 d f z.2.2 dt (List.getElem?_eq_getElem hlt) (Array.getElem?_eq_getElem hm) fun h' hit' sb => ?_
   refine q _ h' _ ?_ ⟨hit', by rw [sb.2 S hS]; exact z.2.1, by rw [sb.2 T hT]; exact z.2.2⟩ fun b o' hb e => sb.extBut b o' (fun c => hb (by simp_all)) e
   simp_all
  done := fun s Q E z q => qX z.1 z.2.1 d f z.2.2 dt (List.getElem?_eq_none (by omega)) hh fun h' he => q h' _ fun b o' hb e => he b o' (fun c => hb (by simp_all)) e
  self := fun i s Q E z q => by
   have ty : s.TypeIs (.ref I) _ := ⟨_, z.1, rfl⟩
   refine wpAny_pyIter_slot ty d9 (wpAny_call_entry d9 ty gT ?_ (jl _))
   exact wpAny_pure ⟨_, rfl, _, _, ty, bu.lookup, q⟩ }
theorem ig : entryFor table "set.__iter__" = some Builtin.«frozenset.__iter__» := by
 refine entryFor_alias (id' := "frozenset.__iter__") ?_ ?_ ?_ ?_
 · kernel_rfl
 · rfl
 · decide +kernel
 · kernel_rfl
variable {E : Value → Shared → Prop} {s : Shared}
def Dm (prog : Program) (w : World) (s : Shared) (S : Addr) (es : Array (Int × Value)) (Q : Value → Shared → Prop) : Prop :=
 ∀ (I : Addr) (h' : Heap) (dr : Drawn) (fp : List Addr) (ord : Array (Int × Value)) (St : Nat → Heap → Prop), ord.toList.Perm es.toList → (∀ A : Around, A.handled = none → Walks prog w A I fp [I] es.size (fun i v => (ord[i]?).map (·.2) = some v) St) → St 0 h' →
  (∀ b ∈ fp, b = S ∨ s.heap.objs.size ≤ b) → s.heap.objs.size ≤ I → (∀ b o, s.heap.get? b = some o → h'.get? b = some o) → Q (.ref I) { s with heap := h', drawn := dr }
theorem vk {Q : Value → Shared → Prop} (g : s.heap.get? S = some o) (ox : o.ExactSet) (d : o.data = .set es ep t) (f : t.fits es.size = true) (l : gB (bZ w) t) (hz : es.size < scanBound) (q : Dm prog w s S es Q) : wpAny (model prog w) A (pyIter (.ref S)) Q E s := by
 have ty : s.TypeIs (.ref S) "set" := ⟨_, g, ox.1⟩
 have lt : S < s.heap.objs.size := Heap.lt_size g
 refine wpAny_pyIter_slot ty PySem.F.slot_set_iter (wpAny_call_entry PySem.F.slot_set_iter ty ig ?_ (PySem.F.args_set_iter_1 _))
 refine wpAny_bind (m := Builtin.Frozenset.slot0 _ _) (wpAny_pure ?_)
 refine wpAny_bind (wpAny_bind (wpAny_setEntries_of g d f (wpAny_pure ?_)))
 refine wpAny_bind ?_
 refine wpAny_bind (wpAny_setState_of g d f (wpAny_bind (gF (wpAny_pure ?_))))
 change wpAny _ _ (if (!w.params.followText "set-order" && (!t.plain && decide (es.size > 1))) = true then _ else _) _ _ _
 have keep : ∀ (x : Obj) (h : Heap), (∀ b o', s.heap.get? b = some o' → h.get? b = some o') → ∀ b o', s.heap.get? b = some o' → (h.push x).get? b = some o' := fun x h k b o' e => Heap.get?_push_of_some _ (k b o' e)
 by_cases hd : (!w.params.followText "set-order" && (!t.plain && decide (es.size > 1))) = true
 · rw [if_pos hd]
   refine wpAny_bind (sO es.size _ s List.length_range fun ps dr hp => ?_)
   refine wpAny_bind (wpAny_newTuple ?_ (by rw [List.length_map, hp.length_eq, List.length_range]; exact fits_of_scanBound hz))
   have g1 := Heap.get?_push_of_some { cls := .type "tuple", data := .seq (ps.map fun k => rawInt (k : Nat)).toArray } g
   refine wpAny_bind (wpAny_setEpoch_of (s := { s with heap := s.heap.push { cls := .type "tuple", data := .seq (ps.map fun k => rawInt (k : Nat)).toArray }, drawn := dr }) g1 d f ?_)
   refine wpAny_bind (wpAny_newObj_type (wpAny_pure ⟨_, rfl, "set_iterator", _, ⟨_, Heap.get?_push_size _ rfl, rfl⟩, bu.lookup, ?_⟩) (by size_fits))
   obtain ⟨ord, po, W⟩ := mf (prog := prog) (w := w) (I := (s.heap.push { cls := .type "tuple", data := .seq (ps.map fun k => rawInt (k : Nat)).toArray }).objs.size) (S := S) (T := s.heap.objs.size)
    (u := { cls := .type "tuple", data := .seq (ps.map fun k => rawInt (k : Nat)).toArray }) (by rw [Heap.size_push]; exact Nat.ne_of_lt (Nat.lt_succ_of_lt lt)) (by simp) d f rfl hp
   refine q _ _ dr _ ord _ po W ⟨Heap.get?_push_size _ rfl, Heap.get?_push_of_some _ g1, Heap.get?_push_of_some _ (Heap.get?_push_size _ rfl)⟩ (fun b hb => ?_) (by simp) (keep _ _ fun b o' e => Heap.get?_push_of_some _ e)
   rcases List.mem_cons.mp hb with z | z
   · simp_all
   · rcases List.mem_cons.mp z with z | z
     · exact .inl z
     simp_all
 · rw [if_neg hd]
   refine wpAny_bind (wpAny_pure (wpAny_bind (wpAny_setEpoch_of g d f ?_)))
   refine wpAny_bind (wpAny_newObj_type (wpAny_pure ⟨_, rfl, "set_iterator", _, ⟨_, Heap.get?_push_size _ rfl, rfl⟩, bu.lookup, ?_⟩) (by size_fits))
   obtain ⟨ord, sl, po, e0, W⟩ := qW (prog := prog) (Nat.ne_of_lt lt) d f l (by
    cases hw : w.params.followText _ with
    | true => exact .inl rfl
    | false =>
     rw [hw] at hd
     exact .inr (Bool.eq_false_iff.mpr hd))
   refine q _ _ _ _ _ _ po W ⟨by rw [e0]; exact Heap.get?_push_size _ rfl, Heap.get?_push_of_some _ g⟩ (fun b hb => ?_) (Nat.le_refl _) fun b o' e => Heap.get?_push_of_some _ e
   rcases List.mem_cons.mp hb with z | z
   · simp_all
   simp_all
end
end L2
end
section
namespace L2
section
variable {prog : Program} {w : World} {A : Around} {E : Value → Shared → Prop} {s : Shared} {S : Addr} {o : Obj} {es : Array (Int × Value)} {ep : Nat} {t : SetTable}
theorem Es {m n : Sem α} {Q} (h : c = true) (q : wpAny (model prog w) A m Q E s) : wpAny (model prog w) A (if c = true then m else n) Q E s := by simp_all
theorem kB : typeLookup (.type "set") "__len__" = pure (some (.builtin "set.__len__")) := rfl
theorem vz (ty : s.TypeIs (.ref S) "set") (q : Q false s) : wpAny (model prog w) A (Builtin.List.listLengthHint (.ref S)) Q E s := by
 refine wpAny_bind (wpAny_specialOf ty kB ?_)
 generalize hid : "set.__len__" = id0
 subst hid
 refine wpAny_bind (wpAny_isInstance ty (rfl) ?_)
 exact wpAny_bind (wpAny_typeOf ty (wpAny_pure q))
theorem xk {L : Addr} {z : Shared} {Q : Unit → Shared → Prop} (g : z.heap.get? L = some { cls := .type "list", data := .seq ([] : List Value).toArray })
 (q : ∀ h' c, Heap.SameBut L z.heap h' → h'.get? L = some { cls := .type "list", dict := none, data := .seq #[] c, slots := #[] } → Q () { z with heap := h' }) : wpAny (model prog w) A (Builtin.List.listTouch (.ref L)) Q E z := by
 unfold Builtin.List.listTouch
 have g1 := Heap.get?_update_self (Obj.mapSeq (·.push Value.none)) g rfl
 refine wpAny_bind (m := updateSeq L (·.push Value.none)) (wpAny_updateSeq g rfl ?_)
 refine wpAny_updateSeq (s := { z with heap := z.heap.update L (Obj.mapSeq (·.push Value.none)) }) g1 rfl ?_
 exact q _ _ ((Heap.SameBut.update ..).trans (Heap.SameBut.update ..)) (Heap.get?_update_self _ g1 rfl)
theorem mx {Q : List Value → Shared → Prop} (hh : A.handled = none) (g : s.heap.get? S = some o) (ox : o.ExactSet) (d : o.data = .set es ep t) (f : t.fits es.size = true) (l : gB (bZ w) t) (hz : es.size < scanBound)
 (q : ∀ (s' : Shared) (acc : Array Value) (ord : Array (Int × Value)), ord.toList.Perm es.toList → ItemsOf (fun i v => (ord[i]?).map (·.2) = some v) acc es.size → (∀ b o', s.heap.get? b = some o' → s'.heap.get? b = some o') → s'.gens = s.gens → s'.os = s.os → s.toks ≤ s'.toks → Q acc.toList s') :
 wpAny (model prog w) A (collect (.ref S)) Q E s := by
 have lt : S < s.heap.objs.size := Heap.lt_size g
 refine wpAny_bind (wpAny_runValue (codeAny_builtin PySem.F.entry_proto_collect (by
  refine wpAny_bind (wpAny_newObj_type (wpAny_pure ⟨plainId_quiet PySem.F.plain_list_iadd _, codeAny_builtin PySem.F.entry_list_iadd ?_⟩))
  have g1 := Heap.get?_push_of_some { cls := .type "list", data := .seq ([] : List Value).toArray } g
  have ty : Shared.TypeIs { s with heap := s.heap.push { cls := .type "list", data := .seq ([] : List Value).toArray } } (.ref S) "set" := ⟨_, g1, ox.1⟩
  change wpAny _ A.in1 (Builtin.List.listExtendWith (.ref s.heap.objs.size) (.ref S) (.ref s.heap.objs.size)) _ _ _
  have ne : Builtin.List.listSameRef (.ref s.heap.objs.size) (.ref S) = false := by
   have : s.heap.objs.size ≠ S := Nat.ne_of_gt lt
   simp [Builtin.List.listSameRef, this]
  refine wpAny_bind (wpAny_typeOf ty ?_)
  rw [if_neg (by rw [ne]; decide)]
  refine wpAny_bind (vk (s := { s with heap := s.heap.push { cls := .type "list", data := .seq ([] : List Value).toArray } }) g1 ox d f l hz fun I h' dr fp ord St po W st hfp hI k => ?_)
  refine wpAny_bind (wpAny_holding (vz ⟨_, k _ _ g1, ox.1⟩ ?_))
  refine Es (by decide +kernel) (wpAny_bind (wpAny_rule (wpAny_bind ?_)))
  have gL := k _ _ (Heap.get?_push_size s.heap (o := { cls := .type "list", data := .seq ([] : List Value).toArray }) rfl)
  refine xk (z := { s with heap := h', drawn := dr }) gL fun h2 c sb g2 => ?_
  have hL : s.heap.objs.size ∉ fp := fun z => by
   rcases hfp _ z with e | e
   · simp_all
   · rw [Heap.size_push] at e; grind
  have W1 := (W A.in1 hh).toS
  have st2 := W1.frame 0 { s with heap := h', drawn := dr } h2 s.toks st (Nat.le_refl _) fun b hb o' e => by
   rw [sb.2 b (fun z => hL (z ▸ hb))]; exact e
  refine wpAny_pure ⟨plainId_quiet PySem.F.plain_extend_loop _, codeAny_extend_loopS W1 (fits_of_scanBound hz) s.heap.objs.size hL _ es.size 0 _ _ c (Nat.sub_zero _) (Nat.zero_le _) st2 g2 (ItemsOf.nil _) fun s' acc c' hm hS' hacc => ?_⟩
  refine wpAny_bind (m := load s.heap.objs.size) (wpAny_load hS' (wpAny_pure (q s' acc ord po hacc (fun b o' e => ?_) hm.gens hm.os hm.toks)))
  have hb := Nat.ne_of_lt (Heap.lt_size e)
  have hbI : b ≠ I := fun z => by
   have := Heap.lt_size e
   rw [Heap.size_push] at hI
   rw [z] at this
   exact absurd (Nat.lt_of_lt_of_le this (Nat.le_of_succ_le hI)) (Nat.lt_irrefl _)
  refine hm.heap b o' (fun z => ?_) ?_
  · grind
  · rw [sb.2 b hb]
    exact k b o' (Heap.get?_push_of_some _ e))))
end
section
variable {prog : Program} {w : World} {A : Around} {E : Value → Shared → Prop} {s : Shared} {S : Addr}
theorem jY {es ord : Array _} {l : List _} {acc} (po : ord.toList.Perm es.toList) (pe : es.toList.Perm (l.map (xq prog w))) (ha : ItemsOf (fun i v => ord[i]?.map (·.2) = some v) acc es.size) :
 ∃ ns, IntsAre acc.toList ns ∧ ns.Perm (l.map (·.1)) := by
 have hz := by have := po.length_eq; omega
 have e : acc.toList = ord.toList.map (·.2) := by
  apply List.ext_getElem?
  intro i
  by_cases h : i < acc.size
  · have h1 := ha.2 i _ (Array.getElem?_eq_getElem h)
    rw [List.getElem?_map, Array.getElem?_toList, Array.getElem?_toList, h1, Array.getElem?_eq_getElem h]
  · have := ha.1
    grind
 have p := (po.trans pe).map (·.2)
 rw [← e] at p
 clear e ha po pe hz
 have key : ∀ (us vs : List _), vs.Perm us → ∀ ns, IntsAre us ns → ∃ ms, IntsAre vs ms ∧ ms.Perm ns := by
  intro us vs h
  induction h with
  | nil => intro ns z; exact ⟨ns, z, .refl _⟩
  | cons x _ ih =>
   intro ns z
   cases z with
   | cons n t hr =>
    obtain ⟨ms, h1, h2⟩ := ih _ hr
    exact ⟨_, .cons n t h1, h2.cons n⟩
  | swap x y r =>
   intro ns z
   cases z with
   | cons n t hr =>
    cases hr with
    | cons n' t' hr' => exact ⟨_, .cons n' t' (.cons n t hr'), .swap _ _ _⟩
  | trans _ _ ih1 ih2 =>
   intro ns z
   obtain ⟨ms, h1, h2⟩ := ih2 _ z
   obtain ⟨ms', h3, h4⟩ := ih1 _ h1
   exact ⟨ms', h3, h4.trans h2⟩
 refine key _ _ p _ ?_
 clear p key
 induction l with
 | nil => exact .nil
 | cons y r ih => exact .cons _ _ ih
theorem mJ {ks : List Int} {Q : Value → Shared → Prop} (hh : A.handled = none) (J : eN prog w (bZ w) s.heap S ks) (h64 : ks.length < 64)
 (q : ∀ (z : Shared) (vs : List Value) (out : Array Value) (ns : List Int), vs.length = ks.length → IntsAre out.toList ns → ns.Perm ks → ns.Pairwise (· ≤ ·) → (∀ b o, s.heap.get? b = some o → z.heap.get? b = some o) → z.gens = s.gens → z.os = s.os → s.toks ≤ z.toks →
  Q (.ref z.heap.objs.size) { z with heap := sortedHeap (z.heap.push (seqObj "list" vs.toArray 0)) z.heap.objs.size vs out }) :
 wpAny (model prog w) A (call (.builtin "sorted") [.ref S]) Q E s := by
 obtain ⟨es, l, ⟨o, ep, t, g, ox, d, f, ld⟩, pe, ek⟩ := J.ex
 have hz : es.size = ks.length := by rw [← ek, List.length_map, ← Array.length_toList, pe.length_eq, List.length_map]
 have hb : es.size < scanBound := by unfold scanBound; omega
 refine Calls.call_function_entry kind_sorted plain_sorted entry_sorted (args_sorted1 _) ?_
 refine wpAny_bind (wpAny_pure (wpAny_bind (mx (hh) g ox d f ld hb fun z acc ord po ha kp e1 e2 e3 => ?_)))
 obtain ⟨ns, hi, hp⟩ := jY po pe ha
 have hv : acc.toList.length = ks.length := by rw [Array.length_toList, ha.1, hz]
 refine wpAny_bind (wpAny_newList ?_ (by rw [hv]; exact Nat.le_trans (Nat.le_of_lt h64) (by decide)))
 have gL : (z.heap.push (seqObj "list" acc.toList.toArray 0)).get? _ = some _ := Heap.get?_push_size _ rfl
 refine wpAny_bind (wpAny_holding (wpAny_call_entry slot_list_sort ⟨_, gL, rfl⟩ entry_list_sort (list_sort_tree gL hi (by rw [hv]; exact h64) fun out ns' a1 a2 a3 => ⟨_, rfl, ?_⟩) (args_list_sort _)))
 exact wpAny_pure ⟨_, rfl, q z _ _ _ hv a1 (a2.trans (by rw [← ek]; exact hp)) a3 kp e1 e2 e3⟩
end
theorem wv (f : Nat → Int) (n : Nat) (k : Int) : k ∈ firstMet f n ↔ k ∈ (List.range n).map f := by
 have h := firstMet_any f n k
 constructor
 · intro q
   have : (firstMet f n).any fun x => x == k = true := List.any_eq_true.mpr ⟨k, q, beq_self_eq_true k⟩
   simp_all
 · intro q
   have : ((List.range n).map f).any fun x => x == k = true := List.any_eq_true.mpr ⟨k, q, beq_self_eq_true k⟩
   simp_all
theorem fW (f : Nat → Int) : ∀ n, (firstMet f n).Nodup
 | 0 => .nil
 | n + 1 => by
  rw [firstMet_succ]
  unfold step_dedup
  split
  · exact fW f n
  · next h =>
    refine List.nodup_append.mpr ⟨fW f n, List.pairwise_singleton _ _, fun a ha b hb e => h ?_⟩
    grind
theorem nB (ns : List Int) : (List.range ns.length).map (fun i => ns.getD i 0) = ns := by
 refine List.ext_getElem? fun i => ?_
 rw [List.getElem?_map]
 by_cases h : i < ns.length
 · simp_all
 grind
theorem gK : ∀ {a b : List Int}, a.Pairwise (· < ·) → b.Pairwise (· < ·) → (∀ x, x ∈ a ↔ x ∈ b) → a = b := by
 intro a b ha hb h
 refine cA ((List.perm_ext_iff_of_nodup (ha.imp fun h => Int.ne_of_lt h) (hb.imp fun h => Int.ne_of_lt h)).mpr h) (ha.imp fun h => Int.le_of_lt h) (hb.imp fun h => Int.le_of_lt h)
section
variable {X : Cx} {x : Expr} {te : TE}
theorem Inv.laidD {σ : St} {H} {s} {a : Addr} {o} {z} (I : Inv X pins σ H s) (eg : z.gens = s.gens) (eo : z.os = s.os) (k : ∀ b u, s.heap.get? b = some u → z.heap.get? b = some u) (hp : s.heap.objs.size ≤ a) (new : bz X.prog X.w (bB H a o) z.heap a o) : Inv X pins σ (bB H a o) z := by
 have hn := I.hok.fresh hp
 refine I.call' (ch := []) ⟨eo, by simp_all⟩ (Un.laid k hp hn) (I.hok.laid k hp new) (by rw [eg]; exact I.bare) fun b z => nomatch z
def sK (K : PySem.W.Frag) (te : TE) : TE := fun σ H Q => te σ H fun v H1 => ∃ (l : Addr) (ns out : List Int), v = .ref l ∧ cF K H1 l (ns.map V.int) ∧ ns.length < 63 ∧ out.Pairwise (· < ·) ∧ (∀ y, y ∈ out ↔ y ∈ ns) ∧ ∀ p, H1 p = none → Q (.ref p) (bB H1 p (.lst (out.map V.int)))
theorem mH {p1 p2 q1 q2 : Pos} (hr : X.A.handled = none) (hg1 : Gl X "sorted") (hg2 : Gl X "set") (hm1 : X.mg "sorted" = none) (hm2 : X.mg "set" = none) (he : PE X x te) (hx : starEach [x] X.env = [(false, eval x X.env)]) :
 PE X (.Call (.Name "sorted" p1) [.Call (.Name "set" p2) [x] [] q2] [] q1) (sK X.K te) := by
 intro pins s σ H Q I h
 refine wpAny_Call_Name_kw (cz I hg1 hm1 boot_sorted ?_)
 refine PyProof.Rows.callWith_builtin1 ?_ rfl rfl
 refine Calls.spliced_cons ?_
 refine wpAny_Call_Name_kw (cz I hg2 hm2 (show bootBuiltins (Str.ofString "set") = some (.type "set") by decide +kernel) ?_)
 refine PyProof.Rows.callWith_type1 ?_ hx rfl
 rw [hx]
 refine Calls.spliced_cons (aU (he pins s σ H _ I h) fun v s1 h1 => Calls.spliced_nil ?_)
 obtain ⟨y, H1, I1, r1, l, ns, out, rfl, hS, hz, ho, hm, q⟩ := h1
 cases r1
 obtain ⟨its, r, pl, _⟩ := I1.list hS
 have hi := intsAre_of r
 have hl : its.length = ns.length := by have := r.length; simp_all
 refine qG hr pl.isList hi (by rw [List.size_toArray, hl]; unfold scanBound; omega) fun h' tk J k => Calls.spliced_nil ?_
 have hN : its.toArray.size = ns.length := by omega
 rw [hN] at J
 have hle := firstMet_length_le (fun i => ns.getD i 0) ns.length
 refine mJ hr J (by omega) fun z vs ou ns' a0 a1 a2 a3 kp e1 e2 e3 => ?_
 have k1 := fun b o e => kp b o (k b o (Heap.lt_size e) e)
 have mm : ∀ y, y ∈ ns' ↔ y ∈ ns := fun y => by rw [a2.mem_iff, wv, nB]
 have nd := a2.nodup_iff.mpr (fW _ _)
 have st : ns'.Pairwise (· < ·) := List.Pairwise.imp₂ fun a b h1 h2 => by omega a3 nd
 have en := gK st ho fun y => by rw [mm, hm]
 subst en
 obtain ⟨e, he⟩ := sortedHeap_at (Heap.get?_push_size _ rfl)
 have k2 : ∀ b o, s1.heap.get? b = some o → (sortedHeap (z.heap.push (seqObj "list" vs.toArray 0)) _ vs ou).get? b = some o := fun b o q => by
  have q := k1 b o q
  rw [sortedHeap_old (Nat.ne_of_lt (Heap.lt_size q)) (by rw [Heap.size_push]; exact Nat.lt_succ_of_lt (Heap.lt_size q))]
  exact Heap.get?_push_of_some _ q
 have hsz : s1.heap.objs.size ≤ z.heap.objs.size := by
  obtain ⟨es, l', ⟨o, ep, t, g, _⟩, _⟩ := J.ex
  exact Nat.le_of_lt (Heap.lt_size (kp _ _ g))
 have hf := I1.hok.fresh hsz
 refine ⟨.ref _, _, I1.laidD e1 e2 k2 hsz ?_, rfl, q _ hf⟩
 refine ⟨?_, _, e, dX a1, ?_⟩
 · rw [List.length_map, a2.length_eq]
   exact Nat.le_trans (Nat.le_trans hle (Nat.le_of_lt hz)) (by decide)
 omega
end
end L2
end
section
namespace L2
open PySem PySem.W PyProof.Rows
section
variable {key : Nat → Int} {N : Nat} {p : Array Nat}
def Gk (key : Nat → Int) (N : Nat) {α : Type} (R : α → Prop) : KasT α → Prop
 | .ret a => R a
 | .ask i j k => i < N ∧ j < N ∧ Gk key N R (k (decide (key i < key j)))
theorem Gk.bind {f : α → KasT β} : ∀ {t}, Gk key N (fun a => Gk key N R (f a)) t → Gk key N R (t.bind f)
 | .ret _, h => h
 | .ask _ _ _, h => ⟨h.1, h.2.1, Gk.bind h.2.2⟩
theorem Gk.ask {i j} {k} (hi : i < N) (hj : j < N) (h1 : key i < key j → Gk key N R (k true)) (h2 : key j ≤ key i → Gk key N R (k false)) : Gk key N R (.ask i j k) := by
 refine ⟨hi, hj, ?_⟩
 by_cases c : key i < key j
 · simp_all
 · rw [decide_eq_false c]; simp_all
def Bs (N : Nat) (p : Array Nat) : Prop := p.Perm (List.range N).toArray
theorem Bs.size (h : Bs N p) : p.size = N := by simpa using h.size_eq
theorem Bs.at (h : Bs N p) (hN : 0 < N) i : p.getD i 0 < N := by
 by_cases hi : i < p.size
 · have := h.mem_iff.mp (Array.getElem_mem hi)
   simp_all
 simp_all
def kk (key : Nat → Int) (p : Array Nat) (i : Nat) : Int := key (p.getD i 0)
theorem l3 {i j} (h : p[i]? = q[j]?) : kk key p i = kk key q j := by
 unfold kk
 simp_all
theorem fX {i j} (hj : j ≤ p.size) k : kk key (kas_rev p i j) k = if i ≤ k ∧ k < j then kk key p (i + j - 1 - k) else kk key p k := by
 have e := getElem?_mirror_all (i := i) hj k
 split
 · next h => rw [if_pos h] at e; exact l3 e
 · next h => rw [if_neg h] at e; exact l3 e
theorem t9 (hs : n < p.size) (hd : d ≤ n) k : kk key (bubble p n d) k = if k = n - d then kk key p n else if n - d < k ∧ k ≤ n then kk key p (k - 1) else kk key p k := by
 have e := getElem?_bubble hs d hd k
 split
 · next h => rw [if_pos h] at e; exact l3 e
 · next h =>
   rw [if_neg h] at e
   split
   · next h => rw [if_pos h] at e; exact l3 e
   · next h => rw [if_neg h] at e; exact l3 e
def Up (key : Nat → Int) (p : Array Nat) (m : Nat) : Prop := ∀ i j, i ≤ j → j < m → kk key p i ≤ kk key p j
def Dn (key : Nat → Int) (p : Array Nat) (m : Nat) : Prop := ∀ i j, i ≤ j → j < m → kk key p j ≤ kk key p i
theorem Up.one : Up key p 1 := fun i j h1 h2 => by grind
theorem Dn.one : Dn key p 1 := fun i j h1 h2 => by grind
theorem Up.more (h : Up key p n) (hn : 1 ≤ n) (e : kk key p (n - 1) ≤ kk key p n) : Up key p (n + 1) := fun i j h1 h2 => by
 by_cases hj : j < n
 · exact h i j h1 hj
 · by_cases hi : i = j
   · simp_all
   · have := h i (n - 1) (by omega) (by omega)
     rw [show j = n by omega]; omega
theorem Dn.more (h : Dn key p n) (hn : 1 ≤ n) (e : kk key p n ≤ kk key p (n - 1)) : Dn key p (n + 1) := fun i j h1 h2 => by
 by_cases hj : j < n
 · exact h i j h1 hj
 · by_cases hi : i = j
   · simp_all
   · have := h i (n - 1) (by omega) (by omega)
     rw [show j = n by omega]; omega
theorem Bs.rev (h : Bs N p) (i j) : Bs N (kas_rev p i j) := (mirror_perm _ _ _ _).trans h
theorem rj (hB : Bs N p) (hN : 0 < N) : ∀ (f n), 1 ≤ n → Up key p n → (∀ m, n ≤ m → m ≤ n + f → Up key p m → m = n + f ∨ kk key p m < kk key p (m - 1) → R m) → Gk key N R (kas_asc p f n)
 | 0, n, h1, hs, h => h n (Nat.le_refl _) (Nat.le_refl _) hs (.inl rfl)
 | f + 1, n, h1, hs, h => Gk.ask (hB.at hN _) (hB.at hN _) (fun c => h n (Nat.le_refl _) (Nat.le_add_right _ _) hs (.inr c)) fun c =>
  rj hB hN f _ (Nat.le_add_left _ _) (hs.more h1 c) fun m a b d e => h m (by omega) (by omega) d (e.imp (by omega) id)
def Ev (key : Nat → Int) (p : Array Nat) (n q : Nat) : Prop := ∀ i, n - (q + 1) ≤ i → i < n → kk key p i = kk key p (n - 1)
theorem kn (hN : 0 < N) : ∀ f {p} (n q), Bs N p → n + f ≤ N → Dn key p n → q + 1 ≤ n → Ev key p n q →
 (∀ p n' q, Bs N p → n ≤ n' → n' ≤ n + f → Dn key p n' → q + 1 ≤ n' → Ev key p n' q → R (p, n', q)) → Gk key N R (kas_desc f p n q)
 | 0, p, n, q, hB, hn, hs, hq, he, h => h p n q hB (Nat.le_refl _) (Nat.le_refl _) hs hq he
 | f + 1, p, n, q, hB, hn, hs, hq, he, h => by
  refine Gk.ask (hB.at hN _) (hB.at hN _) (fun c => ?_) fun c => Gk.ask (hB.at hN _) (hB.at hN _) (fun d => h p n q hB (Nat.le_refl _) (by omega) hs hq he) fun d => ?_
  · have AN : ∀ p, Ev key p (n + 1) 0 := fun p i a b => by rw [show i = n + 1 - 1 by omega]
    have all := hs.more (by omega) (Int.le_of_lt c)
    show Gk _ N R (if q > 0 then _ else _)
    split
    · refine kn hN f _ _ (hB.rev _ _) (by omega) ?_ (by omega) (AN _) fun p m q a b d => h p m q a (by omega) (by omega)
      have same : ∀ k, kk _ (kas_rev p (n - (q + 1)) n) k = kk _ p k := fun k => by
       rw [fX (by rw [hB.size]; omega)]
       split
       · rw [he _ (by omega) (by omega), he k (by omega) (by omega)]
       · rfl
      intro i j a b
      rw [same, same]
      exact all i j a b
    · exact kn hN f _ _ hB (by omega) all (by omega) (AN _) fun p m q a b d => h p m q a (by omega) (by omega)
  · replace c : kk _ p _ ≤ kk _ p n := c
    replace d : kk _ p n ≤ kk _ p _ := d
    · refine kn hN f _ _ hB (by omega) (hs.more (by omega) (by omega)) (by omega) (fun i a b => ?_) fun p m q a b d => h p m q a (by omega) (by omega)
      by_cases z : i < n
      · rw [he i (by omega) z]; show _ = kk _ p n; omega
      · rw [show i = n + 1 - 1 by omega]
theorem oC (hN : 0 < N) {n} (hB : Bs N p) (h1 : 1 ≤ n) (hn : n ≤ N) (hs : Dn key p n) (h : ∀ m p, 1 ≤ m → m ≤ N → Bs N p → Up key p m → R (m, p)) : Gk key N R (kas_tail3 n N p) := by
 refine Gk.bind (rj (hB.rev _ _) hN _ _ h1 (fun i j a b => ?_) fun m a b c _ => h m _ (by omega) (by omega) (hB.rev _ _) c)
 have e := hB.size
 rw [fX (by omega), fX (by omega), if_pos (by omega), if_pos (by omega)]
 exact hs _ _ (by omega) (by omega)
theorem gX (hN : 0 < N) {n} (hB : Bs N p) (hn : n + 1 ≤ N) (hs : Dn key p (n + 1)) (h : ∀ m p, 1 ≤ m → m ≤ N → Bs N p → Up key p m → R (m, p)) : Gk key N R (kas_descPart n N p) := by
 refine Gk.bind (kn hN _ _ _ hB (by omega) hs (by omega) fun i a b => by rw [show i = n + 1 - 1 by omega] fun p' m q b1 a1 a2 d1 q1 e1 => ?_)
 dsimp only
 split
 · refine oC hN (b1.rev _ _) (by omega) (by omega) (fun i j a b => ?_) h
   have same : ∀ k, kk _ (kas_rev p' (m - (q + 1)) m) k = kk _ p' k := fun k => by
    rw [fX (by rw [b1.size]; omega)]
    split
    · rw [e1 _ (by omega) (by omega), e1 k (by omega) (by omega)]
    · rfl
   rw [same, same]
   exact d1 i j a b
 · exact oC hN b1 (by omega) (by omega) d1 h
theorem yy (hN : 0 < N) (hB : Bs N p) (h : ∀ m p, 1 ≤ m → m ≤ N → Bs N p → Up key p m → R (m, p)) : Gk key N R (kas_count N p) := by
 refine Gk.bind (rj hB hN _ _ (Nat.le_refl _) .one fun n a b c e => ?_)
 split
 · exact h n p a (by omega) hB c
 · next hne =>
   have hne := by simpa using hne
   have e := e.resolve_left (by omega)
   split
   · refine Gk.ask (hB.at hN _) (hB.at hN _) (fun d => h n p a (by omega) hB c) fun d => ?_
     · replace d : kk _ p _ ≤ kk _ p 0 := d
       have sz := hB.size
       have same : ∀ k, k < n → kk key p k = kk key p 0 := fun k hk => by
        have := c 0 k (by omega) hk
        have := c k (n - 1) (by omega) (by omega)
        omega
       have at' : ∀ k, k < n → kk _ (kas_rev p 0 n) k = kk _ p 0 := fun k hk => by
        rw [fX (by omega), if_pos (by omega)]; exact same _ (by omega)
       refine gX hN (hB.rev _ _) (by omega) (Dn.more (fun i j a b => ?_) a ?_) h
       · rw [at' j b, at' i (by omega)]; exact Int.le_refl _
       · rw [at' (n - 1) (by omega), fX (by omega), if_neg (by omega)]
         omega
   · exact gX hN hB (by omega) (Dn.more (by rw [show n = 1 by omega]; exact .one) a (Int.le_of_lt e)) h
theorem jt (hN : 0 < N) (hB : Bs N p) {k} (hs : Up key p k) : ∀ (f l r), l ≤ r → r ≤ k → r - l ≤ f → (∀ i, i < l → kk key p i ≤ kk key p k) → (∀ i, r ≤ i → i < k → kk key p k ≤ kk key p i) →
 (∀ l, l ≤ k → (∀ i, i < l → kk key p i ≤ kk key p k) → (∀ i, l ≤ i → i < k → kk key p k ≤ kk key p i) → R l) → Gk key N R (kas_place p k f l r)
 | 0, l, r, h1, h2, h3, a, b, h => h l (by omega) a fun i x y => b i (by omega) y
 | f + 1, l, r, h1, h2, h3, a, b, h => by
  unfold kas_place
  split
  · exact h l (by omega) a fun i x y => b i (by omega) y
  · refine Gk.ask (hB.at hN _) (hB.at hN _) (fun c => ?_) fun c => ?_
    · replace c : kk _ p k < kk _ p _ := c
      refine jt hN hB hs f _ _ (by omega) (by omega) (by omega) a (fun i x y => ?_) h
      have := hs _ i x y; omega
    · replace c : kk _ p _ ≤ kk _ p k := c
      refine jt hN hB hs f _ _ (by omega) (by omega) (by omega) (fun i x => ?_) b h
      have := hs i ((l + r) / 2) (by omega) (by omega); omega
theorem yY (hN : 0 < N) : ∀ f {p} k, Bs N p → k + f = N → Up key p k → (∀ p, Bs N p → Up key p N → R p) → Gk key N R (kas_bin f p k)
 | 0, p, k, hB, hk, hs, h => h p hB (by rw [← hk]; exact hs)
 | f + 1, p, k, hB, hk, hs, h => by
  refine Gk.bind (jt hN hB hs k 0 k (by omega) (Nat.le_refl _) (by omega) fun i z => by omega fun i a b => by omega fun l hl a b => ?_)
  have sz := hB.size
  refine yY hN f _ ((bubble_perm _ _ _).trans hB) (by omega) (fun i j x y => ?_) h
  rw [t9 (by omega) (by omega), t9 (by omega) (by omega), show k - (k - l) = l by omega]
  by_cases i1 : i = l
  · rw [if_pos i1]
    by_cases j1 : j = l
    · omega
    · rw [if_neg j1, if_pos (by omega)]; exact b _ (by omega) (by omega)
  · rw [if_neg i1]
    by_cases i2 : l < i ∧ i ≤ k
    · rw [if_pos i2, if_neg (by omega), if_pos (by omega)]; exact hs _ _ (by omega) (by omega)
    · rw [if_neg i2]
      by_cases j1 : j = l
      · rw [if_pos j1]; exact a _ (by omega)
      · rw [if_neg j1]
        by_cases j2 : l < j ∧ j ≤ k
        · rw [if_pos j2]; exact hs _ _ (by omega) (by omega)
        · rw [if_neg j2]; exact hs _ _ x (by omega)
theorem BZ (key) (hN : 0 < N) : Gk key N (fun p => Bs N p ∧ Up key p N) (kas_sort N) := by
 refine Gk.bind (yy hN (Array.Perm.refl _) fun m p h1 h2 hB hs => ?_)
 dsimp only
 split
 · exact yY hN _ _ hB (by omega) (by grind) fun p a b => ⟨a, b⟩
 · exact ⟨hB, by rw [show N = m by omega]; exact hs⟩
end
end L2
end
section
namespace L2
open PySem PySem.W PyProof.Rows
section
variable {key : Nat → Int} {N : Nat}
theorem Gk.wp {s} {cmp} (hc : ∀ i j C, i < N → j < N → C (decide (key i < key j)) s → cmp i j C s) (h : ∀ a, R a → Q a s) : ∀ {t}, Gk key N R t → t.kasWp cmp Q s
 | .ret a, g => h a g
 | .ask i j k, g => hc i j _ g.1 g.2.1 (Gk.wp hc h g.2.2)
end
def fg : Int := 2 ^ 64
def Pr (h : Heap) (v : Value) (k : Int) : Prop := ∃ a o x y t u n, v = .ref a ∧ h.get? a = some o ∧ o.cls = .type "tuple" ∧ o.data = .seq #[.int x t, .int y u] n ∧ k = x * fg + y ∧ 0 ≤ y ∧ y < fg
theorem Pr.keep {v} {k} (p : Pr h v k) (q : ∀ b o, o.cls = .type "tuple" → h.get? b = some o → h'.get? b = some o) : Pr h' v k := by
 obtain ⟨b, o, x, y, t, u, n, e, g, c, r⟩ := p
 exact ⟨b, o, x, y, t, u, n, e, q b o c g, c, r⟩
theorem lex_lt {a b c d} (h1 : 0 ≤ b) (h2 : b < fg) (h3 : 0 ≤ d) (h4 : d < fg) : decide (a * fg + b < c * fg + d) = if a == c then decide (b < d) else decide (a < c) := by
 unfold fg at *
 by_cases e : a = c
 · subst e; simp
 · rw [if_neg (by simpa using e)]
   exact decide_eq_decide.mpr ⟨fun h => by omega, fun h => by omega⟩
section
variable {prog : Program} {w : World} {A : Around} {E : Value → Shared → Prop} {s : Shared}
theorem xl {k k'} {C} (p : Pr s.heap v k) (p' : Pr s.heap v' k') (h : C (decide (k < k')) s) : wpAny (model prog w) A (keyLt' (tuples' true) v v') C E s := by
 obtain ⟨a, o, x, y, t, u, n, rfl, g, c, d, rfl, y0, y1⟩ := p
 obtain ⟨a', o', x', y', t', u', n', rfl, g', c', d', rfl, y0', y1'⟩ := p'
 rw [lex_lt y0 y1 y0' y1'] at h
 refine kat_lt g d g' d' (kat_cons (wpAny_eqBool_int ?_))
 cases e : x == x' with
 | true =>
  rw [e] at h
  refine kat_yes (kat_cons (wpAny_eqBool_int ?_))
  cases e2 : y == y' with
  | true =>
   refine kat_yes (kat_nil ?_)
   rw [eq_of_beq e2] at h
   simpa using h
  | false =>
   refine kat_no (kat_one _ _ ?_)
   exact lt_int h
 | false =>
  rw [e] at h
  exact oneLt_int h
def gm {α : Type} (d : α) (xs : List α) (p : List Nat) : List α := p.map fun i => xs.getD i d
theorem qz n : (List.range n).map (fun i => n - 1 - i) = (List.range n).reverse := by
 refine List.ext_getElem (by simp) fun i h1 h2 => ?_
 simp
theorem lY {α : Type} {d} {xs : List α} {i} (h : i < xs.length) : xs.reverse.getD i d = xs.getD (xs.length - 1 - i) d := by
 simp [List.getElem?_reverse h]
theorem p5 {p} {N} (hB : Bs N p) (h : Up key p N) : (p.toList.map key).Pairwise (· ≤ ·) := by
 rw [List.pairwise_iff_getElem]
 intro i j hi hj hij
 simp only [List.length_map, Array.length_toList, hB.size] at hi hj
 have := h i j (Nat.le_of_lt hij) hj
 unfold kk at this
 have z := hB.size
 simp_all
theorem Pr.firsts : ∀ {vs} {ks}, Paired (Pr h) vs ks → ∃ fs, KatTups h vs fs ∧ fs.length = vs.length ∧ ∀ v ∈ fs, ∃ x t, v = Value.int x t
 | _, _, .nil => ⟨[], trivial, rfl, fun _ z => nomatch z⟩
 | _, _, .cons ⟨a, o, x, y, t, u, n, e, g, c, d, _⟩ r => by
  obtain ⟨fs, h1, h2, h3⟩ := Pr.firsts r
  subst e
  refine ⟨.int x t :: fs, .cons g c d rfl h1, by simp [h2], fun v hv => ?_⟩
  rcases List.mem_cons.mp hv with z | z
  · exact ⟨x, t, z⟩
  · exact h3 v z
theorem Paired.getD {e} : ∀ {xs} {ys}, Paired R xs ys → ∀ i, i < xs.length → R (xs.getD i d) (ys.getD i e)
 | _, _, .nil, i, h => absurd h (Nat.not_lt_zero _)
 | _, _, .cons r _, 0, _ => r
 | _, _, .cons _ t, i + 1, h => Paired.getD t i (Nat.lt_of_succ_lt_succ h)
theorem sP {α β} {c} [Decidable c] {x y} {J : α → Sem β} {P} (h : wpAny M A (if c then x else y) (fun a s' => wpAny M A (J a) P E s') E s) : wpAny M A (if c then x >>= J else y >>= J) P E s := by
 split at h
 · next e => rw [if_pos e]; exact wpAny_bind h
 · next e => rw [if_neg e]; exact wpAny_bind h
theorem gA {a : Addr} {vs : List Value} {ks : List Int} {n : Nat} {P : PySem.Fin → Shared → Prop} (ho : s.heap.get? a = some (seqObj "list" vs.toArray n))
 (hp : Paired (Pr s.heap) vs ks) (h64 : vs.length < 64)
 (h : ∀ p : List Nat, p.Perm (List.range vs.length) → gm 0 ks p = (bH ks).reverse → P (.done (.ret .none)) { s with heap := sortedHeap s.heap a vs (gm .none vs p).toArray }) :
 wpAny (model prog w) A (Builtin.«list.sort» ⟨[.ref a], [(Str.ofString "reverse", .bool true)]⟩) P E s := by
 have hl : vs.length = ks.length := hp.length
 have ha : a < s.heap.objs.size := Heap.lt_size ho
 obtain ⟨e1, ho1⟩ : ∃ e1, (s.heap.update a (Obj.mapSeq fun _ => #[])).get? a = some (seqObj "list" #[] e1) := ⟨_, get?_update_seq ho (fun _ => #[])⟩
 rw [list_sort_rev]
 refine wpAny_bind (listItems_at ho rfl (wpAny_bind (listUpdate_at ho rfl (wpAny_bind (seqEpoch_at ho1 rfl (wpAny_bind (wpAny_newTuple (wpAny_bind (wpAny_newList (wpAny_holding ?_))))))))))
 have g2 : (((s.heap.update a (Obj.mapSeq fun _ => #[])).push (seqObj "tuple" vs.toArray 0)).push (seqObj "list" #[] 0)).get? a = some (seqObj "list" #[] e1) := Heap.get?_push_of_some _ (Heap.get?_push_of_some _ ho1)
 have keep : ∀ b o, b ≠ a → s.heap.get? b = some o → (((s.heap.update a (Obj.mapSeq fun _ => #[])).push (seqObj "tuple" vs.toArray 0)).push (seqObj "list" #[] 0)).get? b = some o := fun b o hb q =>
  Heap.get?_push_of_some _ (Heap.get?_push_of_some _ (by rw [Heap.get?_update_ne _ _ _ _ hb]; exact q))
 show wpAny (model prog w) A (do let _ ← rule "list.sort.reverse"; _) P E { s with heap := (((s.heap.update a (Obj.mapSeq fun _ => #[])).push (seqObj "tuple" vs.toArray 0)).push (seqObj "list" #[] 0)) }
 refine wpAny_bind (wpAny_rule ?_)
 generalize hh : (((s.heap.update a (Obj.mapSeq fun _ => #[])).push (seqObj "tuple" vs.toArray 0)).push (seqObj "list" #[] 0)) = h2 at g2 keep
 have hp2 : Paired (Pr h2) vs ks := Paired.mono (fun _ _ p => p.keep fun b o c g => keep b o (fun z => by subst z; rw [ho] at g; cases g; exact absurd c (by show ¬ Value.type "list" = Value.type "tuple"; decide)) g) hp
 have run : wpAny (model prog w) A (if vs.toArray.size < 2 then pure general' else keyKind' vs.toArray) (fun kind s' => s' = { s with heap := h2 } ∧ wpAny (model prog w) A ((if vs.toArray.size < 2 then pure () else sortRuns').run (SortSt.mk' kind (vs.toArray.zip vs.toArray).reverse #[] 7 none)) (fun r s'' => s'' = { s with heap := h2 } ∧ failedOf r.2 = none ∧
  ∃ p : List Nat, p.Perm (List.range vs.length) ∧ ((arrOf r.2).map (·.2)).reverse = (gm .none vs p).toArray ∧ gm 0 ks p = (bH ks).reverse) E { s with heap := h2 }) E { s with heap := h2 } := by
  have hsz : vs.toArray.size = vs.length := List.size_toArray ..
  by_cases c : vs.length < 2
  · rw [if_pos (by omega), if_pos (by omega)]
    refine wpAny_pure ⟨rfl, ?_⟩
    rw [StateT.run_pure]
    refine wpAny_pure ⟨rfl, rfl, List.range vs.length, .refl _, ?_⟩
    match vs, ks, hl, c with
    | [], [], _, _ => exact ⟨by simp [gm, arrOf], rfl⟩
    | [v], [k], _, _ => exact ⟨by simp [gm, arrOf], rfl⟩
  · rw [if_neg (by omega), if_neg (by omega)]
    obtain ⟨fs, t1, t2, t3⟩ := Pr.firsts hp2
    refine kat_kind (T := .type "int") t1 (by omega) (fun v hv => by obtain ⟨x, t, rfl⟩ := t3 v hv; exact .now) (by rfl) ⟨rfl, ?_⟩
    have hn : vs.reverse.length = vs.length := List.length_reverse
    have er : (vs.toArray.zip vs.toArray).reverse = pairsOf vs.reverse := by
     apply Array.toList_inj.mp
     rw [Array.toList_reverse, pairsOf_toList, Array.toList_zip, List.zip_eq_zipWith, List.zip_eq_zipWith, List.zipWith_self, List.zipWith_self, List.map_reverse]
    have est := kas_range (pairsOf vs.reverse)
    rw [pairsOf_size, hn] at est
    have at' : ∀ i, i < vs.length → vs.reverse.getD i Value.none = vs.getD (vs.length - 1 - i) .none := fun i hi => lY hi
    have ka : ∀ i, i < vs.length → ks.reverse.getD i 0 = ks.getD (vs.length - 1 - i) 0 := fun i hi => by rw [lY (by omega), hl]
    have g := kas_runs (A := A) (E := E) (prog := prog) (w := w) (κ := tuples' true) (it := pairsOf vs.reverse) (s := { s with heap := h2 }) (n := vs.length) (Q := fun _ st s'' => s'' = { s with heap := h2 } ∧ failedOf st = none ∧
     ∃ p : List Nat, p.Perm (List.range vs.length) ∧ ((arrOf st).map (·.2)).reverse = (gm .none vs p).toArray ∧ gm 0 ks p = (bH ks).reverse)
     (by omega) h64 (fun p st s'' b1 b2 b3 b4 => ?_) (Gk.wp (Q := fun p s'' => s'' = { s with heap := h2 } ∧ Bs vs.length p ∧ Up (fun i => ks.reverse.getD i 0) p vs.length) (fun i j C hi hj hC => ?_) (fun p hp => ⟨rfl, hp⟩) (BZ (fun i => ks.reverse.getD i 0) (by omega)))
    · unfold kas_st at g
      rw [est] at g
      show wpAny _ _ (sortRuns'.run (SortSt.mk' (tuples' true) (vs.toArray.zip vs.toArray).reverse #[] 7 none)) _ _ _
      rw [er]
      exact g
    · obtain ⟨rfl, hB, hU⟩ := b4
      have lt : ∀ i ∈ p.toList, i < vs.length := fun i hi => by
       have := hB.mem_iff.mp (Array.mem_toList_iff.mp hi); simpa using this
      refine ⟨rfl, b3, (p.toList.map fun i => vs.length - 1 - i).reverse, ?_, ?_, ?_⟩
      · have := (Array.perm_iff_toList_perm.mp hB).map fun i => vs.length - 1 - i
        rw [qz] at this
        exact (List.reverse_perm _).trans (this.trans (List.reverse_perm _))
      · apply Array.toList_inj.mp
        rw [b2, Array.map_map, Array.toList_reverse, Array.toList_map]
        show _ = gm .none vs _
        rw [gm, List.map_reverse, List.map_map]
        congr 1
        refine List.map_congr_left fun i hi => ?_
        show (kas_item (pairsOf vs.reverse) i).2 = _
        rw [kas_item_eq]
        exact at' i (lt i hi)
      · rw [gm, List.map_reverse, List.map_map]
        congr 1
        refine (List.map_congr_left fun i hi => (ka i (lt i hi)).symm).trans ?_
        refine cA ?_ (p5 hB hU) (bG ks)
        refine ((Array.perm_iff_toList_perm.mp hB).map _).trans (.trans ?_ ((List.reverse_perm ks).trans (bQ ks).symm))
        refine .of_eq (List.ext_getElem (by simp [hl]) fun i a b => ?_)
        simp [List.getD_eq_getElem?_getD, ← hl, show i < vs.length by simpa using a]
    · unfold kas_cmp
      rw [kas_item_eq, kas_item_eq]
      have q := fun i (hi : i < vs.length) => (show Pr h2 (vs.reverse.getD i Value.none) (ks.reverse.getD i 0) by
       rw [at' i hi, ka i hi]; exact Paired.getD hp2 _ (by omega))
      exact xl (q i hi) (q j hj) hC
 dsimp only
 refine sP (wpAny_mono run ?_ fun _ _ x => x)
 rintro kind s' ⟨rfl, hr⟩
 refine wpAny_bind (wpAny_mono hr ?_ fun _ _ x => x)
 rintro ⟨⟨⟩, st⟩ s' ⟨rfl, hf, p, p1, p2, p3⟩
 dsimp only at hf p2 ⊢
 have p4 : (gm .none vs p).toArray.size ≤ sizeLine + 1 := by
  rw [List.size_toArray, gm, List.length_map, p1.length_eq, List.length_range, sizeLine_eq]; omega
 refine wpAny_bind (seqEpoch_at g2 rfl (wpAny_bind (listUpdate_at (f := fun _ => (arrOf st).map (·.2) |>.reverse) g2 rfl ?_ (Nat.zero_le _) (by rw [p2]; exact p4))))
 rw [hf]
 simp only [bne_self_eq_false, Bool.false_eq_true, if_false]
 refine wpAny_pure ?_
 have := h p p1 p3
 unfold sortedHeap at this
 rw [hh] at this
 rw [p2]
 exact this
end
end L2
end
section
namespace L2
open PySem PySem.W PyProof.Rows
theorem jH {prog : Program} {w : World} {A : Around} {E : Value → Shared → Prop} {s : Shared} {l} {T} {o} {vs} {ks} {n} {Q} (hT : T = "list" ∨ T = "tuple")
 (ho : s.heap.get? l = some o) (hc : o.cls = .type T) (hd : o.data = .seq vs.toArray n) (hp : Paired (Pr s.heap) vs ks) (h64 : vs.length < 64)
 (h : ∀ (h' : Heap) (p : List _), (∀ b o, s.heap.get? b = some o → h'.get? b = some o) → p.Perm (List.range vs.length) → gm 0 ks p = (bH ks).reverse →
  Q (.ref h'.objs.size) { s with heap := sortedHeap (h'.push (seqObj "list" vs.toArray 0)) h'.objs.size vs (gm .none vs p).toArray }) :
 wpAny (model prog w) A (call (.builtin "sorted") [.ref l] [(Str.ofString "reverse", .bool true)]) Q E s := by
 refine call_function_entry_kw kind_sorted plain_sorted entry_sorted (args_sorted_rev _ _) ?_
 have hz : vs.toArray.size ≤ sizeLine := by rw [List.size_toArray, sizeLine_eq]; omega
 refine wpAny_bind (wpAny_pure (wpAny_bind (wpAny_collect_seq l hT ho hc hd (fun h' k => ?_) hz)))
 refine wpAny_bind (wpAny_newList (wpAny_bind (wpAny_holding (wpAny_call_entry_kw slot_list_sort ⟨_, Heap.get?_push_size _ rfl, rfl⟩ entry_list_sort ?_ (args_list_sort_rev _ _)))) hz)
 refine gA (Heap.get?_push_size _ rfl) (Paired.mono (fun _ _ p => p.keep fun b o _ g => Heap.get?_push_of_some _ (k b o g)) hp) h64 fun p p1 p2 => ⟨_, rfl, ?_⟩
 exact wpAny_pure ⟨_, rfl, h h' p k p1 p2⟩
section
variable {X : Cx} {te : TE} {x : Expr}
def IZ (K : PySem.W.Frag) (H : Hp) (v : V) (k : Int) : Prop := ∃ a x y, v = .ref a ∧ eB K H a [.int x, .int y] ∧ k = x * fg + y ∧ 0 ≤ y ∧ y < fg
def IB (K : PySem.W.Frag) (te : TE) : TE := fun σ H Q => te σ H fun v H1 => (∃ (l : Addr) (xs : List V) (ks : List Int), v = .ref l ∧ (cF K H1 l xs ∨ eB K H1 l xs) ∧ Paired (IZ K H1) xs ks ∧ xs.length < 64 ∧
 ∀ p : List Nat, p.Perm (List.range xs.length) → gm 0 ks p = (bH ks).reverse → ∀ q, H1 q = none → Q (.ref q) (bB H1 q (.lst (gm .non xs p)))) ∨
 ∃ (l : Addr) (ns : List Int), v = .ref l ∧ cF K H1 l (ns.map V.int) ∧ ns.length < 64 ∧ ∀ q, H1 q = none → Q (.ref q) (bB H1 q (.lst ((bH ns).reverse.map V.int)))
theorem am.put (r : am xs us) {p} (h : ∀ i ∈ p, i < xs.length) : am (L2.gm .non xs p) (L2.gm .none us p) := by
 induction p with
 | nil => exact .nil
 | cons i p ih => exact .cons (Paired.getD r i (h i (by simp))) (ih fun j hj => h j (by simp [hj]))
theorem Bo {p1 kp pos kpos : Pos} {j : Nat} (hg : Gl X "sorted") (hm : X.mg "sorted" = none) (he : PE X x te) (hx : starEach [x] X.env = [(false, eval x X.env)]) :
 PE X (.Call (.Name "sorted" p1) [x] [⟨some "reverse", .Constant (.bool true) j kp, kpos⟩] pos) (IB X.K te) := by
 intro pins s σ H Q I h
 refine wpAny_Call_Name_kw (cz I hg hm boot_sorted (callWith_kw ?_ (by rw [hx]; rfl) (by rw [hx]; rfl) rfl rfl))
 rw [hx]
 refine Calls.spliced_cons (aU (he pins s σ H _ I h) fun v s1 h1 => Calls.spliced_nil ?_)
 obtain ⟨y, H1, I1, r1, h1⟩ := h1
 refine aU (wn yU Aw pos pins s1 σ H1 (fun zs H2 => zs = [.bl true] ∧ H2 = H1) I1 ⟨rfl, rfl⟩) fun ws s2 h2 => ?_
 obtain ⟨zs, H2, I2, r2, rfl, rfl⟩ := h2
 obtain ⟨w, rfl, rw'⟩ := vals1 r2
 cases rw'
 rcases h1 with h1 | h1
 rotate_left
 · obtain ⟨l, ns, rfl, hS, h64, q⟩ := h1
   cases r1
   show wpAny _ _ (call (.builtin "sorted") [.ref l] [(Str.ofString "reverse", .bool true)]) _ _ s2
   obtain ⟨its, r, pl, _⟩ := I2.list hS
   have hl : its.length = ns.length := by have := r.length; rw [List.length_map] at this; exact this.symm
   refine sorted_ints_rev (b := true) pl.isList (intsAre_of r) (by rw [hl]; exact h64) fun out ns' a1 a2 a3 => ?_
   obtain ⟨e, he⟩ := sortedAll_at s2.heap its out
   have en : ns'.reverse = bH ns := cA ((List.reverse_perm _).trans (a2.trans (bQ ns).symm)) (List.pairwise_reverse.mpr a3) (bG ns)
   rw [← en, List.reverse_reverse] at q
   refine ⟨.ref (s2.heap.objs.size + 1), _, I2.laid (t' := s2.toks) (o := .lst (ns'.map V.int)) (fun b ob q => sortedAll_old q) (Nat.le_succ _) ⟨?_, out.toList, e, dX a1, by simpa [seqObj] using he⟩, rfl, q _ (I2.hok.fresh (Nat.le_succ _))⟩
   rw [List.length_map, a2.length_eq]
   exact Nat.le_trans (Nat.le_of_lt h64) (by decide)
 obtain ⟨l, xs, ks, rfl, hS, hp, h64, q⟩ := h1
 cases r1
 show wpAny _ _ (call (.builtin "sorted") [.ref l] [(Str.ofString "reverse", .bool true)]) _ _ s2
 obtain ⟨T, hT, o, its, n, ho, hc, hd, rv⟩ : ∃ T, (T = "list" ∨ T = "tuple") ∧ ∃ o its n, s2.heap.get? l = some o ∧ o.cls = .type T ∧ o.data = .seq (List.toArray its) n ∧ am xs its := by
  rcases hS with e | e
  · obtain ⟨its, r, ⟨o, n, e1, e2, _, e4⟩, _⟩ := I2.list e
    exact ⟨_, .inl rfl, o, its, n, e1, e2, e4, r⟩
  · obtain ⟨its, r, ⟨o, e1, e2, n, e3⟩, _⟩ := I2.tuple e
    exact ⟨_, .inr rfl, o, its, n, e1, e2, e3, r⟩
 have hp2 : Paired (Pr s2.heap) its ks := by
  clear hd ho hS q h64
  induction hp generalizing its with
  | nil => cases rv; exact .nil
  | cons r t ih =>
   cases rv with
   | cons a b =>
    refine .cons ?_ (ih _ b)
    obtain ⟨a, x, y, rfl, hq, z⟩ := r
    cases a
    obtain ⟨us, r', ⟨o', e1, e2, n', e3⟩, _⟩ := I2.tuple hq
    obtain ⟨u1, u2, rfl, ⟨t1, rfl⟩, ⟨t2, rfl⟩⟩ := r'.two
    exact ⟨_, o', x, y, t1, t2, n', rfl, e1, e2, e3, z⟩
 have hl := rv.length
 refine jH hT ho hc hd hp2 (by omega) fun h' p k p1 p2 => ?_
 obtain ⟨e, he⟩ := sortedHeap_at (h := h'.push (seqObj "list" its.toArray 0)) (a := h'.objs.size) (vs := its) (n := 0) (out := (gm .none its p).toArray) (Heap.get?_push_size _ rfl)
 have I3 : Inv X pins σ H2 { s2 with heap := h' } := I2.kept k
 have hf : H2 h'.objs.size = none := I3.hok.fresh (Nat.le_refl _)
 refine ⟨.ref h'.objs.size, _, I3.laid (o := .lst (gm .non xs p)) (t' := s2.toks) (h' := sortedHeap (h'.push (seqObj "list" its.toArray 0)) h'.objs.size its (gm .none its p).toArray) (fun b u q => ?_) (Nat.le_refl _) ⟨?_, gm .none its p, e, ?_, ?_⟩, rfl, q p (by rw [hl]; exact p1) p2 _ hf⟩
 · have : b < h'.objs.size := Heap.lt_size q
   rw [sortedHeap_old (Nat.ne_of_lt this) (by rw [Heap.size_push]; exact Nat.lt_succ_of_lt this)]
   exact Heap.get?_push_of_some _ q
 · rw [gm, List.length_map, p1.length_eq, List.length_range, ← hl]
   exact Nat.le_trans (Nat.le_of_lt h64) (by decide)
 · exact rv.put fun i hi => by have := p1.mem_iff.mp hi; simp at this; omega
 · simpa [seqObj] using he
end
end L2
end
section
namespace L2
open PySem PySem.W PyProof.Rows
end L2
end
section
namespace L2
theorem uk (hi : IntsAre its ns) : ∃ xs : Array _, its.toArray = intItems xs ∧ ns = xs.toList.map Prod.fst ∧ ns.length = xs.size := by
 obtain ⟨xs, e⟩ := hi.allInts.items
 have en : ns = xs.toList.map _ := hi.numsOf.symm.trans (by rw [← nums_intItems, ← e])
 exact ⟨xs, e, en, by grind⟩
section
variable {X : Cx} {K : PySem.W.Frag}
def yJ (K : PySem.W.Frag) : List V → Hp → VK → Prop := fun xs H Q => ∃ (l : Addr) (ns : List Int), xs = [.ref l] ∧ cF K H l (ns.map V.int) ∧ Q (.int ns.sum) H
theorem qd (hK : X.K = K) (hr : X.A.handled = none) : bp X (.builtin "sum") (yJ K) := by
 subst hK
 intro pins s σ H ys us Q I rv h
 obtain ⟨l, ns, rfl, hS, q⟩ := h
 obtain ⟨u, rfl, ru⟩ := vals1 rv
 cases ru
 obtain ⟨its, r, pl, _⟩ := I.list hS
 obtain ⟨xs, e, en, el⟩ := uk (intsAre_of r)
 have pl := pl.isList
 rw [e] at pl
 refine sum_intListG hr pl fun h' tk t' k => ?_
 rw [preSum_eq, List.take_of_length_le (by simp), ← en]
 exact ⟨.int _, H, I.kept k, ⟨_, rfl⟩, q⟩
end
end L2
end
section
namespace L2
open PySem
end L2
end
section
namespace I
open PySem L2
inductive W where
 | d (t : T)
 | ref (k : Nat)
abbrev ae := List (Option (List T))
abbrev aG := List (Option W)
inductive ak (α : Type) where
 | ok (a : α) (st : ae)
 | exc (c : Nat) (fs : List T) (st : ae)
 | bad
def ak.bind {α β : Type} (r : ak α) (f : α → ae → ak β) : ak β :=
 match r with
 | .ok a st => f a st
 | .exc c fs st => .exc c fs st
 | .bad => .bad
abbrev FT : Type := Nat → List W → ae → ak W
inductive kQ where
 | add | sub | mul | fdiv | mod | pow
 deriving DecidableEq
inductive rb where
 | eq | ne | lt | le | gt | ge | mem | nmem
 deriving DecidableEq
inductive Bf where
 | len | tuple | list | int | str | min2 | max2 | all | any | sum
inductive Mt where
 | append | extend | reverse | pop | clear | join | insert | remove
inductive Tg where
 | nm (i : Nat)
 | tp (is : List Nat)
 | nt (i : Nat) (is : List Nat)
inductive Ik where
 | seq | rng1 | rng2 | enm | zp
inductive Ty where
 | int | bool | str | tuple | list
 deriving DecidableEq
inductive Gq where
 | all | any | tuple | sum | join
set_option genInjectivity false in
inductive E where
 | v (i : Nat)
 | c (t : T)
 | g (j : Nat)
 | bin (o : kQ) (a b : E)
 | cmp (o : rb) (a b : E)
 | isN (a : E)
 | notN (a : E)
 | and (a b : E)
 | or (a b : E)
 | not (a : E)
 | tup (es : List E)
 | lst (es : List E)
 | ix (a b : E)
 | sl (a : E) (lo hi : Option E)
 | ss (a : E)
 | ext (o e : E)
 | cp2 (N : List Str) (ix ix2 : List (Option Nat)) (t : Tg) (k : Ik) (src ifs : List E) (t2 : Tg) (k2 : Ik) (src2 ifs2 : List E) (el : E)
 | lsc (N : List Str) (ix : List (Option Nat)) (t : Tg) (k : Ik) (src ifs : List E) (el : E)
 | call (f : Nat) (es : List E)
 | bf (f : Bf) (es : List E)
 | meth (m : Mt) (o : E) (es : List E)
 | isi (n : Ty) (a : E)
 | srv (a : E)
 | frz (e : E)
 | tr (e : E)
 | comp (N : List Str) (ix : List (Option Nat)) (tg : Tg) (k : Ik) (src : List E) (ifs : List E) (el : E)
 | gen (q : Gq) (N : List Str) (ix : List (Option Nat)) (tg : Tg) (k : Ik) (src : List E) (ifs : List E) (el : E)
set_option genInjectivity false in
inductive S where
 | asg (t : Tg) (e : E)
 | setx (o i e : E)
 | aug (i : Nat) (o : kQ) (e : E)
 | ex (e : E)
 | ret (e : E)
 | retN
 | pass
 | brk
 | cnt
 | ifs (c : E) (a b : List S)
 | for (t : Tg) (k : Ik) (src : List E) (body : List S)
inductive Fl where
 | nx
 | rt (w : W)
 | bk
 | ct
def aZ : Nat := 1000000
def look (w : W) (st : ae) : Option T :=
 match w with
 | .d t => some t
 | .ref k => match st[k]? with
  | some (some xs) => some (.lst xs)
  | _ => none
def fresh (t : T) (st : ae) : ak W :=
 match t with
 | .lst xs => .ok (.ref st.length) (st ++ [some xs])
 | t => .ok (.d t) st
def aJ (n : Nat) (w : W) (st : ae) : ak T :=
 match w with
 | .d t => .ok t (st.take n)
 | .ref k => match st[k]? with
  | some (some xs) => .ok (.lst xs) ((st.set k none).take n)
  | _ => .bad
def ci (n : Nat) (w : W) (st : ae) : ak W :=
 match w with
 | .d t => .ok (.d t) (st.take n)
 | .ref k => if k < n then .ok (.ref k) (st.take n) else match st[k]? with
  | some (some xs) => .ok (.ref (st.take n).length) (st.take n ++ [some xs])
  | _ => .bad
def I0 : T → Option Bool
 | .non => some false
 | .bl b => some b
 | .int i => some (i != 0)
 | .str x => if x.length ≤ aZ then some ((x.length : Int) != 0) else none
 | .tup xs => some (!xs.isEmpty)
 | .lst xs => some (!xs.isEmpty)
def fG : T → Bool
 | _ => true
def rY : Ty → T → Bool
 | .int, .int _ => true
 | .int, .bl _ => true
 | .bool, .bl _ => true
 | .str, .str _ => true
 | .tuple, .tup _ => true
 | .list, .lst _ => true
 | _, _ => false
def aT (w : W) (st : ae) : Option Bool := (look w st).bind I0
theorem lO : ∃ f : Int → Bool, ∀ i, f i = (decide (-2 ^ 64 < i) && decide (i < 2 ^ 64)) := ⟨_, fun _ => rfl⟩
def aI : Int → Bool := Classical.choose lO
theorem oq (i : Int) : aI i = (decide (-2 ^ 64 < i) && decide (i < 2 ^ 64)) := Classical.choose_spec lO i
def eW : kQ → T → T → Option T
 | .add, .int a, .int b => some (.int (a + b))
 | .add, .str a, .str b => if a.length + b.length ≤ aZ then some (.str (a ++ b)) else none
 | .add, .tup a, .tup b => if a.length + b.length ≤ aZ then some (.tup (a ++ b)) else none
 | .add, .lst a, .lst b => if a.length + b.length ≤ aZ then some (.lst (a ++ b)) else none
 | .sub, .int a, .int b => some (.int (a - b))
 | .mul, .int a, .int b => if aI a || aI b then some (.int (a * b)) else none
 | .mul, .str a, .int b => if a.length ≤ 1000 ∧ 0 ≤ b ∧ b ≤ 1000 then some (.str (eA a b)) else none
 | .mul, .tup [x], .int b => if 0 ≤ b ∧ b ≤ 1000 then some (.tup (List.replicate b.toNat x)) else none
 | .fdiv, .int a, .int b => if 0 < b ∧ b < 2 ^ 1000 then some (.int (a / b)) else none
 | .mod, .int a, .int b => if 0 < b then some (.int (a % b)) else none
 | .pow, .int a, .int b => if 0 ≤ b ∧ b ≤ 1000000 ∧ a.natAbs < 2 ^ 64 then some (.int (a ^ b.toNat)) else none
 | _, _, _ => none
def aP : T → Bool
 | .tup _ => false
 | .lst _ => false
 | _ => true
def eK : rb → T → T → Option Bool
 | .eq, a, b => if cS a ≤ 60 ∧ cS b ≤ 60 then (if CG a b = true then some (eqT a b) else none) else none
 | .ne, a, b => if cS a ≤ 60 ∧ cS b ≤ 60 then (if CG a b = true then some (!eqT a b) else none) else none
 | .lt, .int a, .int b => some (decide (a < b))
 | .le, .int a, .int b => some (decide (a ≤ b))
 | .gt, .int a, .int b => some (decide (b < a))
 | .ge, .int a, .int b => some (decide (b ≤ a))
 | .le, .str a, .str b => some (!decide (b.cps.toList < a.cps.toList))
 | .mem, x, .tup ys => if aP x && ys.all aP then some (ys.any fun y => eqT y x) else none
 | .mem, x, .lst ys => if aP x && ys.all aP then some (ys.any fun y => eqT y x) else none
 | .nmem, x, .tup ys => if aP x && ys.all aP then some (!ys.any fun y => eqT y x) else none
 | .nmem, x, .lst ys => if aP x && ys.all aP then some (!ys.any fun y => eqT y x) else none
 | _, _, _ => none
def bh (o : kQ) (x y : W) (st : ae) : ak W :=
 match look x st, look y st with
 | some a, some b => match eW o a b with
  | some t => fresh t st
  | none => .bad
 | _, _ => .bad
def G2 (x y : W) (st : ae) : ak W :=
 match look x st, look y st with
 | some a, some b => (match b with
  | .lst ys => if cS a ≤ 60 ∧ cB ys ≤ 59 then .ok (.d (.bl (!ys.any fun y => eqT y a))) st else .bad
  | _ => .bad)
 | _, _ => .bad
def Ic (x y : W) (st : ae) : ak W :=
 match x, look y st with
 | .ref k, some (.int n) => (match st[k]? with
  | some (some xs) => if 0 ≤ n ∧ n ≤ 1000 ∧ xs.length * n.toNat ≤ aZ then fresh (.lst (List.replicate n.toNat xs).flatten) st else .bad
  | _ => .bad)
 | _, _ => .bad
def bg (o : rb) (x y : W) (st : ae) : ak W :=
 match look x st, look y st with
 | some a, some b => match eK o a b with
  | some t => .ok (.d (.bl t)) st
  | none => .bad
 | _, _ => .bad
def fN (x y : W) (st : ae) : ak W :=
 match look x st, look y st with
 | some (.tup xs), some (.int i) => match dj xs i with
  | some t => .ok (.d t) st
  | none => .bad
 | some (.lst xs), some (.int i) => match dj xs i with
  | some t => .ok (.d t) st
  | none => .bad
 | some (.str z), some (.int i) => if z.length ≤ aZ then match dj z.cps.toList i with
  | some c => .ok (.d (.str ⟨#[c]⟩)) st
  | none => .bad else .bad
 | _, _ => .bad
def v7 (xs : List T) (lo hi : Option Int) : List T := (xs.drop (HT.dz xs.length 0 lo)).take (HT.dz xs.length xs.length hi - HT.dz xs.length 0 lo)
def CK (x : W) (lo hi : Option Int) (st : ae) : ak W :=
 match look x st with
 | some (.tup xs) => if HT.dz xs.length 0 lo = 0 ∧ HT.dz xs.length xs.length hi = xs.length then .bad else .ok (.d (.tup (v7 xs lo hi))) st
 | some (.lst xs) => fresh (.lst (v7 xs lo hi)) st
 | some (.str z) => if z.length ≤ aZ then .ok (.d (.str (Txt.slice z lo hi))) st else .bad
 | _ => .bad
def bY : List W → ae → Option (List T)
 | [], _ => some []
 | w :: ws, st => match look w st, bY ws st with
  | some t, some ts => some (t :: ts)
  | _, _ => none
def aK : List T → Option (List Int)
 | [] => some []
 | .int i :: r => (aK r).map (i :: ·)
 | _ :: _ => none
def dq : List T → Option (List Str)
 | [] => some []
 | .str i :: r => (dq r).map (i :: ·)
 | _ :: _ => none
def iR : List T → Option (List Bool)
 | [] => some []
 | .bl i :: r => (iR r).map (i :: ·)
 | _ :: _ => none
def Dd : T → Option (List T)
 | .tup xs => some xs
 | .lst xs => some xs
 | _ => none
def insI (x : Int) : List Int → List Int
 | [] => [x]
 | y :: r => if x < y then x :: y :: r else if x = y then y :: r else y :: insI x r
def eT : List Int → List Int
 | [] => []
 | x :: r => insI x (eT r)
def rng (lo : Int) (n : Nat) : List T := (List.range n).map fun (k : Nat) => .int (lo + (k : Int))
def qT (f : Bf) (t : T) : Option T := match f with
 | .len => (match t with
  | .tup xs => some (.int xs.length)
  | .lst xs => some (.int xs.length)
  | .str z => if z.length ≤ aZ then some (.int z.length) else none
  | _ => none)
 | .tuple => (match t with
  | .tup xs => some (.tup xs)
  | .lst xs => some (.tup xs)
  | _ => none)
 | .list => (match t with
  | .tup xs => some (.lst xs)
  | .lst xs => some (.lst xs)
  | _ => none)
 | .int => (match t with
  | .int i => some (.int i)
  | .bl k => some (.int (if k then 1 else 0))
  | _ => none)
 | .str => (match t with
  | .int i => if i.natAbs.log2 < 1920 then some (.str (toString i)) else none
  | .str z => some (.str z)
  | _ => none)
 | .all => (match t with
  | .lst xs => (iR xs).map fun bs => .bl (bs.all id)
  | _ => none)
 | .sum => (match t with
  | .lst xs => (aK xs).map fun ns => .int ns.sum
  | _ => none)
 | _ => none
def rf (f : Bf) (t u : T) : Option T := match f with
 | .min2 => (match t, u with
  | .int i, .int j => some (.int (if j < i then j else i))
  | _, _ => none)
 | .max2 => (match t, u with
  | .int i, .int j => some (.int (if j > i then j else i))
  | _, _ => none)
 | _ => none
def Jm (f : Bf) (ts : List T) : Option T := match ts with
 | [t] => qT f t
 | [t, u] => rf f t u
 | _ => none
def gq (f : Bf) (ws : List W) (st : ae) : ak W :=
 match bY ws st with
 | some ts => match Jm f ts with
  | some t => fresh t st
  | none => .bad
 | none => .bad
def Gz (x : W) (st : ae) : ak W :=
 match look x st with
 | some (.lst xs) => match aK xs with
  | some ns => if ns.length < 63 then fresh (.lst ((eT ns).map .int)) st else .bad
  | none => .bad
 | _ => .bad
def jC : List T → Option (List Int)
 | [] => some []
 | .tup [.int x, .int y] :: r => if 0 ≤ y ∧ y < fg then (jC r).map ((x * fg + y) :: ·) else none
 | _ :: _ => none
def pj (k : Int) : T := .tup [.int (k / fg), .int (k % fg)]
def zL (o : Option T) (st : ae) : ak W := match o with
 | some (.lst ys) => (match aK ys with
  | some ns => if ns.length < 64 then fresh (.lst ((bH ns).reverse.map .int)) st else .bad
  | none => .bad)
 | _ => .bad
def nh (x : W) (st : ae) : ak W :=
 match (look x st).bind Dd with
 | some xs => match jC xs with
  | some ks => if xs.length < 64 then fresh (.lst ((bH ks).reverse.map pj)) st else .bad
  | none => zL (look x st) st
 | none => .bad
def uE (ys : List T) (st : ae) : ak W := match aK ys with
 | some ns => .ok (.d (.int ((eT ns).length : Nat))) st
 | none => .bad
def ql (x y : W) (st : ae) : ak W := match x, y with
 | .ref k, .ref j => (match st[k]?, st[j]? with
  | some (some xs), some (some ys) => if xs.length + ys.length ≤ aZ then .ok (.d .non) (st.set k (some (xs ++ ys))) else .bad
  | _, _ => .bad)
 | _, _ => .bad
def vM : Mt → List T → List T → Option (List T × T)
 | .append, xs, [t] => if xs.length < aZ then some (xs ++ [t], .non) else none
 | .reverse, xs, [] => some (xs.reverse, .non)
 | .clear, _, [] => some ([], .non)
 | .insert, xs, [.int i, t] => if 0 ≤ i ∧ i ≤ (xs.length : Int) ∧ xs.length < aZ then some (xs.take i.toNat ++ t :: xs.drop i.toNat, .non) else none
 | .remove, xs, [.int i] => (match aK xs with
  | some ns => if i ∈ ns then some ((ns.erase i).map .int, .non) else none
  | none => none)
 | _, _, _ => none
def xU : Mt → T → List T → Option T
 | .join, .str sep, [.lst xs] => match dq xs with
  | some ys => if (ys.map (·.length)).sum + ys.length * sep.length ≤ aZ then some (.str (Txt.join sep ys)) else none
  | none => none
 | .join, .str sep, [.tup xs] => match dq xs with
  | some ys => if (ys.map (·.length)).sum + ys.length * sep.length ≤ aZ then some (.str (Txt.join sep ys)) else none
  | none => none
 | _, _, _ => none
def dA (w : W) (st : ae) : Option (List T × List (Nat × List T)) :=
 match w with
 | .d (.tup xs) => some (xs, [])
 | .d (.lst xs) => some (xs, [])
 | .ref k => match st[k]? with
  | some (some xs) => some (xs, [(k, xs)])
  | _ => none
 | _ => none
def a9 : W → Bool
 | .d (.tup _) => true
 | _ => false
def JV (k : Ik) (w : W) (st : ae) : Option (List T × List (Nat × List T)) := match k with
 | .seq => dA w st
 | .rng1 => (match w with
  | .d (.int n) => if -(aZ : Int) ≤ n ∧ n ≤ (aZ : Int) then some (rng 0 n.toNat, []) else none
  | _ => none)
 | .enm => (dA w st).map fun p => (p.1.zipIdx.map fun q => .tup [.int q.2, q.1], p.2)
 | _ => none
def CL (k : Ik) (w u : W) (st : ae) : Option (List T × List (Nat × List T)) := match k with
 | .rng2 => (match w, u with
  | .d (.int a), .d (.int b) => if -(aZ : Int) ≤ a ∧ a ≤ (aZ : Int) ∧ -(aZ : Int) ≤ b ∧ b ≤ (aZ : Int) then some (rng a (b - a).toNat, []) else none
  | _, _ => none)
 | .zp => (match dA w st, dA u st with
  | some p, some q => if a9 w = a9 u then some ((p.1.zip q.1).map fun z => .tup [z.1, z.2], p.2 ++ q.2) else none
  | _, _ => none)
 | _ => none
def items (k : Ik) (ws : List W) (st : ae) : Option (List T × List (Nat × List T)) := match ws with
 | [w] => JV k w st
 | [w, u] => CL k w u st
 | _ => none
def lT (o : kQ) (x y : Int) : Option Int := match o with
 | .add => some (x + y)
 | .sub => some (x - y)
 | .mul => if aI x || aI y then some (x * y) else none
 | _ => none
mutual
def D7 : T → T → Bool
 | .non, .non => true
 | .bl a, .bl b => a == b
 | .int a, .int b => a == b
 | .str a, .str b => decide (a = b)
 | .tup a, .tup b => mq a b
 | .lst a, .lst b => mq a b
 | _, _ => false
def mq : List T → List T → Bool
 | [], [] => true
 | x :: xs, y :: ys => D7 x y && mq xs ys
 | _, _ => false
end
def dK (gs : List (Nat × List T)) (st : ae) : Bool := gs.all fun g => match st[g.1]? with
 | some (some xs) => mq xs g.2
 | _ => false
def bo (ix : List (Option Nat)) (ρ : aG) : aG := ix.map fun o => match o with | none => none | some j => (ρ[j]?).getD none
def aS : Tg → W → aG → Option aG
 | .nm i, w, ρ => if i < ρ.length then some (ρ.set i (some w)) else none
 | .tp is, .d (.tup xs), ρ => if is.length = xs.length ∧ is.all (· < ρ.length) then some ((is.zip xs).foldl (fun ρ p => ρ.set p.1 (some (.d p.2))) ρ) else none
 | .nt i is, .d (.tup [x, .tup ys]), ρ => if is.length = ys.length ∧ (i :: is).all (· < ρ.length) then some ((is.zip ys).foldl (fun ρ p => ρ.set p.1 (some (.d p.2))) (ρ.set i (some (.d x)))) else none
 | _, _, _ => none
def aa (gs : List (Nat × List T)) (step : T → ae → ak (Option T)) : List T → List T → ae → ak (List T)
 | [], acc, st => if dK gs st then .ok acc st else .bad
 | x :: xs, acc, st => if dK gs st then (step x st).bind fun o st' => aa gs step xs (match o with | some t => acc ++ [t] | none => acc) st' else .bad
def bF (gs : List (Nat × List T)) (step : T → List T → ae → ak (List T)) : List T → List T → ae → ak (List T)
 | [], acc, st => if dK gs st then .ok acc st else .bad
 | x :: xs, acc, st => if dK gs st then (step x acc st).bind fun acc' st' => bF gs step xs acc' st' else .bad
def n6 (b : Bool) (gs : List (Nat × List T)) (step : T → ae → ak (Option T)) : List T → ae → ak Bool
 | [], st => if dK gs st then .ok b st else .bad
 | x :: xs, st => if dK gs st then (step x st).bind fun o st' => match o with
  | none => n6 b gs step xs st'
  | some (.bl c) => if c == b then n6 b gs step xs st' else .ok (!b) st'
  | some _ => .bad else .bad
def GB : Gq → List T → Option T
 | .tuple, xs => some (.tup xs)
 | .sum, xs => (aK xs).map fun ns => .int ns.sum
 | _, _ => none
section
variable (F : FT) (G : List T)
mutual
def aj : E → aG → ae → ak W
 | .v i, ρ, st => match ρ[i]? with
  | some (some w) => .ok w st
  | _ => .bad
 | .c t, _, st => .ok (.d t) st
 | .g j, _, st => match G[j]? with
  | some t => .ok (.d t) st
  | none => .bad
 | .bin o a b, ρ, st => (aj a ρ st).bind fun x st => (aj b ρ st).bind fun y st => bh o x y st
 | .cmp o a b, ρ, st => (aj a ρ st).bind fun x st => (aj b ρ st).bind fun y st => bg o x y st
 | .isN a, ρ, st => (aj a ρ st).bind fun x st => .ok (.d (.bl (match x with | .d .non => true | _ => false))) st
 | .notN a, ρ, st => (aj a ρ st).bind fun x st => .ok (.d (.bl (match x with | .d .non => false | _ => true))) st
 | .and a b, ρ, st => (aj a ρ st).bind fun x st => match aT x st with
  | some true => aj b ρ st
  | some false => .ok x st
  | none => .bad
 | .or a b, ρ, st => (aj a ρ st).bind fun x st => match aT x st with
  | some false => aj b ρ st
  | some true => .ok x st
  | none => .bad
 | .not a, ρ, st => (aj a ρ st).bind fun x st => match aT x st with
  | some b => .ok (.d (.bl (!b))) st
  | none => .bad
 | .tup es, ρ, st => (cT es ρ st).bind fun ts st => if ts.length ≤ aZ then .ok (.d (.tup ts)) st else .bad
 | .lst es, ρ, st => (cT es ρ st).bind fun ts st => if ts.length ≤ aZ then fresh (.lst ts) st else .bad
 | .ix a b, ρ, st => (aj a ρ st).bind fun x st => (aj b ρ st).bind fun y st => fN x y st
 | .sl a lo hi, ρ, st => (aj a ρ st).bind fun x st => (vH lo ρ st).bind fun l st => (vH hi ρ st).bind fun h st => CK x l h st
 | .ss a, ρ, st => (aj a ρ st).bind fun x st => Gz x st
 | .ext o e, ρ, st => (aj o ρ st).bind fun x st => if (look x st).isNone then .bad else (aj e ρ st).bind fun y st => ql x y st
 | .cp2 _ ix ix2 tg k src ifs t2 k2 src2 ifs2 el, ρ, st => (a8 src ρ st).bind fun ws st => match items k ws st with
  | some (xs, gs) => if xs.length ≤ aZ then
   (bF gs (fun x acc st => match aS tg (.d x) (bo ix ρ) with
    | some ρ1 => (bA ifs ρ1 st).bind fun b st' => if b then
     (a8 src2 (bo ix2 ρ1) st').bind fun ws2 st2 => match items k2 ws2 st2 with
      | some (ys, gs2) => if acc.length + ys.length ≤ aZ then
       aa gs2 (fun x st => match aS t2 (.d x) (bo ix2 ρ1) with
        | some ρ' => (bA ifs2 ρ' st).bind fun b st' => if b then (aj el ρ' st').bind fun w st' => (aJ st.length w st').bind fun t st => .ok (some t) st else .ok none (st'.take st.length)
        | none => .bad) ys acc st2
       else .bad
      | none => .bad
     else .ok acc st'
    | none => .bad) xs [] st).bind fun ys st => if ys.length ≤ aZ then fresh (.lst ys) st else .bad
   else .bad
  | none => .bad
 | .lsc _ ix tg k src ifs el, ρ, st => (a8 src ρ st).bind fun ws st => match items k ws st with
  | some (xs, gs) => if xs.length ≤ 1000 then
   (aa gs (fun x st => match aS tg (.d x) (bo ix ρ) with
    | some ρ' => (bA ifs ρ' st).bind fun b st' => if b then (aj el ρ' st').bind fun w st' => (aJ st.length w st').bind fun t st => .ok (some t) st else .ok none (st'.take st.length)
    | none => .bad) xs [] st).bind fun ys st => uE ys st
   else .bad
  | none => .bad
 | .call f es, ρ, st => (a8 es ρ st).bind fun ws st => F f ws st
 | .bf f es, ρ, st => (a8 es ρ st).bind fun ws st => gq f ws st
 | .meth m o es, ρ, st => (aj o ρ st).bind fun x st => if (look x st).isNone then .bad else (cT es ρ st).bind fun ts st => match x with
  | .ref k => match st[k]? with
   | some (some xs) => match vM m xs ts with
    | some (ys, t) => .ok (.d t) (st.set k (some ys))
    | none => .bad
   | _ => .bad
  | .d t => match xU m t ts with
   | some u => fresh u st
   | none => .bad
 | .isi n a, ρ, st => (aj a ρ st).bind fun x st => match look x st with
  | some t => if fG t then .ok (.d (.bl (rY n t))) st else .bad
  | none => .bad
 | .srv a, ρ, st => (aj a ρ st).bind fun x st => nh x st
 | .frz e, ρ, st => (aj e ρ st).bind fun x st' => (aJ st.length x st').bind fun t st => .ok (.d t) st
 | .tr e, ρ, st => (aj e ρ st).bind fun x st' => ci st.length x st'
 | .comp _ ix tg k src ifs el, ρ, st => (a8 src ρ st).bind fun ws st => match items k ws st with
  | some (xs, gs) => if xs.length ≤ aZ then
   (aa gs (fun x st => match aS tg (.d x) (bo ix ρ) with
    | some ρ' => (bA ifs ρ' st).bind fun b st' => if b then (aj el ρ' st').bind fun w st' => (aJ st.length w st').bind fun t st => .ok (some t) st else .ok none (st'.take st.length)
    | none => .bad) xs [] st).bind fun ys st => fresh (.lst ys) st
   else .bad
  | none => .bad
 | .gen q _ ix tg k src ifs el, ρ, st => (a8 src ρ st).bind fun ws st => match items k ws st with
  | some (xs, gs) => if xs.length ≤ aZ then
   let step := fun x st => match aS tg (.d x) (bo ix ρ) with
    | some ρ' => (bA ifs ρ' st).bind fun b st' => if b then (aj el ρ' st').bind fun w st' => (aJ st.length w st').bind fun t st => .ok (some t) st else .ok none (st'.take st.length)
    | none => .bad
   match q with
   | .all => (n6 true gs step xs st).bind fun b st => .ok (.d (.bl b)) st
   | .any => (n6 false gs step xs st).bind fun b st => .ok (.d (.bl b)) st
   | q => (aa gs step xs [] st).bind fun ys st => match GB q ys with
    | some t => .ok (.d t) st
    | none => .bad
   else .bad
  | none => .bad
def a8 : List E → aG → ae → ak (List W)
 | [], _, st => .ok [] st
 | e :: es, ρ, st => (aj e ρ st).bind fun w st => (a8 es ρ st).bind fun ws st => .ok (w :: ws) st
def cT : List E → aG → ae → ak (List T)
 | [], _, st => .ok [] st
 | e :: es, ρ, st => (aj e ρ st).bind fun w st' => (aJ st.length w st').bind fun t st => (cT es ρ st).bind fun ts st => .ok (t :: ts) st
def bA : List E → aG → ae → ak Bool
 | [], _, st => .ok true st
 | e :: es, ρ, st => (aj e ρ st).bind fun w st => match aT w st with
  | some true => bA es ρ st
  | some false => .ok false st
  | none => .bad
def vH : Option E → aG → ae → ak (Option Int)
 | none, _, st => .ok none st
 | some e, ρ, st => (aj e ρ st).bind fun w st => match look w st with
  | some (.int i) => .ok (some i) st
  | _ => .bad
end
def aM (gs : List (Nat × List T)) (step : T → aG → ae → ak (Fl × aG)) : List T → aG → ae → ak (Fl × aG)
 | [], ρ, st => if dK gs st then .ok (.nx, ρ) st else .bad
 | x :: xs, ρ, st => if dK gs st then (step x ρ st).bind fun p st' => match p.1 with
  | .nx => aM gs step xs p.2 st'
  | .ct => aM gs step xs p.2 st'
  | .bk => .ok (.nx, p.2) st'
  | .rt w => .ok (.rt w, p.2) st' else .bad
mutual
def dB : S → aG → ae → ak (Fl × aG)
 | .asg t e, ρ, st => (aj F G e ρ st).bind fun w st => match aS t w ρ with
  | some ρ' => .ok (.nx, ρ') st
  | none => .bad
 | .setx o i e, ρ, st => (aj F G e ρ st).bind fun w st' => (aJ st.length w st').bind fun t st => (aj F G o ρ st).bind fun x st => (aj F G i ρ st).bind fun y st => match x, look y st with
  | .ref k, some (.int n) => match st[k]? with
   | some (some xs) => match pi xs.length n with
    | some j => .ok (.nx, ρ) (st.set k (some (xs.set j t)))
    | none => .bad
   | _ => .bad
  | _, _ => .bad
 | .aug i o e, ρ, st => match ρ[i]? with
  | some (some (.d a)) => (aj F G e ρ st).bind fun w st => match a, look w st with
   | .int x, some (.int y) => (match lT o x y with
    | some z => .ok (.nx, ρ.set i (some (.d (.int z)))) st
    | none => .bad)
   | _, _ => .bad
  | _ => .bad
 | .ex e, ρ, st => (aj F G e ρ st).bind fun _ st' => .ok (.nx, ρ) (st'.take st.length)
 | .ret e, ρ, st => (aj F G e ρ st).bind fun w st => .ok (.rt w, ρ) st
 | .retN, ρ, st => .ok (.rt (.d .non), ρ) st
 | .pass, ρ, st => .ok (.nx, ρ) st
 | .brk, ρ, st => .ok (.bk, ρ) st
 | .cnt, ρ, st => .ok (.ct, ρ) st
 | .ifs c a b, ρ, st => (aj F G c ρ st).bind fun w st' => match aT w st' with
  | some true => bI a ρ (st'.take st.length)
  | some false => bI b ρ (st'.take st.length)
  | none => .bad
 | .for t k src body, ρ, st => (a8 F G src ρ st).bind fun ws st => match items k ws st with
  | some (xs, gs) => aM gs (fun x ρ st => match aS t (.d x) ρ with
   | some ρ' => bI body ρ' st
   | none => .bad) xs ρ st
  | none => .bad
def bI : List S → aG → ae → ak (Fl × aG)
 | [], ρ, st => .ok (.nx, ρ) st
 | s :: ss, ρ, st => (dB s ρ st).bind fun p st => match p.1 with
  | .nx => bI ss p.2 st
  | f => .ok (f, p.2) st
end
end
structure ce where
 ar : Nat
 sl : Nat
 body : List S
def dy (n : Nat) (r : ak (Fl × aG)) : ak W := r.bind fun p st => match p.1 with
 | .rt w => ci n w st
 | .nx => .ok (.d .non) (st.take n)
 | _ => .bad
def aC (F : FT) (G : List T) (D : ce) (ws : List W) (st : ae) : ak W :=
 if ws.length = D.ar then dy st.length (bI F G D.body (ws.map some ++ List.replicate (D.sl - D.ar) none) st) else .bad
def run (G : List T) (Ds : Nat → Option ce) : Nat → FT
 | 0, _, _, _ => .bad
 | n + 1, f, ws, st => match Ds f with
  | some D => aC (run G Ds n) G D ws st
  | none => .bad
end I
end
section
namespace I
open PySem L2 PySem.Spec PyProof.Rows
example {F G ρ st} : aj F G (.bin .add (.c (.int 1)) (.c (.int 2))) ρ st = .ok (.d (.int 3)) st := rfl
set_option genInjectivity false in
structure Gm where
 P : Program
 w : World
 K : PySem.W.Frag
 mg : Str → Option Value
 base : Heap
 tabs : List Addr
 gn : Nat → Option Str
 G : List T
def aq (φ : List Addr) (st : ae) (a : Addr) : Prop := ∃ (k : Nat) (xs : List T), φ[k]? = some a ∧ st[k]? = some (some xs)
structure Rl (Γ : Gm) (φ : List Addr) (st : ae) (H : Hp) : Prop where
 len : φ.length = st.length
 inj : ∀ (i j : Nat) (a : Addr) (xs ys : List T), φ[i]? = some a → φ[j]? = some a → st[i]? = some (some xs) → st[j]? = some (some ys) → i = j
 at_ : ∀ (k : Nat) (xs : List T) (a : Addr), φ[k]? = some a → st[k]? = some (some xs) → ∃ vs, H a = some (.lst vs) ∧ aA Γ.K (aq φ st) H xs vs
 tab : ∀ P ∈ Γ.tabs, H P = some (cP P)
def RW (Γ : Gm) (φ : List Addr) (st : ae) (H : Hp) : W → V → Prop
 | .d t, v => Rp Γ.K (aq φ st) H t v
 | .ref k, v => ∃ a, φ[k]? = some a ∧ v = .ref a
def sd (Γ : Gm) (φ : List Addr) (st : ae) (H : Hp) : List W → List V → Prop
 | [], vs => vs = []
 | w :: ws, vs => ∃ v r, vs = v :: r ∧ RW Γ φ st H w v ∧ sd Γ φ st H ws r
structure Pt (Γ : Gm) (φ : List Addr) (st : ae) (H : Hp) (φ' : List Addr) (st' : ae) (H' : Hp) : Prop where
 rl : Rl Γ φ' st' H'
 stp : gI (aq φ st) H (aq φ' st') H'
 pre : ∀ (k : Nat) (a : Addr), φ[k]? = some a → φ'[k]? = some a
structure En (Γ : Gm) (φ : List Addr) (st : ae) (H : Hp) (ρ : aG) (σ : L2.St) : Prop where
 len : ρ.length = σ.length
 at_ : ∀ (i : Nat) (w : W), ρ[i]? = some (some w) → ∃ v, σ[i]? = some (some v) ∧ RW Γ φ st H w v
section
variable {Γ : Gm} {φ φ1 φ2 : List Addr} {st st1 st2 : ae} {H H1 H2 : Hp}
theorem Pt.refl (r : Rl Γ φ st H) : Pt Γ φ st H φ st H := ⟨r, gI.refl _ _, fun _ _ h => h⟩
theorem Pt.trans (a : Pt Γ φ st H φ1 st1 H1) (b : Pt Γ φ1 st1 H1 φ2 st2 H2) : Pt Γ φ st H φ2 st2 H2 :=
 ⟨b.rl, a.stp.trans b.stp, fun k x h => b.pre k x (a.pre k x h)⟩
theorem RW.step (p : Pt Γ φ st H φ1 st1 H1) : ∀ {w} {v}, RW Γ φ st H w v → RW Γ φ1 st1 H1 w v
 | .d t, v, r => Rp.step p.stp r
 | .ref k, v, ⟨a, h, e⟩ => ⟨a, p.pre k a h, e⟩
theorem sd.length : ∀ {ws} {vs}, sd Γ φ st H ws vs → vs.length = ws.length
 | [], _, r => by rw [r]; rfl
 | w :: ws, _, ⟨v, r, e, a, b⟩ => by rw [e, List.length_cons, List.length_cons, sd.length b]
theorem sd.get : ∀ {ws} {vs} {i : Nat} {w}, sd Γ φ st H ws vs → ws[i]? = some w → ∃ v, vs[i]? = some v ∧ RW Γ φ st H w v
 | [], _, _, _, r, e => by simp at e
 | x :: xs, _, 0, t, ⟨v, rs, e1, r1, r2⟩, e => by
  grind
 | x :: xs, _, i + 1, t, ⟨v, rs, e1, r1, r2⟩, e => by
  obtain ⟨u, h1, h2⟩ := sd.get r2 (by simpa using e)
  grind
theorem En.step (p : Pt Γ φ st H φ1 st1 H1) (e : En Γ φ st H ρ σ) : En Γ φ1 st1 H1 ρ σ :=
 ⟨e.len, fun i w h => let ⟨v, a, b⟩ := e.at_ i w h; ⟨v, a, b.step p⟩⟩
theorem En.set {w} {v} (e : En Γ φ st H ρ σ) (r : RW Γ φ st H w v) : En Γ φ st H (ρ.set i (some w)) (σ.set i (some v)) :=
 ⟨by rw [List.length_set, List.length_set, e.len], fun j u h => by
  by_cases hj : i = j
  · subst hj
    by_cases hl : i < ρ.length
    · rw [List.getElem?_set_self hl] at h
      cases h
      exact ⟨v, by rw [List.getElem?_set_self (by rw [← e.len]; exact hl)], r⟩
    simp_all
  · rw [List.getElem?_set_ne hj] at h
    obtain ⟨v', a, b⟩ := e.at_ j u h
    simp_all⟩
theorem RW.look (rl : Rl Γ φ st H) (r : RW Γ φ st H w v) (h : look w st = some t) :
 Rp Γ.K (aq φ st) H t v ∨ ∃ (k : Nat) (xs : List T) (a : Addr) (vs : List V), w = .ref k ∧ t = .lst xs ∧ v = .ref a ∧ φ[k]? = some a ∧ st[k]? = some (some xs) ∧ H a = some (.lst vs) ∧ aA Γ.K (aq φ st) H xs vs := by
 cases w with
 | d u => cases h; exact .inl r
 | ref k =>
  obtain ⟨a, e, rfl⟩ := r
  cases q : st[k]? with
  | none => simp [I.look, q] at h
  | some o =>
   cases o with
   | none => simp [I.look, q] at h
   | some xs =>
    simp only [I.look, q, Option.some.injEq] at h
    subst h
    obtain ⟨vs, h1, h2⟩ := rl.at_ k xs a e q
    exact .inr ⟨k, xs, a, vs, rfl, rfl, rfl, e, q, h1, h2⟩
theorem RW.lst (rl : Rl Γ φ st H) (r : RW Γ φ st H w v) (h : I.look w st = some (.lst xs)) : ∃ a vs, v = .ref a ∧ cF Γ.K H a vs ∧ aA Γ.K (aq φ st) H xs vs := by
 rcases r.look rl h with q | ⟨k, ys, a, vs, e1, e2, e3, _, _, h1, h2⟩
 · obtain ⟨a, vs, e, h1, h2⟩ := q
   exact ⟨a, vs, e, h1.sq, h2⟩
 · cases e2
   exact ⟨a, vs, e3, cF.of h1, h2⟩
theorem RW.tup (rl : Rl Γ φ st H) (r : RW Γ φ st H w v) (h : I.look w st = some (.tup xs)) : ∃ a vs, v = .ref a ∧ eB Γ.K H a vs ∧ aA Γ.K (aq φ st) H xs vs := by
 rcases r.look rl h with q | ⟨k, ys, a, vs, e1, e2, _⟩
 · obtain ⟨a, vs, e, h1, h2⟩ := q
   exact ⟨a, vs, e, h1.sq, h2⟩
 · cases e2
theorem RW.int (rl : Rl Γ φ st H) (r : RW Γ φ st H w v) (h : I.look w st = some (.int i)) : v = .int i := by
 rcases r.look rl h with q | ⟨k, ys, a, vs, e1, e2, _⟩
 · exact q
 · cases e2
theorem RW.str (rl : Rl Γ φ st H) (r : RW Γ φ st H w v) (h : I.look w st = some (.str i)) : v = .str i := by
 rcases r.look rl h with q | ⟨k, ys, a, vs, e1, e2, _⟩
 · exact q
 · cases e2
theorem RW.bl (rl : Rl Γ φ st H) (r : RW Γ φ st H w v) (h : I.look w st = some (.bl i)) : v = .bl i := by
 rcases r.look rl h with q | ⟨k, ys, a, vs, e1, e2, _⟩
 · exact q
 · cases e2
theorem Rl.beside (rl : Rl Γ φ st H) (h : H p = none) : Pt Γ φ st H φ st (bB H p o) := by
 have s : gI (aq φ st) H _ (bB H p o) := gI.fresh h
 refine ⟨⟨rl.len, rl.inj, fun k xs a e1 e2 => ?_, fun P hP => ?_⟩, s, fun _ _ h => h⟩
 · obtain ⟨vs, h1, h2⟩ := rl.at_ k xs a e1 e2
   exact ⟨vs, by rw [ay (aR h1 h)]; exact h1, h2.step s⟩
 · rw [ay (aR (rl.tab P hP) h)]; exact rl.tab P hP
theorem kX {o} (hl : φ.length = st.length) : aq (φ ++ [p]) (st ++ [o]) a → aq φ st a ∨ a = p ∧ ∃ xs, o = some xs := by
 rintro ⟨k, xs, e1, e2⟩
 by_cases hk : k < φ.length
 · rw [List.getElem?_append_left hk] at e1
   rw [List.getElem?_append_left (by omega)] at e2
   exact .inl ⟨k, xs, e1, e2⟩
 · rw [List.getElem?_append_right (by omega)] at e1
   rw [List.getElem?_append_right (by omega)] at e2
   have : k - φ.length = 0 := by
    cases q : k - φ.length with
    | zero => rfl
    | succ n => simp_all
   grind
theorem Rl.lay {p : Addr} {xs : List T} {vs : List V} (rl : Rl Γ φ st H) (h : H p = none) (r : aA Γ.K (aq φ st) H xs vs) : Pt Γ φ st H (φ ++ [p]) (st ++ [some xs]) (bB H p (.lst vs)) := by
 have s : gI (aq φ st) H (aq (φ ++ [p]) (st ++ [some xs])) (bB H p (.lst vs)) :=
  ⟨fun a o _ e => by rw [ay (aR e h)]; exact e, fun a z => (kX rl.len z).elim .inl fun q => .inr (by rw [q.1]; exact h)⟩
 have np : ∀ k ys, φ[k]? = some p → st[k]? = some (some ys) → False := fun k ys e1 e2 => by
  obtain ⟨_, h1, _⟩ := rl.at_ k ys p e1 e2
  rw [h] at h1; cases h1
 have split : ∀ (k : Nat) (a : Addr) (ys : List T), (φ ++ [p])[k]? = some a → (st ++ [some xs])[k]? = some (some ys) → (φ[k]? = some a ∧ st[k]? = some (some ys)) ∨ (k = φ.length ∧ a = p ∧ ys = xs) := fun k a ys e1 e2 => by
  by_cases hk : k < φ.length
  · rw [List.getElem?_append_left hk] at e1
    rw [List.getElem?_append_left (by have := rl.len; omega)] at e2
    exact .inl ⟨e1, e2⟩
  · have hl := rl.len
    rw [List.getElem?_append_right (by omega)] at e1
    rw [List.getElem?_append_right (by omega)] at e2
    have z : k - φ.length = 0 := by
     cases q : k - φ.length with
     | zero => rfl
     | succ n => simp_all
    rw [z] at e1
    rw [show k - st.length = 0 by omega] at e2
    simp at e1 e2
    exact .inr ⟨by omega, e1.symm, e2.symm⟩
 refine ⟨⟨by simp [rl.len], fun i j a ys zs e1 e2 e3 e4 => ?_, fun k ys a e1 e2 => ?_, fun P hP => ?_⟩, s, fun k a e => ?_⟩
 · rcases split i a ys e1 e3 with ⟨a1, a2⟩ | ⟨a1, a2, a3⟩ <;> rcases split j a zs e2 e4 with ⟨b1, b2⟩ | ⟨b1, b2, b3⟩
   · exact rl.inj i j a ys zs a1 b1 a2 b2
   · simp_all
   · simp_all
   · omega
 · rcases split k a ys e1 e2 with ⟨a1, a2⟩ | ⟨a1, a2, a3⟩
   · obtain ⟨us, h1, h2⟩ := rl.at_ k ys a a1 a2
     exact ⟨us, by rw [ay (aR h1 h)]; exact h1, h2.step s⟩
   · subst a2 a3
     exact ⟨vs, cc, r.step s⟩
 · rw [ay (aR (rl.tab P hP) h)]; exact rl.tab P hP
 · rw [List.getElem?_append_left (List.getElem?_eq_some_iff.mp e).1]; exact e
theorem l9 (h : aq φ (st.set k o) a) : aq φ st a ∨ ∃ xs, o = some xs ∧ φ[k]? = some a := by
 obtain ⟨i, ys, e1, e2⟩ := h
 by_cases hi : k = i
 · subst hi
   by_cases hk : k < st.length
   · simp_all
   simp_all
 · rw [List.getElem?_set_ne hi] at e2
   exact .inl ⟨i, ys, e1, e2⟩
theorem Rl.write {k : Nat} {a : Addr} {xs ys : List T} {vs ws : List V} (rl : Rl Γ φ st H) (e1 : φ[k]? = some a) (e2 : st[k]? = some (some xs)) (r : aA Γ.K (aq φ st) H ys ws) :
 Pt Γ φ st H φ (st.set k (some ys)) (bB H a (.lst ws)) := by
 have hk := (List.getElem?_eq_some_iff.mp e2).1
 have la : aq φ st a := ⟨k, xs, e1, e2⟩
 have s : gI (aq φ st) H (aq φ (st.set k (some ys))) (bB H a (.lst ws)) :=
  ⟨fun b o n e => by rw [ay (fun z => n (by rw [z]; exact la))]; exact e, fun b z => .inl ((l9 z).elim id fun ⟨_, _, q⟩ => by
   simp_all)⟩
 obtain ⟨vs0, h0, _⟩ := rl.at_ k xs a e1 e2
 refine ⟨⟨by rw [List.length_set]; exact rl.len, fun i j b xs' ys' f1 f2 f3 f4 => ?_, fun i zs b f1 f2 => ?_, fun P hP => ?_⟩, s, fun _ _ h => h⟩
 · have g : ∀ (i : Nat) (zs : List T), (st.set k (some ys))[i]? = some (some zs) → ∃ zs', st[i]? = some (some zs') := fun i zs f => by
    by_cases hi : k = i
    · subst hi; exact ⟨xs, e2⟩
    simp_all
   obtain ⟨_, g1⟩ := g i xs' f3
   obtain ⟨_, g2⟩ := g j ys' f4
   exact rl.inj i j b _ _ f1 f2 g1 g2
 · by_cases hi : k = i
   · subst hi
     rw [List.getElem?_set_self hk] at f2
     rw [e1] at f1
     cases f1; cases f2
     exact ⟨ws, cc, r.step s⟩
   · rw [List.getElem?_set_ne hi] at f2
     obtain ⟨us, h1, h2⟩ := rl.at_ i zs b f1 f2
     have hb : b ≠ a := fun z => hi (rl.inj k i a xs zs e1 (by rw [← z]; exact f1) e2 f2)
     exact ⟨us, by rw [ay hb]; exact h1, h2.step s⟩
 · rw [ay fun z => ?_]; exact rl.tab P hP
   have := rl.tab P hP
   rw [z, h0] at this
   cases this
theorem i4 (h : aq (φ.take n) (st.take n) a) : aq φ st a := by
 obtain ⟨k, xs, e1, e2⟩ := h
 rw [List.getElem?_take] at e1 e2
 split at e1
 · rename_i hk
   rw [if_pos hk] at e2
   exact ⟨k, xs, e1, e2⟩
 · cases e1
theorem Rl.cut (n : Nat) (rl : Rl Γ φ st H) : Rl Γ (φ.take n) (st.take n) H ∧ gI (aq φ st) H (aq (φ.take n) (st.take n)) H := by
 have s : gI (aq φ st) H (aq (φ.take n) _) H := ⟨fun _ _ _ e => e, fun a z => .inl (i4 z)⟩
 have tk : ∀ {α} (l : List α) (k : Nat) (x : α), (l.take n)[k]? = some x → l[k]? = some x ∧ k < n := fun l k x e => by
  rw [List.getElem?_take] at e
  simp_all
 exact ⟨⟨by simp [rl.len], fun i j a xs ys e1 e2 e3 e4 => rl.inj i j a xs ys (tk _ _ _ e1).1 (tk _ _ _ e2).1 (tk _ _ _ e3).1 (tk _ _ _ e4).1,
  fun k xs a e1 e2 => let ⟨vs, h1, h2⟩ := rl.at_ k xs a (tk _ _ _ e1).1 (tk _ _ _ e2).1; ⟨vs, h1, h2.step s⟩, rl.tab⟩, s⟩
theorem Pt.cut (p : Pt Γ φ st H φ1 st1 H1) (hl : φ.length = st.length) : Pt Γ φ st H (φ1.take st.length) (st1.take st.length) H1 := by
 obtain ⟨r, s⟩ := p.rl.cut _
 refine ⟨r, p.stp.trans s, fun k a e => ?_⟩
 rw [List.getElem?_take, if_pos (by grind)]
 exact p.pre k a e
theorem Rl.freeze {a} {xs} (rl : Rl Γ φ st H) (e1 : φ[k]? = some a) (e2 : st[k]? = some (some xs)) :
 Rl Γ φ (st.set k none) H ∧ gI (aq φ st) H (aq φ (st.set k none)) H ∧ Rp Γ.K (aq φ (st.set k none)) H (.lst xs) (.ref a) := by
 have s : gI _ H (aq φ (st.set k none)) H := ⟨fun _ _ _ e => e, fun b z => .inl ((l9 z).elim id fun ⟨_, q, _⟩ => by cases q)⟩
 have g : ∀ (i : Nat) (zs : List T), (st.set k none)[i]? = some (some zs) → k ≠ i ∧ st[i]? = some (some zs) := fun i zs f => by
  by_cases hi : k = i
  · subst hi
    rw [List.getElem?_set_self (List.getElem?_eq_some_iff.mp e2).1] at f; cases f
  simp_all
 obtain ⟨vs, h1, h2⟩ := rl.at_ k xs a e1 e2
 refine ⟨⟨by rw [List.length_set]; exact rl.len, fun i j b ys zs f1 f2 f3 f4 => rl.inj i j b ys zs f1 f2 (g i ys f3).2 (g j zs f4).2, fun i zs b f1 f2 => ?_, rl.tab⟩, s, ⟨a, vs, rfl, .inl ⟨.inl h1, ?_⟩, h2.step s⟩⟩
 · obtain ⟨us, q1, q2⟩ := rl.at_ i zs b f1 (g i zs f2).2
   exact ⟨us, q1, q2.step s⟩
 · rintro ⟨i, ys, f1, f2⟩
   obtain ⟨hi, f2⟩ := g i ys f2
   exact hi (rl.inj k i a xs ys e1 f1 e2 f2)
end
def Af (Γ : Gm) (φ : List Addr) (st : ae) (H : Hp) (r : ak W) (Q : VK) : Prop :=
 match r with
 | .ok w st' => ∀ v H' φ', RW Γ φ' st' H' w v → Pt Γ φ st H φ' st' H' → Q v H'
 | _ => False
def iM (Γ : Gm) (φ : List Addr) (st : ae) (H : Hp) (r : ak Bool) (Q : Bool → Hp → Prop) : Prop :=
 match r with
 | .ok b st' => ∀ H' φ', Pt Γ φ st H φ' st' H' → Q b H'
 | _ => False
section
variable {Γ : Gm} {φ φ1 : List Addr} {st st1 : ae} {H H1 : Hp}
theorem Af.re (a : Af Γ φ st H r Q) (p : Pt Γ φ st H φ1 st1 H1) : Af Γ φ1 st1 H1 r Q := by
 cases r with
 | ok w st' => exact fun v H' φ' rw pt => a v H' _ rw (p.trans pt)
 | _ => exact a
theorem iM.re (a : iM Γ φ st H r Q) (p : Pt Γ φ st H φ1 st1 H1) : iM Γ φ1 st1 H1 r Q := by
 cases r with
 | ok w st' => exact fun H' φ' pt => a H' _ (p.trans pt)
 | _ => exact a
theorem Af.bind {Q} (a : Af Γ φ st H (r.bind f) Q) :
 Af Γ φ st H r fun v H1 => ∃ w st1 φ1, RW Γ φ1 st1 H1 w v ∧ Pt Γ φ st H φ1 st1 H1 ∧ Af Γ φ1 st1 H1 (f w st1) Q := by
 cases r with
 | ok w st' => exact fun v H' φ' rw pt => ⟨w, st', φ', rw, pt, Af.re a pt⟩
 | _ => exact a
end
def tE (Γ : Gm) (F : FT) (e : E) : TE := fun σ H Q => ∃ φ st ρ, En Γ φ st H ρ σ ∧ Rl Γ φ st H ∧ Af Γ φ st H (aj F Γ.G e ρ st) Q
theorem _root_.L2.PE.imp (h : PE X e t) (i : ∀ σ H Q, u σ H Q → t σ H Q) : PE X e u := fun pins s σ H Q I q => h _ s σ H Q I (i σ H Q q)
end I
end
section
namespace L2
section
variable {X : Cx}
def zb (K : PySem.W.Frag) : R2 := fun x y H Q => ∃ a b xs ys, x = .ref a ∧ y = .ref b ∧ eB K H a xs ∧ eB K H b ys ∧ xs.length + ys.length ≤ sizeLine ∧
 (xs = [] → Q (.ref b) H) ∧ (xs ≠ [] → ys = [] → Q (.ref a) H) ∧ (xs ≠ [] → ys ≠ [] → ∀ p, H p = none → Q (.ref p) (bB H p (.tup (xs ++ ys))))
theorem vL {K} (hK : X.K = K) : cD X (binaryOp .Add) (zb K) := by
 subst hK
 intro pins s σ H x y v u Q I rx ry h
 obtain ⟨a, b, xs, ys, rfl, rfl, ha, hb, hz, q0, q1, q2⟩ := h
 by_cases hx : xs = []
 · subst hx
   cases rx
   cases ry
   obtain ⟨its, r1, p1, _⟩ := I.tuple ha
   obtain ⟨its2, r2, p2, _⟩ := I.tuple hb
   cases r1
   obtain ⟨⟨cls, dd, data, sl⟩, ho, hc, n, hd⟩ := id p1
   obtain ⟨⟨cls2, dd2, data2, sl2⟩, ho2, hc2, n2, hd2⟩ := id p2
   subst hc hd hc2 hd2
   exact concat_meets ⟨_, ho, rfl⟩ ⟨_, ho2, rfl⟩ noFill_tuple_add seq_tuple_add PySem.F.slot_tuple_add PySem.F.entry_tuple_add (PySem.F.args_tuple_add_2 _ _)
    (tuple_addW0 a b _ _ n n2 dd _ sl _ rfl) ⟨ho, ho2, ⟨.ref b, H, I, rfl, q0 rfl⟩⟩
 · exact yf _ s σ H _ _ v u Q I rx ry ⟨a, b, xs, ys, rfl, rfl, ha, hb, hx, hz, q1 hx, q2 hx⟩
def yQ (K : PySem.W.Frag) : R2 := fun x y H Q => ∃ l k v, x = .ref l ∧ y = .int k ∧ eB K H l [v] ∧ 0 ≤ k ∧ k ≤ 1000 ∧ (k = 1 → Q (.ref l) H) ∧ (k ≠ 1 → ∀ p, H p = none → Q (.ref p) (bB H p (.tup (List.replicate k.toNat v))))
theorem wY {K : PySem.W.Frag} (hK : X.K = K) : cD X (binaryOp .Mult) (yQ K) := by
 subst hK
 intro pins s σ H x y v u Q I rx ry h
 obtain ⟨l, k, v0, rfl, rfl, hH, h1, h2, q1, q⟩ := h
 cases rx
 obtain ⟨t, rfl⟩ := ry
 obtain ⟨its, r, p1, hz⟩ := I.tuple hH
 obtain ⟨⟨cls, dd, data, sl⟩, e, hc, n, hd⟩ := id p1
 simp only at hc hd
 subst hc hd
 obtain ⟨u0, rfl, ru⟩ := vals1 r
 refine wpAny_binaryOp_repeat_ref (T := "tuple") (U := "int") (by decide) ⟨_, e, rfl⟩ (fun s' => typeIs_int s' k t) f8 F.fills_int_mul F.slot_int_rmul jZ F.slot_int_index.lookup
  (call_meets F.slot_int_rmul (typeIs_int s k t) F.entry_int_rmul (F.args_int_rmul_2 _ _) (gQ k t l [u0].toArray n dd sl)
   ⟨e, rfl, ⟨_, e, rfl⟩, ?_⟩)
 by_cases hk1 : k = 1
 · subst hk1
   exact call_meets F.slot_tuple_mul ⟨_, e, rfl⟩ F.entry_tuple_mul (F.args_tuple_mul_2 _ _) (nA l [u0].toArray n dd sl t) ⟨e, ⟨.ref l, H, I, rfl, q1 rfl⟩⟩
 have q := q hk1
 by_cases hk0 : k = 0
 · subst hk0
   refine call_meets F.slot_tuple_mul ⟨_, e, rfl⟩ F.entry_tuple_mul (F.args_tuple_mul_2 _ _) (nM l u0 n dd sl t) ⟨e, ⟨.ref _, _, I.laid (t' := s.toks) (o := .tup []) (fun b ob q => Heap.get?_push_of_some _ q) (Nat.le_refl _) ?_, rfl, q _ I.fresh⟩⟩
   exact ⟨Nat.zero_le _, [], .nil, IsTup.new _ _⟩
 have fo : List.foldl (fun x1 x2 => x1 ++ x2) #[] (List.replicate k.toNat [u0].toArray) = (List.replicate k.toNat u0).toArray := by
  have := foldl_rep [u0] k.toNat []
  rw [List.nil_append] at this
  rw [this]
  congr 1
  induction k.toNat with
  | zero => rfl
  | succ m ih => rw [List.replicate_succ, List.flatten_cons, ih]; rfl
 have sz : (sizeLine : Nat) ≥ 1000 := by decide
 refine call_meets F.slot_tuple_mul ⟨_, e, rfl⟩ F.entry_tuple_mul (F.args_tuple_mul_2 _ _) (mI l [u0].toArray n dd sl k t ?_ ?_ ?_ ?_ ?_ ?_) ⟨e, ?_⟩
 · simp; omega
 · simp; omega
 · simp; omega
 · simp; omega
 · unfold Builtin.Tuple.tupleTooMany; simp; omega
 · rw [fo]; simp; omega
 · rw [fo]
   refine ⟨.ref _, _, I.laid (t' := s.toks) (o := .tup (List.replicate k.toNat v0)) (fun b ob q => Heap.get?_push_of_some _ q) (Nat.le_refl _) ?_, rfl, q _ I.fresh⟩
   refine ⟨by simp; omega, List.replicate k.toNat u0, ?_, IsTup.new _ _⟩
   clear fo
   induction k.toNat with
   | zero => exact .nil
   | succ m ih => exact .cons ru ih
end
end L2
namespace I
open PySem L2 PySem.Spec PyProof.Rows
theorem bb : aZ ≤ sizeLine := by decide
section
variable {Γ : Gm} {φ φ1 : List Addr} {st st1 : ae} {H H1 : Hp}
theorem Af.mono (a : Af Γ φ st H r Q) (h : ∀ v H', Q v H' → Q' v H') : Af Γ φ st H r Q' := by
 cases r with
 | ok w st' => exact fun v H' φ' rw pt => h v H' (a v H' _ rw pt)
 | _ => exact a
theorem Af.now {Q} (a : Af Γ φ st H (.ok w st) Q) (rl : Rl Γ φ st H) (r : RW Γ φ st H w v) : Q v H := a v H φ r (Pt.refl rl)
theorem Af.tup {Q} (a : Af Γ φ st H (.ok (.d (.tup xs)) st) Q) (rl : Rl Γ φ st H) (r : aA Γ.K (aq φ st) H xs vs) : ∀ p, H p = none → Q (.ref p) (bB H p (.tup vs)) := fun p hp => by
 have b := rl.beside (o := .tup vs) hp
 refine a _ _ φ ⟨p, vs, rfl, .inl ⟨.inl cc, ?_⟩, r.step b.stp⟩ b
 rintro ⟨k, ys, e1, e2⟩
 obtain ⟨_, h1, _⟩ := rl.at_ k ys p e1 e2
 rw [hp] at h1; cases h1
theorem Af.lst {Q} (a : Af Γ φ st H (fresh (.lst xs) st) Q) (rl : Rl Γ φ st H) (r : aA Γ.K (aq φ st) H xs vs) : ∀ p, H p = none → Q (.ref p) (bB H p (.lst vs)) := fun p hp => by
 refine a _ _ _ ⟨p, ?_, rfl⟩ (rl.lay hp r)
 rw [← rl.len, List.getElem?_append_right (Nat.le_refl _), Nat.sub_self]
 rfl
end
def pZ (Γ : Gm) (r : R2) (f : W → W → ae → ak W) : Prop := ∀ φ st H x y v u Q, Rl Γ φ st H → RW Γ φ st H x v → RW Γ φ st H y u → Af Γ φ st H (f x y st) Q → r v u H Q
theorem Hg {F} {r} {f} {a b e} (he : ∀ ρ st, aj F Γ.G e ρ st = (aj F Γ.G a ρ st).bind fun x st => (aj F Γ.G b ρ st).bind fun y st => f x y st) (o : pZ Γ r f) :
 ∀ σ H Q, tE Γ F e σ H Q → BW r (tE Γ F a) (tE Γ F b) σ H Q := by
 rintro σ H Q ⟨φ, st, ρ, en, rl, af⟩
 rw [he] at af
 refine ⟨φ, st, ρ, en, rl, af.bind.mono fun v H1 ⟨w, st1, φ1, rw1, pt, af1⟩ => ?_⟩
 exact ⟨φ1, st1, ρ, en.step pt, pt.rl, af1.bind.mono fun u H2 ⟨w2, st2, φ2, rw2, pt2, af2⟩ => o _ _ H2 w w2 v u Q pt2.rl (rw1.step pt2) rw2 af2⟩
theorem AN {Γ : Gm} {F : FT} {r : V → Hp → VK → Prop} {f : W → ae → ak W} {a e : E} (he : ∀ ρ st, aj F Γ.G e ρ st = (aj F Γ.G a ρ st).bind fun x st => f x st)
 (o : ∀ φ st H x v Q, Rl Γ φ st H → RW Γ φ st H x v → Af Γ φ st H (f x st) Q → r v H Q) :
 ∀ σ H Q, tE Γ F e σ H Q → Jf r (tE Γ F a) σ H Q := by
 rintro σ H Q ⟨φ, st, ρ, en, rl, af⟩
 rw [he] at af
 exact ⟨φ, st, ρ, en, rl, af.bind.mono fun v H1 ⟨w, st1, φ1, rw1, pt, af1⟩ => o φ1 st1 H1 w v Q pt.rl rw1 af1⟩
theorem Af.looks2 {st} {H} {x y} {Q} {g : T → T → ak W} (a : Af Γ φ st H (match look x st, look y st with | some a, some b => g a b | _, _ => .bad) Q) :
 ∃ t u, look x st = some t ∧ look y st = some u ∧ Af Γ φ st H (g t u) Q := by
 cases h1 : look x st with
 | none => rw [h1] at a; exact a.elim
 | some t =>
  cases h2 : look y st with
  | none => rw [h1, h2] at a; exact a.elim
  | some u => simp_all
theorem Af.opt {st} {H} {o} {Q} {g : T → ak W} (a : Af Γ φ st H (match o with | some t => g t | none => .bad) Q) : ∃ t, o = some t ∧ Af Γ φ st H (g t) Q := by
 cases o with
 | none => exact a.elim
 | some t => exact ⟨t, rfl, a⟩
theorem aE {α : Type} {p} [Decidable p] {x y : α} (h : (if p then some x else none) = some y) : p ∧ x = y := by grind
theorem fz (h : aI i = true) : -2 ^ 64 < i ∧ i < 2 ^ 64 := by
 rw [oq] at h
 simp_all
def Bd (K : PySem.W.Frag) : R2 := fun x y H Q => rh (fun i j => .int (i + j)) x y H Q ∨ (∃ i j, x = .str i ∧ y = .str j ∧ i.length + j.length ≤ sizeLine ∧ Q (.str (i ++ j)) H) ∨ zb K x y H Q ∨ ui K x y H Q
theorem yl {K} (hK : X.K = K) : cD X (binaryOp .Add) (Bd K) := Bg.or (nT.or ((vL hK).or (C7 hK)))
theorem cG {K} {L} {H} {ts} {vs} (r : aA K L H ts vs) : vs = [] ↔ ts = [] := by
 have := r.length
 grind
theorem Er : pZ Γ (Bd Γ.K) (bh .add) := by
 intro φ st H x y v u Q rl rx ry af
 obtain ⟨t, t', h1, h2, af⟩ := Af.looks2 af
 obtain ⟨z, hz, af⟩ := Af.opt af
 have hLL := bb
 cases t with
 | int i =>
  cases t' <;> first | (cases hz; done) | skip
  rename_i j
  exact .inl ⟨i, j, rx.int rl h1, ry.int rl h2, af.now rl rfl⟩
 | str i =>
  cases t' <;> first | (cases hz) | skip
  rename_i j
  obtain ⟨hz1, rfl⟩ := aE hz
  exact .inr (.inl ⟨i, j, rx.str rl h1, ry.str rl h2, by omega, af.now rl rfl⟩)
 | tup i =>
  cases t' <;> first | (cases hz) | skip
  obtain ⟨hz1, rfl⟩ := aE hz
  obtain ⟨a, vs, rfl, q1, r1⟩ := rx.tup rl h1
  obtain ⟨b, ws, rfl, q2, r2⟩ := ry.tup rl h2
  refine .inr (.inr (.inl ⟨a, b, vs, ws, rfl, rfl, q1, q2, by rw [r1.length, r2.length]; omega, fun e => ?_, fun _ e => ?_, fun _ _ => af.tup rl (r1.append r2)⟩))
  · rw [(cG r1).mp e] at af
    rcases ry.look rl h2 with q | ⟨_, _, _, _, _, e2, _⟩
    · exact af.now rl q
    · cases e2
  · rw [(cG r2).mp e, List.append_nil] at af
    rcases rx.look rl h1 with q | ⟨_, _, _, _, _, e2, _⟩
    · exact af.now rl q
    · cases e2
 | lst i =>
  cases t' <;> first | (cases hz) | skip
  obtain ⟨hz1, rfl⟩ := aE hz
  obtain ⟨a, vs, rfl, q1, r1⟩ := rx.lst rl h1
  obtain ⟨b, ws, rfl, q2, r2⟩ := ry.lst rl h2
  exact .inr (.inr (.inr ⟨a, b, vs, ws, rfl, rfl, q1, q2, by rw [r1.length, r2.length]; omega, af.lst rl (r1.append r2)⟩))
 | non => cases hz
 | bl b => cases hz
def Ft (K : PySem.W.Frag) : R2 := fun x y H Q => rI qI (fun i j => .int (i * j)) x y H Q ∨ (∃ z n, x = .str z ∧ y = .int n ∧ z.length ≤ 1000 ∧ 0 ≤ n ∧ n ≤ 1000 ∧ Q (.str (eA z n)) H) ∨ yQ K x y H Q
theorem xD {X : Cx} {K : PySem.W.Frag} (hK : X.K = K) : cD X (binaryOp .Mult) (Ft K) := zO.or (mX.or (wY hK))
theorem Fv {Γ : Gm} : pZ Γ (Ft Γ.K) (bh .mul) := by
 intro φ st H x y v u Q rl rx ry af
 obtain ⟨t, t', h1, h2, af⟩ := Af.looks2 af
 obtain ⟨z, hz, af⟩ := Af.opt af
 cases t with
 | int i =>
  cases t' <;> first | (cases hz; done) | skip
  rename_i j
  obtain ⟨hz1, rfl⟩ := aE hz
  refine .inl ⟨i, j, rx.int rl h1, ry.int rl h2, ?_, af.now rl rfl⟩
  rcases (Bool.or_eq_true _ _).mp hz1 with q | q
  · exact .inl (fz q)
  · exact .inr (fz q)
 | str i =>
  cases t' <;> first | (cases hz; done) | skip
  rename_i j
  obtain ⟨⟨a, b, c⟩, rfl⟩ := aE hz
  exact .inr (.inl ⟨i, j, rx.str rl h1, ry.int rl h2, a, b, c, af.now rl rfl⟩)
 | tup i =>
  match i, t', hz with
  | [], _, hz => cases hz
  | _ :: _ :: _, _, hz => cases hz
  | [x0], .non, hz => cases hz
  | [x0], .bl _, hz => cases hz
  | [x0], .str _, hz => cases hz
  | [x0], .tup _, hz => cases hz
  | [x0], .lst _, hz => cases hz
  | [x0], .int j, hz =>
   obtain ⟨⟨a, b⟩, rfl⟩ := aE hz
   obtain ⟨p, vs, rfl, q1, r1⟩ := rx.tup rl h1
   obtain ⟨v0, rs, rfl, r2, r3⟩ := id r1
   cases (show rs = [] from r3)
   refine .inr (.inr ⟨p, j, v0, rfl, ry.int rl h2, q1, a, b, fun e => ?_, fun _ => af.tup rl ?_⟩)
   · subst e
     rcases rx.look rl h1 with q | ⟨_, _, _, _, _, e2, _⟩
     · exact af.now rl q
     · cases e2
   · induction j.toNat with
     | zero => exact rfl
     | succ n ih => exact ⟨v0, _, rfl, r2, ih⟩
 | lst i => cases t' <;> cases hz
 | non => cases hz
 | bl b => cases hz
theorem ph {o} {C} {g : Int → Int → Int} (h : ∀ a b t, eW o a b = some t → ∃ i j, a = .int i ∧ b = .int j ∧ C i j ∧ t = .int (g i j)) : pZ Γ (rI C fun i j => .int (g i j)) (bh o) := by
 intro φ st H x y v u Q rl rx ry af
 obtain ⟨t, t', h1, h2, af⟩ := Af.looks2 af
 obtain ⟨z, hz, af⟩ := Af.opt af
 obtain ⟨i, j, rfl, rfl, c, rfl⟩ := h _ _ _ hz
 exact ⟨i, j, rx.int rl h1, ry.int rl h2, c, af.now rl rfl⟩
theorem xO : cD X (binaryOp .Sub) (rI (fun _ _ => True) fun i j => .int (i - j)) := fun pins s σ H x y v u Q I rx ry ⟨i, j, a, b, _, q⟩ => AH _ s σ H x y v u Q I rx ry ⟨i, j, a, b, q⟩
theorem Gf : pZ Γ (rI (fun _ _ => True) fun i j => .int (i - j)) (bh .sub) := ph fun a b t h => by
 cases a <;> cases b <;> first | (cases h; done) | (cases h; simp)
theorem Al : pZ Γ (rI yD fun i j => .int (i / j)) (bh .fdiv) := ph fun a b t h => by
 cases a <;> cases b <;> first | (cases h) | (obtain ⟨h1, rfl⟩ := aE h; exact ⟨_, _, rfl, rfl, h1, rfl⟩)
theorem CY : pZ Γ (rI (fun _ j => 0 < j) fun i j => .int (i % j)) (bh .mod) := ph fun a b t h => by
 cases a <;> cases b <;> first | (cases h) | (obtain ⟨h1, rfl⟩ := aE h; exact ⟨_, _, rfl, rfl, h1, rfl⟩)
theorem D2 : pZ Γ (rI Eu fun i j => .int (i ^ j.toNat)) (bh .pow) := ph fun a b t h => by
 cases a <;> cases b <;> first | (cases h) | (obtain ⟨h1, rfl⟩ := aE h; exact ⟨_, _, rfl, rfl, h1, rfl⟩)
def kI : Operator → Option kQ
 | .Add => some .add
 | .Sub => some .sub
 | .Mult => some .mul
 | .FloorDiv => some .fdiv
 | .Mod => some .mod
 | .Pow => some .pow
 | _ => none
theorem Bb {X : Cx} {Γ : Gm} (hK : X.K = Γ.K) {op : Operator} {o : kQ} (h : kI op = some o) : ∃ r, cD X (binaryOp op) r ∧ pZ Γ r (bh o) := by
 cases op <;> first | (cases h; done) | (cases h; first | exact ⟨_, yl hK, Er⟩ | exact ⟨_, xD hK, Fv⟩ | exact ⟨_, xO, Gf⟩ | exact ⟨_, ux, Al⟩ | exact ⟨_, B6, CY⟩ | exact ⟨_, BU, D2⟩)
end I
end
section
namespace I
open PySem L2 PySem.Spec PyProof.Rows
mutual
theorem Rp.weak {K} {L} {H} : ∀ {t} {v}, Rp K L H t v → Rp K (fun _ => False) H t v
 | .non, _, r => r
 | .bl _, _, r => r
 | .int _, _, r => r
 | .str _, _, r => r
 | .tup xs, _, r => by
  obtain ⟨a, vs, e, q, rs⟩ := r
  exact ⟨a, vs, e, q.elim (fun x => .inl ⟨x.1, id⟩) .inr, aA.weak rs⟩
 | .lst xs, _, r => by
  obtain ⟨a, vs, e, q, rs⟩ := r
  exact ⟨a, vs, e, q.elim (fun x => .inl ⟨x.1, id⟩) .inr, aA.weak rs⟩
theorem aA.weak {K} {L} {H} : ∀ {ts} {vs}, aA K L H ts vs → aA K (fun _ => False) H ts vs
 | [], _, r => r
 | t :: ts, _, r => by
  obtain ⟨v, rs, e, r1, r2⟩ := r
  exact ⟨v, rs, e, Rp.weak r1, aA.weak r2⟩
end
section
variable {Γ : Gm} {φ φ1 : List Addr} {st st1 : ae} {H H1 : Hp}
theorem RW.rp (rl : Rl Γ φ st H) (r : RW Γ φ st H w v) (h : I.look w st = some t) : Rp Γ.K (fun _ => False) H t v := by
 rcases r.look rl h with q | ⟨k, xs, a, vs, rfl, rfl, rfl, _, _, h1, h2⟩
 · exact Rp.weak q
 · exact ⟨a, vs, rfl, .inl ⟨.inl h1, id⟩, aA.weak h2⟩
end
theorem oV {K} {L} {H} {t} {v} (f : aP t = true) (r : Rp K L H t v) : eF v = true ∧ ∀ {u} {w}, aP u = true → Rp K L H u w → wU v w = eqT t u := by
 cases t with
 | non => cases r; refine ⟨rfl, fun {u w} g q => ?_⟩; cases u <;> first | (cases q; rfl) | cases g
 | bl b => cases r; refine ⟨rfl, fun {u w} g q => ?_⟩; cases u <;> first | (cases q; rfl) | cases g
 | int b => cases r; refine ⟨rfl, fun {u w} g q => ?_⟩; cases u <;> first | (cases q; rfl) | cases g
 | str b => cases r; refine ⟨rfl, fun {u w} g q => ?_⟩; cases u <;> first | (cases q; rfl) | cases g
 | tup _ => cases f
 | lst _ => cases f
theorem pF {K} {L} {H} {x} {v} (f : aP x = true) (r : Rp K L H x v) : ∀ {ys} {vs}, ys.all aP = true → aA K L H ys vs → vs.all eF = true ∧ Gn v vs = ys.any fun y => eqT y x
 | [], _, _, q => by cases q; exact ⟨rfl, rfl⟩
 | y :: ys, _, g, q => by
  obtain ⟨w, rs, rfl, q1, q2⟩ := q
  simp only [List.all_cons, Bool.and_eq_true] at g
  obtain ⟨a, b⟩ := pF f r g.2 q2
  obtain ⟨c, d⟩ := oV g.1 q1
  refine ⟨by simp [a, c], ?_⟩
  unfold Gn at b ⊢
  rw [List.any_cons, List.any_cons, b, d f r]
def yI : CmpOp → Option rb
 | .Eq => some .eq
 | .NotEq => some .ne
 | .Lt => some .lt
 | .LtE => some .le
 | .Gt => some .gt
 | .GtE => some .ge
 | .In => some .mem
 | .NotIn => some .nmem
 | _ => none
theorem Af.optB {st} {H} {o} {Q} {g : Bool → ak W} (a : Af Γ φ st H (match o with | some t => g t | none => .bad) Q) : ∃ t, o = some t ∧ Af Γ φ st H (g t) Q := by
 cases o with
 | none => exact a.elim
 | some t => exact ⟨t, rfl, a⟩
theorem nL {o} {g : Int → Int → Bool} (h : ∀ a b t, eK o a b = some t → ∃ i j, a = .int i ∧ b = .int j ∧ t = g i j) : pZ Γ (rh fun i j => .bl (g i j)) (bg o) := by
 intro φ st H x y v u Q rl rx ry af
 obtain ⟨t, t', h1, h2, af⟩ := Af.looks2 af
 obtain ⟨z, hz, af⟩ := Af.optB af
 obtain ⟨i, j, rfl, rfl, rfl⟩ := h _ _ _ hz
 exact ⟨i, j, rx.int rl h1, ry.int rl h2, af.now rl rfl⟩
theorem C8 {o} {neg : Bool} (h : ∀ x a t, eK o x a = some t → aP x = true ∧ ∃ ys, ys.all aP = true ∧ t = (if neg then !ys.any fun y => eqT y x else ys.any fun y => eqT y x) ∧ (a = .tup ys ∨ a = .lst ys)) : pZ Γ (CZ Γ.K neg) (bg o) := by
 intro φ st H x y v u Q rl rx ry af
 obtain ⟨t, t', h1, h2, af⟩ := Af.looks2 af
 obtain ⟨z, hz, af⟩ := Af.optB af
 obtain ⟨f, ys, fs, e, k⟩ := h _ _ _ hz
 have r := rx.rp rl h1
 have key : ∃ p vs, u = .ref p ∧ (cF Γ.K H p vs ∨ eB Γ.K H p vs) ∧ aA Γ.K (fun _ => False) H ys vs := by
  rcases k with rfl | rfl
  · obtain ⟨a, vs, e, q1, q2⟩ := ry.tup rl h2; exact ⟨a, vs, e, .inr q1, aA.weak q2⟩
  · obtain ⟨a, vs, e, q1, q2⟩ := ry.lst rl h2; exact ⟨a, vs, e, .inl q1, aA.weak q2⟩
 obtain ⟨p, vs, e2, sq, rs⟩ := key
 obtain ⟨a1, a2⟩ := pF f r fs rs
 refine ⟨p, vs, e2, sq, (oV f r).1, a1, ?_⟩
 rw [a2, ← e]
 exact af.now rl rfl
theorem Bu {X : Cx} {Γ : Gm} (hK : X.K = Γ.K) (hu : X.A.units + 64 < cLine) {op : CmpOp} {o : rb} (h : yI op = some o) : ∃ r, cD X (compareOp op) r ∧ pZ Γ r (bg o) := by
 cases op with
 | Eq =>
  cases h
  refine ⟨_, Bn (fun _ => False) hK hu, fun φ st H x y v u Q rl rx ry af => ?_⟩
  obtain ⟨t, t', h1, h2, af⟩ := Af.looks2 af
  obtain ⟨z, hz, af⟩ := Af.optB af
  obtain ⟨hk, rfl⟩ := aE (tH hz)
  exact ⟨t, t', rx.rp rl h1, ry.rp rl h2, hk, af.now rl rfl⟩
 | NotEq =>
  cases h
  refine ⟨_, Ct (fun _ => False) hK hu, fun φ st H x y v u Q rl rx ry af => ?_⟩
  obtain ⟨t, t', h1, h2, af⟩ := Af.looks2 af
  obtain ⟨z, hz, af⟩ := Af.optB af
  obtain ⟨hk, rfl⟩ := aE (tH hz)
  exact ⟨t, t', rx.rp rl h1, ry.rp rl h2, hk, af.now rl rfl⟩
 | Lt => cases h; exact ⟨_, Fa, nL fun a b t h => by cases a <;> cases b <;> first | (cases h; done) | (cases h; exact ⟨_, _, rfl, rfl, rfl⟩)⟩
 | Gt => cases h; exact ⟨_, FG, nL fun a b t h => by cases a <;> cases b <;> first | (cases h; done) | (cases h; exact ⟨_, _, rfl, rfl, rfl⟩)⟩
 | GtE => cases h; exact ⟨_, D5, nL fun a b t h => by cases a <;> cases b <;> first | (cases h; done) | (cases h; exact ⟨_, _, rfl, rfl, rfl⟩)⟩
 | LtE =>
  cases h
  refine ⟨_, FP.or pS, fun φ st H x y v u Q rl rx ry af => ?_⟩
  obtain ⟨t, t', h1, h2, af⟩ := Af.looks2 af
  obtain ⟨z, hz, af⟩ := Af.optB af
  cases t with
  | int i =>
   cases t' <;> first | (cases hz; done) | skip
   rename_i j
   cases hz
   exact .inl ⟨i, j, rx.int rl h1, ry.int rl h2, af.now rl rfl⟩
  | str i =>
   cases t' <;> first | (cases hz; done) | skip
   rename_i j
   cases hz
   exact .inr ⟨i, j, rx.str rl h1, ry.str rl h2, af.now rl rfl⟩
  | _ => cases t' <;> cases hz
 | In =>
  cases h
  refine ⟨_, xt hK, C8 fun x a t h => ?_⟩
  cases a <;> first | (unfold eK at h; cases h; done) | skip
  all_goals
   obtain ⟨h1, rfl⟩ := aE h
   simp only [Bool.and_eq_true] at h1
  · exact ⟨h1.1, _, h1.2, rfl, .inl rfl⟩
  · exact ⟨h1.1, _, h1.2, rfl, .inr rfl⟩
 | NotIn =>
  cases h
  refine ⟨_, nw hK, C8 fun x a t h => ?_⟩
  cases a <;> first | (unfold eK at h; cases h; done) | skip
  all_goals
   obtain ⟨h1, rfl⟩ := aE h
   simp only [Bool.and_eq_true] at h1
  · exact ⟨h1.1, _, h1.2, rfl, .inl rfl⟩
  · exact ⟨h1.1, _, h1.2, rfl, .inr rfl⟩
 | Is => cases h
 | IsNot => cases h
theorem Cm {st st'} {w} (h : bg o x y st = .ok w st') : ∃ b, w = .d (.bl b) ∧ st' = st := by
 unfold bg at h
 split at h
 · split at h
   · cases h; exact ⟨_, rfl, rfl⟩
   · cases h
 · cases h
def kE (F : FT) (G : List T) (e : E) (ρ : aG) (st : ae) : ak Bool := (aj F G e ρ st).bind fun w st => match aT w st with | some b => .ok b st | none => .bad
def tT (Γ : Gm) (F : FT) (e : E) : TT := fun σ H Q => ∃ φ st ρ, En Γ φ st H ρ σ ∧ Rl Γ φ st H ∧ iM Γ φ st H (kE F Γ.G e ρ st) Q
theorem _root_.L2.PT.imp (h : PT X e t) (i : ∀ σ H Q, u σ H Q → t σ H Q) : PT X e u := fun pins s σ H Q I q => h _ s σ H Q I (i σ H Q q)
section
variable {Γ : Gm} {φ φ1 : List Addr} {st st1 : ae} {H H1 : Hp} {F : FT}
theorem oO {w : W} {v : V} {b : Bool} (rl : Rl Γ φ st H) (r : RW Γ φ st H w v) (h : aT w st = some b) : mL Γ.K v H b := by
 unfold aT at h
 cases q : look w st with
 | none => rw [q] at h; cases h
 | some t =>
  rw [q] at h
  have h : I0 t = some b := h
  cases t with
  | non =>
   cases h
   rcases r.look rl q with z | ⟨_, _, _, _, _, e, _⟩
   · cases z; exact rfl
   · cases e
  | bl c => cases h; rw [r.bl rl q]; exact rfl
  | int i => cases h; rw [r.int rl q]; exact rfl
  | str z =>
   obtain ⟨h1, rfl⟩ := aE h
   rw [r.str rl q]
   exact ⟨Nat.le_trans h1 bb, rfl⟩
  | tup xs =>
   cases h
   obtain ⟨a, vs, rfl, h1, h2⟩ := r.tup rl q
   refine .inr ⟨vs, h1, ?_⟩
   have := cG h2
   cases vs <;> cases xs <;> simp_all
  | lst xs =>
   cases h
   obtain ⟨a, vs, rfl, h1, h2⟩ := r.lst rl q
   refine .inl ⟨vs, h1, ?_⟩
   have := cG h2
   cases vs <;> cases xs <;> simp_all
theorem iM.bind {Q} (a : iM Γ φ st H (r.bind f) Q) :
 Af Γ φ st H r fun v H1 => ∃ w st1 φ1, RW Γ φ1 st1 H1 w v ∧ Pt Γ φ st H φ1 st1 H1 ∧ iM Γ φ1 st1 H1 (f w st1) Q := by
 cases r with
 | ok w st' => exact fun v H' φ' rw pt => ⟨w, st', φ', rw, pt, iM.re a pt⟩
 | _ => exact a
theorem iM.mono (a : iM Γ φ st H r Q) (h : ∀ v H', Q v H' → Q' v H') : iM Γ φ st H r Q' := by
 cases r with
 | ok w st' => exact fun H' φ' pt => h _ H' (a H' _ pt)
 | _ => exact a
theorem iM.now (a : iM Γ φ st H (.ok b st) Q) (rl : Rl Γ φ st H) : Q b H := a H φ (Pt.refl rl)
theorem iM.tru {Q} (a : iM Γ φ st H (match aT w st with | some b => .ok b st | none => .bad) Q) (rl : Rl Γ φ st H) (r : RW Γ φ st H w v) : ∃ k, aT w st = some k ∧ mL Γ.K v H k ∧ Q k H := by
 cases h : aT w st with
 | none => rw [h] at a; exact a.elim
 | some b => rw [h] at a; exact ⟨b, rfl, oO rl r h, a.now rl⟩
theorem wM (hK : X.K = Γ.K) (h : PE X x (tE Γ F e)) (he : ∀ whole, isTrue x X.env whole = do let v ← whole; standAt x.pos; holding [v] (truthy v)) : PT X x (tT Γ F e) := by
 refine L2.PT.imp (vj h he) ?_
 rintro σ H Q ⟨φ, st, ρ, en, rl, af⟩
 refine ⟨φ, st, ρ, en, rl, (iM.bind af).mono fun v H1 ⟨w, st1, φ1, rw1, pt, af1⟩ => ?_⟩
 obtain ⟨k, _, a, b⟩ := af1.tru pt.rl rw1
 rw [hK]
 exact ⟨k, a, b⟩
theorem ku {e} (h : PT X x (zt t)) (i : ∀ σ H Q, tE Γ F e σ H Q → t σ H Q) (hb : ∀ ρ st w st', aj F Γ.G e ρ st = .ok w st' → ∃ b, w = .d (.bl b)) : PT X x (tT Γ F e) := by
 refine L2.PT.imp h ?_
 rintro σ H Q ⟨φ, st, ρ, en, rl, af⟩
 refine i σ H _ ⟨φ, st, ρ, en, rl, ?_⟩
 unfold kE at af
 cases q : aj F _ e ρ st with
 | ok w st' =>
  rw [q] at af
  obtain ⟨b, rfl⟩ := hb _ _ _ _ q
  intro v H' φ' rw pt
  cases rw
  exact ⟨b, rfl, af H' _ pt⟩
 | _ => rw [q] at af; exact af.elim
theorem xy {st} : kE F G (.and a b) ρ st = (kE F G a ρ st).bind fun c st => if c then kE F G b ρ st else .ok false st := by
 unfold kE
 simp only [aj]
 cases aj F G a ρ st with
 | ok w st' =>
  simp only [ak.bind]
  cases h : aT w _ with
  | none => rfl
  | some c => cases c <;> simp [h]
 | _ => rfl
theorem Am {st} : kE F G (.or a b) ρ st = (kE F G a ρ st).bind fun c st => if c then .ok true st else kE F G b ρ st := by
 unfold kE
 simp only [aj]
 cases aj F G a ρ st with
 | ok w st' =>
  simp only [ak.bind]
  cases h : aT w _ with
  | none => rfl
  | some c => cases c <;> simp [h]
 | _ => rfl
theorem xr {st} : kE F G (.not a) ρ st = (kE F G a ρ st).bind fun c st => .ok (!c) st := by
 unfold kE
 simp only [aj]
 cases aj F G a ρ st with
 | ok w st' =>
  simp only [ak.bind]
  cases h : aT w _ with
  | none => rfl
  | some c => cases c <;> rfl
 | _ => rfl
theorem iM.bindB {Q} (a : iM Γ φ st H (r.bind f) Q) :
 iM Γ φ st H r fun b H1 => ∃ st1 φ1, Pt Γ φ st H φ1 st1 H1 ∧ iM Γ φ1 st1 H1 (f b st1) Q := by
 cases r with
 | ok w st' => exact fun H' φ' pt => ⟨st', φ', pt, iM.re a pt⟩
 | _ => exact a
theorem F3 : ∀ σ H Q, tT Γ F (.and a b) σ H Q → AD (tT Γ F a) (tT Γ F b) σ H Q := by
 rintro σ H Q ⟨φ, st, ρ, en, rl, af⟩
 rw [xy] at af
 refine ⟨φ, st, ρ, en, rl, af.bindB.mono fun c H1 ⟨st1, φ1, pt, af1⟩ => ?_⟩
 cases c with
 | true => exact ⟨φ1, st1, ρ, en.step pt, pt.rl, af1⟩
 | false => exact af1.now pt.rl
theorem Ji : ∀ σ H Q, tT Γ F (.or a b) σ H Q → Je (tT Γ F a) (tT Γ F b) σ H Q := by
 rintro σ H Q ⟨φ, st, ρ, en, rl, af⟩
 rw [Am] at af
 refine ⟨φ, st, ρ, en, rl, af.bindB.mono fun c H1 ⟨st1, φ1, pt, af1⟩ => ?_⟩
 cases c with
 | false => exact ⟨φ1, st1, ρ, en.step pt, pt.rl, af1⟩
 | true => exact af1.now pt.rl
theorem Hc : ∀ σ H Q, tT Γ F (.not a) σ H Q → Ei (tT Γ F a) σ H Q := by
 rintro σ H Q ⟨φ, st, ρ, en, rl, af⟩
 rw [xr] at af
 exact ⟨φ, st, ρ, en, rl, af.bindB.mono fun c H1 ⟨st1, φ1, pt, af1⟩ => af1.now pt.rl⟩
end
section
variable {X : Cx} {a b : Expr} {ta tb : TE} {gg : List Expr} {pos : Pos}
def yZ (K : PySem.W.Frag) (ta tb : TE) : TE := fun σ H Q => ta σ H fun x H1 => ∃ c, mL K x H1 c ∧ if c = true then tb σ H1 Q else Q x H1
def Fm (K : PySem.W.Frag) (ta tb : TE) : TE := fun σ H Q => ta σ H fun x H1 => ∃ c, mL K x H1 c ∧ if c = true then Q x H1 else tb σ H1 Q
def zF (K : PySem.W.Frag) (ta : TE) : TE := fun σ H Q => ta σ H fun x H1 => ∃ c, mL K x H1 c ∧ Q (.bl (!c)) H1
theorem oz (ha : PE X a ta) (hb : PE X (.BoolOp .And (b :: gg) pos) tb) : PE X (.BoolOp .And (a :: b :: gg) pos) (yZ X.K ta tb) := by
 intro pins s σ H Q I h
 refine BoolOp_and (aU (ha _ s σ H _ I h) fun v s1 ⟨x, H1, I1, r1, q1⟩ => ?_)
 obtain ⟨c, t, q1⟩ := q1
 refine aU (kh _ s1 σ H1 x v (fun c' H2 => c' = c ∧ H2 = H1) I1 r1 ⟨c, t, rfl, rfl⟩) fun c' s2 ⟨H2, I2, e1, e2⟩ => ?_
 subst e1 e2
 cases c' with
 | true => exact hb _ s2 σ _ Q I2 q1
 | false => exact ⟨x, _, I2, r1, q1⟩
theorem sN (ha : PE X a ta) (hb : PE X (.BoolOp .Or (b :: gg) pos) tb) : PE X (.BoolOp .Or (a :: b :: gg) pos) (Fm X.K ta tb) := by
 intro pins s σ H Q I h
 refine BoolOp_or (aU (ha _ s σ H _ I h) fun v s1 ⟨x, H1, I1, r1, q1⟩ => ?_)
 obtain ⟨c, t, q1⟩ := q1
 refine aU (kh _ s1 σ H1 x v (fun c' H2 => c' = c ∧ H2 = H1) I1 r1 ⟨c, t, rfl, rfl⟩) fun c' s2 ⟨H2, I2, e1, e2⟩ => ?_
 subst e1 e2
 cases c' with
 | false => exact hb _ s2 σ _ Q I2 q1
 | true => exact ⟨x, _, I2, r1, q1⟩
theorem we (ha : PE X a ta) : PE X (.UnaryOp .Not a pos) (zF X.K ta) := by
 intro pins s σ H Q I h
 refine UnaryOp_ (aU (ha _ s σ H _ I h) fun v s1 ⟨x, H1, I1, r1, q1⟩ => ?_)
 obtain ⟨c, t, q1⟩ := q1
 refine not_of (aU (kh _ s1 σ H1 x v (fun c' H2 => c' = c ∧ H2 = H1) I1 r1 ⟨c, t, rfl, rfl⟩) fun c' s2 ⟨H2, I2, e1, e2⟩ => ?_)
 subst e1 e2
 exact ⟨.bl _, _, I2, rfl, q1⟩
end
end I
end
section
namespace I
open PySem L2 PySem.Spec PyProof.Rows
section
variable {Γ : Gm} {φ φ1 φ2 : List Addr} {st st1 st2 : ae} {H H1 : Hp}
theorem Pt.len (p : Pt Γ φ st H φ1 st1 H1) (hl : φ.length = st.length) : st.length ≤ φ1.length := by
 cases h : st.length with
 | zero => exact Nat.zero_le _
 | succ n =>
  have e : φ[n]? = some φ[n] := List.getElem?_eq_getElem _
  have := (List.getElem?_eq_some_iff.mp (p.pre n _ e)).1
  omega
theorem hV (hl : φ.length = st.length) (p : Pt Γ φ st H φ1 st1 H1) (r : RW Γ φ1 st1 H1 w v) (h : aJ st.length w st1 = .ok t st2) : ∃ φ2, Pt Γ φ st H φ2 st2 H1 ∧ Rp Γ.K (aq φ2 st2) H1 t v := by
 cases w with
 | d u =>
  cases h
  obtain ⟨_, s⟩ := p.rl.cut _
  exact ⟨_, p.cut hl, Rp.step s r⟩
 | ref k =>
  obtain ⟨a, e, rfl⟩ := r
  cases q : st1[k]? with
  | none => simp [aJ, q] at h
  | some o =>
   cases o with
   | none => simp [aJ, q] at h
   | some xs =>
    simp only [aJ, q, ak.ok.injEq] at h
    obtain ⟨rfl, rfl⟩ := h
    obtain ⟨rl2, s2, r2⟩ := p.rl.freeze e q
    have p2 : Pt Γ φ st H _ _ H1 := ⟨rl2, p.stp.trans s2, p.pre⟩
    obtain ⟨_, s⟩ := rl2.cut _
    exact ⟨_, p2.cut hl, Rp.step s r2⟩
theorem ve {w w' : W} {v : V} (hl : φ.length = st.length) (p : Pt Γ φ st H φ1 st1 H1) (r : RW Γ φ1 st1 H1 w v) (h : ci st.length w st1 = .ok w' st2) : ∃ φ2, Pt Γ φ st H φ2 st2 H1 ∧ RW Γ φ2 st2 H1 w' v := by
 cases w with
 | d u =>
  cases h
  obtain ⟨_, s⟩ := p.rl.cut st.length
  exact ⟨_, p.cut hl, Rp.step s r⟩
 | ref k =>
  obtain ⟨a, e, rfl⟩ := r
  by_cases hk : k < st.length
  · simp only [ci, if_pos hk, ak.ok.injEq] at h
    obtain ⟨rfl, rfl⟩ := h
    exact ⟨_, p.cut hl, a, by simp_all, rfl⟩
  · cases q : st1[k]? with
    | none => simp [ci, hk, q] at h
    | some o =>
     cases o with
     | none => simp [ci, hk, q] at h
     | some xs =>
      simp only [ci, if_neg hk, q, ak.ok.injEq] at h
      obtain ⟨rfl, rfl⟩ := h
      obtain ⟨rc, s⟩ := p.rl.cut st.length
      obtain ⟨vs, h1, h2⟩ := p.rl.at_ k xs a e q
      have nl : ¬ aq (φ1.take st.length) (st1.take st.length) a := by
       rintro ⟨i, ys, f1, f2⟩
       rw [List.getElem?_take] at f1 f2
       split at f1
       · rename_i hi
         rw [if_pos hi] at f2
         have := p.rl.inj i k a ys xs f1 e f2 q
         omega
       · cases f1
      have la : aq φ1 st1 a := ⟨k, xs, e, q⟩
      have s' : gI (aq φ1 st1) H1 (aq (φ1.take st.length ++ [a]) (st1.take st.length ++ [some xs])) H1 :=
       ⟨fun _ _ _ e => e, fun b z => .inl ((kX rc.len z).elim i4 fun q => by rw [q.1]; exact la)⟩
      have split : ∀ (i : Nat) (b : Addr) (ys : List T), (φ1.take st.length ++ [a])[i]? = some b → (st1.take st.length ++ [some xs])[i]? = some (some ys) → ((φ1.take st.length)[i]? = some b ∧ (st1.take st.length)[i]? = some (some ys)) ∨ (i = (φ1.take st.length).length ∧ b = a ∧ ys = xs) := fun i b ys e1 e2 => by
       have hl := rc.len
       by_cases hi : i < (φ1.take st.length).length
       · rw [List.getElem?_append_left hi] at e1
         rw [List.getElem?_append_left (by omega)] at e2
         exact .inl ⟨e1, e2⟩
       · rw [List.getElem?_append_right (by omega)] at e1
         rw [List.getElem?_append_right (by omega)] at e2
         have z : i - (φ1.take st.length).length = 0 := by
          cases q : i - (φ1.take st.length).length with
          | zero => rfl
          | succ n => rw [q] at e1; simp at e1
         rw [z] at e1
         rw [show i - (st1.take st.length).length = 0 by omega] at e2
         simp at e1 e2
         exact .inr ⟨by omega, e1.symm, e2.symm⟩
      refine ⟨φ1.take st.length ++ [a], ⟨⟨by simp [rc.len], fun i j b ys zs e1 e2 e3 e4 => ?_, fun i ys b e1 e2 => ?_, rc.tab⟩, p.stp.trans s', fun i b f => ?_⟩, a, ?_, rfl⟩
      · rcases split i b ys e1 e3 with ⟨a1, a2⟩ | ⟨a1, a2, a3⟩ <;> rcases split j b zs e2 e4 with ⟨b1, b2⟩ | ⟨b1, b2, b3⟩
        · exact rc.inj i j b ys zs a1 b1 a2 b2
        · subst b2; exact (nl ⟨i, ys, a1, a2⟩).elim
        · subst a2; exact (nl ⟨j, zs, b1, b2⟩).elim
        · omega
      · rcases split i b ys e1 e2 with ⟨a1, a2⟩ | ⟨a1, a2, a3⟩
        · have t1 : φ1[i]? = some b := by rw [List.getElem?_take] at a1; simp_all
          have t2 : st1[i]? = some (some ys) := by rw [List.getElem?_take] at a2; simp_all
          obtain ⟨us, g1, g2⟩ := p.rl.at_ i ys b t1 t2
          exact ⟨us, g1, g2.step s'⟩
        · subst a2 a3
          exact ⟨vs, h1, h2.step s'⟩
      · have hi := (List.getElem?_eq_some_iff.mp f).1
        have hp := p.len hl
        rw [List.getElem?_append_left (by rw [List.length_take]; omega), List.getElem?_take, if_pos (by omega)]
        exact p.pre i b f
      · rw [show (st1.take st.length).length = (φ1.take st.length).length from rc.len.symm, List.getElem?_append_right (Nat.le_refl _), Nat.sub_self]
        rfl
theorem Af.tr {Q} (rl : Rl Γ φ st H) (a : Af Γ φ st H (r.bind fun x st' => ci st.length x st') Q) : Af Γ φ st H r Q := by
 cases r with
 | ok w st1 =>
  intro v H1 φ1 rw1 pt
  cases h : ci _ w _ with
  | ok w' st2 =>
   obtain ⟨φ2, p2, r2⟩ := ve rl.len pt rw1 h
   have a : Af Γ φ st H (ci _ w _) Q := a
   rw [h] at a
   exact a v H1 _ r2 p2
  | _ => have a : Af Γ φ st H (ci _ w _) Q := a; rw [h] at a; exact a.elim
 | _ => exact a
theorem Af.frz {Q} (rl : Rl Γ φ st H) (a : Af Γ φ st H (r.bind fun x st' => (aJ st.length x st').bind fun t st => .ok (.d t) st) Q) : Af Γ φ st H r Q := by
 cases r with
 | ok w st1 =>
  intro v H1 φ1 rw1 pt
  have a : Af Γ φ st H ((aJ _ w _).bind fun t st => .ok _ st) Q := a
  cases h : aJ _ w _ with
  | ok t st2 =>
   obtain ⟨φ2, p2, r2⟩ := hV rl.len pt rw1 h
   rw [h] at a
   exact a v H1 _ r2 p2
  | _ => rw [h] at a; exact a.elim
 | _ => exact a
def J4 (Γ : Gm) (φ : List Addr) (st : ae) (H : Hp) (r : ak (List W)) (Q : List V → Hp → Prop) : Prop :=
 match r with
 | .ok ws st' => ∀ vs H' φ', sd Γ φ' st' H' ws vs → Pt Γ φ st H φ' st' H' → Q vs H'
 | _ => False
def J5 (Γ : Gm) (φ : List Addr) (st : ae) (H : Hp) (r : ak (List T)) (Q : List V → Hp → Prop) : Prop :=
 match r with
 | .ok ts st' => ∀ vs H' φ', aA Γ.K (aq φ' st') H' ts vs → Pt Γ φ st H φ' st' H' → Q vs H'
 | _ => False
end
def tA (Γ : Gm) (F : FT) (es : List E) : TA := fun σ H Q => ∃ φ st ρ, En Γ φ st H ρ σ ∧ Rl Γ φ st H ∧ J4 Γ φ st H (a8 F Γ.G es ρ st) Q
def tD (Γ : Gm) (F : FT) (es : List E) : TA := fun σ H Q => ∃ φ st ρ, En Γ φ st H ρ σ ∧ Rl Γ φ st H ∧ J5 Γ φ st H (cT F Γ.G es ρ st) Q
theorem _root_.L2.PA.imp (h : PA X es t) (i : ∀ σ H Q, u σ H Q → t σ H Q) : PA X es u := fun pos pins s σ H Q I q => h _ _ s σ H Q I (i σ H Q q)
section
variable {Γ : Gm} {F : FT} {X : Cx}
theorem pQ : PA X [] (tA Γ F []) := L2.PA.imp jX fun σ H Q ⟨φ, st, ρ, en, rl, af⟩ => af [] H φ rfl (Pt.refl rl)
theorem lS {e} {es} (h : PE X x (tE Γ F e)) (hs : PA X xs (tA Γ F es)) (hx : starEach (x :: xs) X.env = (false, eval x X.env) :: starEach xs X.env) : PA X (x :: xs) (tA Γ F (e :: es)) := by
 refine L2.PA.imp (fJ h hs hx) ?_
 rintro σ H Q ⟨φ, st, ρ, en, rl, af⟩
 refine ⟨φ, st, ρ, en, rl, ?_⟩
 simp only [a8] at af
 cases h1 : aj F _ e ρ st with
 | ok w st1 =>
  rw [h1] at af
  intro v H1 φ1 rw1 pt
  refine ⟨φ1, st1, ρ, en.step pt, pt.rl, ?_⟩
  simp only [ak.bind] at af
  cases h2 : a8 F _ es ρ _ with
  | ok ws st2 =>
   rw [h2] at af
   intro vs H2 φ2 rws pt2
   exact af _ H2 _ ⟨v, vs, rfl, rw1.step pt2, rws⟩ (pt.trans pt2)
  | _ => rw [h2] at af; exact af.elim
 | _ => rw [h1] at af; exact af.elim
theorem vW : PA X [] (tD Γ F []) := L2.PA.imp jX fun σ H Q ⟨φ, st, ρ, en, rl, af⟩ => af [] H φ rfl (Pt.refl rl)
theorem tm {e} {es} (h : PE X x (tE Γ F e)) (hs : PA X xs (tD Γ F es)) (hx : starEach (x :: xs) X.env = (false, eval x X.env) :: starEach xs X.env) : PA X (x :: xs) (tD Γ F (e :: es)) := by
 refine L2.PA.imp (fJ h hs hx) ?_
 rintro σ H Q ⟨φ, st, ρ, en, rl, af⟩
 refine ⟨φ, st, ρ, en, rl, ?_⟩
 simp only [cT] at af
 cases h1 : aj F _ e ρ st with
 | ok w st1 =>
  rw [h1] at af
  intro v H1 φ1 rw1 pt
  simp only [ak.bind] at af
  cases h3 : aJ _ w _ with
  | ok t st3 =>
   rw [h3] at af
   obtain ⟨φ3, p3, r3⟩ := hV rl.len pt rw1 h3
   refine ⟨φ3, st3, ρ, en.step p3, p3.rl, ?_⟩
   simp only at af
   cases h2 : cT F _ es ρ _ with
   | ok ws st2 =>
    rw [h2] at af
    intro vs H2 φ2 rws pt2
    exact af _ H2 _ ⟨v, vs, rfl, Rp.step pt2.stp r3, rws⟩ (p3.trans pt2)
   | _ => rw [h2] at af; exact af.elim
  | _ => rw [h3] at af; exact af.elim
 | _ => rw [h1] at af; exact af.elim
theorem A5 {pos} (h : PA X xs (tD Γ F es)) : PE X (.Tuple xs k pos) (tE Γ F (.tup es)) := by
 refine L2.PE.imp (AM h) ?_
 rintro σ H Q ⟨φ, st, ρ, en, rl, af⟩
 refine ⟨φ, st, ρ, en, rl, ?_⟩
 simp only [aj] at af
 cases h1 : cT F _ es ρ st with
 | ok ts st1 =>
  rw [h1] at af
  intro vs H1 φ1 rs pt
  simp only [ak.bind] at af
  split at af
  · rename_i hz
    exact ⟨by rw [rs.length]; exact Nat.le_trans hz bb, Af.tup (Af.re af pt) pt.rl rs⟩
  · exact af.elim
 | _ => rw [h1] at af; exact af.elim
theorem Bl (h : PA X xs (tD Γ F es)) : PE X (.List xs pos) (tE Γ F (.lst es)) := by
 refine L2.PE.imp (BH h) ?_
 rintro σ H Q ⟨φ, st, ρ, en, rl, af⟩
 refine ⟨φ, st, ρ, en, rl, ?_⟩
 simp only [aj] at af
 cases h1 : cT F _ es ρ st with
 | ok ts st1 =>
  rw [h1] at af
  intro vs H1 φ1 rs pt
  simp only [ak.bind] at af
  split at af
  · rename_i hz
    exact ⟨by rw [rs.length]; exact Nat.le_trans hz bb, Af.lst (Af.re af pt) pt.rl rs⟩
  · exact af.elim
 | _ => rw [h1] at af; exact af.elim
theorem vf {K} {L} {H} {xs} {vs} {i} {t} (r : aA K L H xs vs) (h : dj xs i = some t) : ∃ v, dj vs i = some v ∧ Rp K L H t v := by
 unfold dj at h ⊢
 rw [r.length]
 cases q : pi _ i with
 | none => rw [q] at h; cases h
 | some j => rw [q] at h; exact r.get h
theorem HJ : pZ Γ (G9 Γ.K) fN := by
 intro φ st H x y v u Q rl rx ry af
 unfold fN at af
 cases h1 : look x st with
 | none => rw [h1] at af; exact af.elim
 | some t =>
  cases h2 : look y st with
  | none => rw [h1, h2] at af; cases t <;> exact af.elim
  | some t' =>
   rw [h1, h2] at af
   cases t' with
   | int i =>
    cases t with
    | tup xs =>
     obtain ⟨a, vs, rfl, q1, r1⟩ := rx.tup rl h1
     cases h3 : dj xs i with
     | none => simp only [h3] at af; exact af.elim
     | some t =>
      simp only [h3] at af
      obtain ⟨v, e, r⟩ := vf r1 h3
      exact .inr (.inl ⟨a, vs, i, v, rfl, ry.int rl h2, q1, e, af.now rl r⟩)
    | lst xs =>
     obtain ⟨a, vs, rfl, q1, r1⟩ := rx.lst rl h1
     cases h3 : dj xs i with
     | none => simp only [h3] at af; exact af.elim
     | some t =>
      simp only [h3] at af
      obtain ⟨v, e, r⟩ := vf r1 h3
      exact .inl ⟨a, vs, i, v, rfl, ry.int rl h2, q1, e, af.now rl r⟩
    | str z =>
     simp only at af
     split at af
     · rename_i hz
       cases h3 : dj z.cps.toList i with
       | none => simp only [h3] at af; exact af.elim
       | some c =>
        simp only [h3] at af
        exact .inr (.inr ⟨z, i, c, rx.str rl h1, ry.int rl h2, Nat.le_trans hz bb, h3, af.now rl rfl⟩)
     · exact af.elim
    | _ => exact af.elim
   | _ => cases t <;> exact af.elim
theorem Bz {a b} {pos} (hK : X.K = Γ.K) (ha : PE X x (tE Γ F a)) (hb : PE X y (tE Γ F b)) (hs : kD y) : PE X (.Subscript x y pos) (tE Γ F (.ix a b)) := by
 have r : vD X (G9 Γ.K) := by rw [← hK]; exact Ay
 exact L2.PE.imp (E1 r ha hb hs) (Hg (fun _ _ => rfl) HJ)
theorem _root_.L2.aA.cut {K} {L} {H} {xs} {vs} (r : aA K L H xs vs) (lo hi : Option _) : aA K L H (v7 xs lo hi) (qw vs lo hi) := by
 unfold v7 qw
 rw [r.length]
 exact (r.drop _).take _
def DE (K : PySem.W.Frag) : V → Option Int → Option Int → Hp → VK → Prop := fun x lo hi H Q => Fq K x lo hi H Q ∨ C4 K x lo hi H Q ∨ DO x lo hi H Q
theorem HR {st} {H} {x} {v} {lo hi} {Q} (rl : Rl Γ φ st H) (rx : RW Γ φ st H x v) (af : Af Γ φ st H (CK x lo hi st) Q) : DE Γ.K v lo hi H Q := by
 unfold CK at af
 cases h1 : look x st with
 | none => rw [h1] at af; exact af.elim
 | some t =>
  rw [h1] at af
  cases t with
  | tup xs =>
   simp only at af
   split at af
   · exact af.elim
   · rename_i hn
     obtain ⟨a, vs, rfl, q1, r1⟩ := rx.tup rl h1
     exact .inl ⟨a, vs, rfl, q1, by rw [r1.length]; exact hn, af.tup rl (r1.cut lo hi)⟩
  | lst xs =>
   obtain ⟨a, vs, rfl, q1, r1⟩ := rx.lst rl h1
   exact .inr (.inl ⟨a, vs, rfl, q1, af.lst rl (r1.cut lo hi)⟩)
  | str z =>
   simp only at af
   split at af
   · rename_i hz
     exact .inr (.inr ⟨z, rx.str rl h1, Nat.le_trans hz bb, af.now rl rfl⟩)
   · exact af.elim
  | _ => exact af.elim
def JR (Γ : Gm) (φ : List Addr) (st : ae) (H : Hp) (r : ak (Option Int)) (Q : Option Int → Hp → Prop) : Prop :=
 match r with
 | .ok o st' => ∀ H' φ', Pt Γ φ st H φ' st' H' → Q o H'
 | _ => False
def tO (Γ : Gm) (F : FT) (e : Option E) : TO := fun σ H Q => ∃ φ st ρ, En Γ φ st H ρ σ ∧ Rl Γ φ st H ∧ JR Γ φ st H (vH F Γ.G e ρ st) Q
theorem rJ : PO X none (tO Γ F none) := fun pins s σ H Q I ⟨φ, st, ρ, en, rl, af⟩ => vX _ s σ H Q I (af H φ (Pt.refl rl))
theorem rE (h : PE X x (tE Γ F e)) : PO X (some x) (tO Γ F (some e)) := fun pins s σ H Q I ⟨φ, st, ρ, en, rl, af⟩ => v9 h _ s σ H Q I (by
 refine ⟨φ, st, ρ, en, rl, ?_⟩
 simp only [vH] at af
 cases h1 : aj F _ e ρ st with
 | ok w st1 =>
  rw [h1] at af
  intro v H1 φ1 rw1 pt
  simp only [ak.bind] at af
  cases h2 : look w st1 with
  | none => simp only [h2] at af; exact af.elim
  | some t =>
   simp only [h2] at af
   cases t with
   | int i => exact ⟨i, rw1.int pt.rl h2, af H1 _ pt⟩
   | _ => exact af.elim
 | exc _ _ _ => rw [h1] at af; exact af.elim
 | bad => rw [h1] at af; exact af.elim)
theorem At {lo hi} {a} {l h} {pos p2} (hK : X.K = Γ.K) (ha : PE X x (tE Γ F a)) (hl : PO X lo (tO Γ F l)) (hh : PO X hi (tO Γ F h)) : PE X (.Subscript x (.Slice lo hi none p2) pos) (tE Γ F (.sl a l h)) := by
 have r : vU X (DE Γ.K) := by rw [← hK]; exact BK.or (wq.or zT)
 refine L2.PE.imp (rV r ha hl hh) ?_
 rintro σ H Q ⟨φ, st, ρ, en, rl, af⟩
 refine ⟨φ, st, ρ, en, rl, af.bind.mono fun v H1 ⟨w, st1, φ1, rw1, pt, af1⟩ => ⟨φ1, st1, ρ, en.step pt, pt.rl, ?_⟩⟩
 cases h1 : vH F _ l ρ _ with
 | ok o st2 =>
  rw [h1] at af1
  intro H2 φ2 pt2
  have af2 := Af.re af1 pt2
  simp only [ak.bind] at af2
  refine ⟨φ2, st2, ρ, (en.step pt).step pt2, pt2.rl, ?_⟩
  cases h2 : vH F _ h ρ _ with
  | ok o' st3 =>
   rw [h2] at af2
   intro H3 φ3 pt3
   exact HR pt3.rl ((rw1.step pt2).step pt3) (Af.re af2 pt3)
  | _ => rw [h2] at af2; exact af2.elim
 | _ => rw [h1] at af1; exact af1.elim
def yE (Γ : Gm) (F : FT) (f n : Nat) : Sp := fun vs H Q _ => ∃ φ st ws, Rl Γ φ st H ∧ sd Γ φ st H ws vs ∧ ws.length = n ∧ Af Γ φ st H (F f ws st) Q
theorem kK {f n} {es} (hn : es.length = n) (hF : True) : ∀ σ H Q, tE Γ F (.call f es) σ H Q → pA (yE Γ F f n) [] E0 (tA Γ F es) σ H Q := by
 rintro σ H Q ⟨φ, st, ρ, en, rl, af⟩
 refine ⟨φ, st, ρ, en, rl, ?_⟩
 simp only [aj] at af
 cases h1 : a8 F _ es ρ st with
 | ok ws st1 =>
  rw [h1] at af
  intro vs H1 φ1 rws pt
  have hl : ∀ (es : List E) (ρ : aG) (st st1 : ae) (ws : List W), a8 F Γ.G es ρ st = .ok ws st1 → ws.length = es.length := by
   intro es
   induction es with
   | nil => intro ρ st st1 ws h; cases h; rfl
   | cons e es ih =>
    intro ρ st st1 ws h
    simp only [a8] at h
    cases h1 : aj F _ e ρ st with
    | ok w st2 =>
     rw [h1] at h
     simp only [ak.bind] at h
     cases h2 : a8 F _ es ρ _ with
     | ok ws' st3 => rw [h2] at h; cases h; rw [List.length_cons, List.length_cons, ih _ _ _ _ h2]
     | _ => rw [h2] at h; cases h
    | _ => rw [h1] at h; cases h
  rw [List.append_nil]
  exact ⟨φ1, st1, ws, pt.rl, rws, by rw [hl _ _ _ _ _ h1, hn], Af.re af pt⟩
 | _ => rw [h1] at af; exact af.elim
end
end I
end
section
namespace I
open PySem L2 PySem.Spec PyProof.Rows
def tG (Γ : Gm) (t : Tg) : TG := fun v σ H Q => ∃ φ st ρ w ρ', En Γ φ st H ρ σ ∧ Rl Γ φ st H ∧ RW Γ φ st H w v ∧ aS t w ρ = some ρ' ∧ ∀ σ', En Γ φ st H ρ' σ' → Q σ' H
theorem _root_.L2.PG.imp (h : PG X e t) (i : ∀ v σ H Q, u v σ H Q → t v σ H Q) : PG X e u := fun pins s σ H v w Q I r q => h _ s σ H v w Q I r (i v σ H Q q)
section
variable {Γ : Gm} {X : Cx}
theorem Cq (hN : X.N.Nodup) (hi : X.N[i]? = some x) (hx : Loc X.env.scope x) (hf : X.fn x = true ∨ X.env.scope.names.lookup x = some .local) : PG X (.Name x pos) (tG Γ (.nm i)) := by
 refine L2.PG.imp (gE hN hi hx hf) ?_
 rintro v σ H Q ⟨φ, st, ρ, w, ρ', en, rl, rw1, hb, q⟩
 obtain ⟨_, rfl⟩ := aE hb
 exact q _ (en.set rw1)
def jM : List Nat → CH
 | [] => Ep
 | i :: is => zg (lE i) (jM is)
def mo (X : Cx) : List Nat → List Expr → Prop
 | [], [] => True
 | i :: is, .Name x _ :: es => (X.N[i]? = some x ∧ Loc X.env.scope x ∧ (X.fn x = true ∨ X.env.scope.names.lookup x = some .local)) ∧ mo X is es
 | _, _ => False
theorem iF (hN : X.N.Nodup) : ∀ {is} {es}, mo X is es → CJ X es (jM is) ∧ (assignEach es X.env).length = is.length ∧ (assignEach es X.env).findIdx? (·.1) = none
 | [], [], _ => ⟨xR, rfl, rfl⟩
 | [], _ :: _, h => h.elim
 | _ :: _, [], h => h.elim
 | i :: is, e :: es, h => by
  cases e <;> first | exact h.elim | skip
  obtain ⟨a, b, c⟩ := iF hN h.2
  refine ⟨rN (gE hN h.1.1 h.1.2.1 h.1.2.2) a rfl, ?_, ?_⟩
  · show (assignEach es _).length + 1 = is.length + 1
    rw [b]
  · show List.findIdx? _ ((false, assign _ _) :: assignEach es _) = none
    grind
theorem ji {st} {H} {Q} : ∀ {is} {xs} {vs} {ρ} {σ}, is.length = xs.length → aA Γ.K (aq φ st) H xs vs → En Γ φ st H ρ σ →
 (∀ σ', En Γ φ st H ((is.zip xs).foldl (fun ρ p => ρ.set p.1 (some (.d p.2))) ρ) σ' → Q σ' H) → jM is vs σ H Q
 | [], [], vs, ρ, σ, _, r, en, q => ⟨r, q σ en⟩
 | i :: is, x :: xs, vs, ρ, σ, hl, r, en, q => by
  obtain ⟨v, rs, rfl, r1, r2⟩ := r
  refine ⟨v, rs, rfl, ?_⟩
  exact ji (by simpa using hl) r2 (en.set (w := .d x) r1) q
 | [], _ :: _, _, _, _, hl, _, _, _ => by simp at hl
 | _ :: _, [], _, _, _, hl, _, _, _ => by simp at hl
theorem EI {pos} (hK : X.K = Γ.K) (hc : X.calm = true) (hN : X.N.Nodup) (h : mo X is es) : PG X (.Tuple es k pos) (tG Γ (.tp is)) := by
 obtain ⟨a, b, c⟩ := iF hN h
 refine L2.PG.imp (oD hK hc a b c) ?_
 rintro v σ H Q ⟨φ, st, ρ, w, ρ', en, rl, rw1, hb, q⟩
 cases w with
 | ref k => cases hb
 | d t =>
  cases t with
  | tup xs =>
   obtain ⟨⟨h1, h2⟩, rfl⟩ := aE hb
   obtain ⟨p, vs, rfl, h3, h4⟩ := rw1
   exact ⟨p, vs, rfl, h3.sq, by rw [h4.length, h1], ji h1 h4 en q⟩
  | _ => cases hb
end
def Wk (Γ : Gm) (J : L2.It) (xs : List T) (gs : List (Nat × List T)) (φ0 : List Addr) (st0 : ae) (H0 : Hp) : Prop :=
 ∀ φ st H, Pt Γ φ0 st0 H0 φ st H → dK gs st = true → (∀ (i : Nat) t, xs[i]? = some t → J.go i H ∧ ∀ v H', J.yld i H v H' → Pt Γ φ st H φ st H' ∧ Rp Γ.K (aq φ st) H' t v) ∧ J.stop xs.length H
mutual
theorem ya : ∀ {a b}, D7 a b = true → a = b
 | .non, .non, _ => rfl
 | .bl a, .bl b, h => by rw [eq_of_beq (h)]
 | .int a, .int b, h => by rw [eq_of_beq (h)]
 | .str a, .str b, h => by rw [eq_of_beq (show (a == b) = true from h)]
 | .tup a, .tup b, h => by rw [fH h]
 | .lst a, .lst b, h => by rw [fH h]
 | .non, .bl _, h => by cases h
 | .non, .int _, h => by cases h
 | .non, .str _, h => by cases h
 | .non, .tup _, h => by cases h
 | .non, .lst _, h => by cases h
 | .bl _, .non, h => by cases h
 | .bl _, .int _, h => by cases h
 | .bl _, .str _, h => by cases h
 | .bl _, .tup _, h => by cases h
 | .bl _, .lst _, h => by cases h
 | .int _, .non, h => by cases h
 | .int _, .bl _, h => by cases h
 | .int _, .str _, h => by cases h
 | .int _, .tup _, h => by cases h
 | .int _, .lst _, h => by cases h
 | .str _, .non, h => by cases h
 | .str _, .bl _, h => by cases h
 | .str _, .int _, h => by cases h
 | .str _, .tup _, h => by cases h
 | .str _, .lst _, h => by cases h
 | .tup _, .non, h => by cases h
 | .tup _, .bl _, h => by cases h
 | .tup _, .int _, h => by cases h
 | .tup _, .str _, h => by cases h
 | .tup _, .lst _, h => by cases h
 | .lst _, .non, h => by cases h
 | .lst _, .bl _, h => by cases h
 | .lst _, .int _, h => by cases h
 | .lst _, .str _, h => by cases h
 | .lst _, .tup _, h => by cases h
theorem fH : ∀ {a b}, mq a b = true → a = b
 | [], [], _ => rfl
 | x :: xs, y :: ys, h => by
  have h := Bool.and_eq_true_iff.mp h
  rw [ya h.1, fH h.2]
 | [], _ :: _, h => by cases h
 | _ :: _, [], h => by cases h
end
theorem wm {st} (h : dK gs st = true) {k} {xs} (hm : (k, xs) ∈ gs) : st[k]? = some (some xs) := by
 have := List.all_eq_true.mp h _ hm
 split at this
 · rename_i ys e
   rw [e, fH this]
 · cases this
inductive Sq (Γ : Gm) (φ : List Addr) (st : ae) (H : Hp) : W → V → List T → List (Nat × List T) → Prop
 | tup {xs a vs} (h : TupAt Γ.K (aq φ st) H a vs) (r : aA Γ.K (aq φ st) H xs vs) : Sq Γ φ st H (.d (.tup xs)) (.ref a) xs []
 | lst {xs a vs} (h : LstAt Γ.K (aq φ st) H a vs) (r : aA Γ.K (aq φ st) H xs vs) : Sq Γ φ st H (.d (.lst xs)) (.ref a) xs []
 | ref {k : Nat} {xs a} (h : φ[k]? = some a) (e : st[k]? = some (some xs)) : Sq Γ φ st H (.ref k) (.ref a) xs [(k, xs)]
section
variable {Γ : Gm} {φ φ1 : List Addr} {st st1 : ae} {H H1 : Hp}
theorem lP (rl : Rl Γ φ st H) (r : RW Γ φ st H w v) (h : dA w st = some p) : Sq Γ φ st H w v p.1 p.2 := by
 cases w with
 | d t =>
  cases t with
  | tup xs => cases h; obtain ⟨a, vs, rfl, h1, h2⟩ := r; exact .tup h1 h2
  | lst xs => cases h; obtain ⟨a, vs, rfl, h1, h2⟩ := r; exact .lst h1 h2
  | _ => cases h
 | ref k =>
  obtain ⟨a, e, rfl⟩ := r
  cases q : st[k]? with
  | none => simp [dA, q] at h
  | some o =>
   cases o with
   | none => simp [dA, q] at h
   | some xs =>
    simp only [dA, q, Option.some.injEq] at h
    subst h
    exact .ref e q
theorem Sq.now {gs} (q : Sq Γ φ st H w (.ref a) xs gs) (p : Pt Γ φ st H φ1 st1 H1) (hs : dK gs st1 = true) :
 ∃ vs, (if a9 w then eB Γ.K H1 a vs else cF Γ.K H1 a vs) ∧ aA Γ.K (aq φ1 st1) H1 xs vs := by
 cases q with
 | tup h r => exact ⟨_, (h.step p.stp).sq, r.step p.stp⟩
 | lst h r => exact ⟨_, (h.step p.stp).sq, r.step p.stp⟩
 | ref h e =>
  obtain ⟨vs, h1, h2⟩ := p.rl.at_ _ _ a (p.pre _ _ h) (wm hs (List.mem_singleton.mpr rfl))
  exact ⟨vs, cF.of h1, h2⟩
end
theorem bN {α β : Type} {f : α → β} {xs : List α} {i : Nat} {b} (h : (xs.map f)[i]? = some b) : ∃ a, xs[i]? = some a ∧ f a = b := by simp_all
section
variable {Γ : Gm} {φ : List Addr} {st : ae} {H : Hp}
theorem oB {lo} {n i} {t} (h : (rng lo n)[i]? = some t) : i < n ∧ t = .int (lo + i) := by
 obtain ⟨a, h1, rfl⟩ := bN h
 obtain ⟨h2, h3⟩ := List.getElem?_eq_some_iff.mp h1
 rw [List.length_range] at h2
 simp_all
theorem rC (lo : Int) (n : Nat) : Wk Γ (Gx lo n) (rng lo n) [] φ st H := fun φ1 st1 H1 p _ => by
 refine ⟨fun i t h => ?_, ?_⟩
 · obtain ⟨h1, rfl⟩ := oB h
   refine ⟨h1, fun v H' y => ?_⟩
   obtain ⟨rfl, rfl⟩ := y
   exact ⟨Pt.refl p.rl, rfl⟩
 · show n ≤ (rng lo n).length
   simp [rng]
end
theorem vx {st} {H} {w} {a} {xs} {gs} (q : Sq Γ φ st H w (.ref a) xs gs) : Wk Γ (if a9 w then Hk Γ.K a else HV Γ.K a) xs gs φ st H := fun φ1 st1 H1 p hs => by
 obtain ⟨vs, h1, h2⟩ := q.now p hs
 cases hw : a9 w with
 | true =>
  rw [hw] at h1
  refine ⟨fun i t h => ?_, ⟨vs, h1, by rw [h2.length]; exact Nat.le_refl _⟩⟩
  obtain ⟨v, e, r⟩ := h2.get h
  refine ⟨⟨vs, v, h1, e⟩, fun u H' y => ?_⟩
  obtain ⟨rfl, y⟩ := y
  have := y vs h1
  rw [e] at this; cases this
  exact ⟨Pt.refl p.rl, r⟩
 | false =>
  rw [hw] at h1
  refine ⟨fun i t h => ?_, ⟨vs, h1, by rw [h2.length]; exact Nat.le_refl _⟩⟩
  obtain ⟨v, e, r⟩ := h2.get h
  refine ⟨⟨vs, v, h1, e⟩, fun u H' y => ?_⟩
  obtain ⟨rfl, y⟩ := y
  have := y vs h1
  rw [e] at this; cases this
  exact ⟨Pt.refl p.rl, r⟩
theorem pI {st} {H} {x y} {v u} {p} (rl : Rl Γ φ st H) (hp : H p = none) (r1 : Rp Γ.K (aq φ st) H x v) (r2 : Rp Γ.K (aq φ st) H y u) :
 Pt Γ φ st H φ st (bB H p (.tup [v, u])) ∧ Rp Γ.K (aq φ st) (bB H p (.tup [v, u])) (.tup [x, y]) (.ref p) := by
 have b := rl.beside (o := .tup [v, u]) hp
 refine ⟨b, p, _, rfl, .inl ⟨.inl cc, ?_⟩, v, [u], rfl, Rp.step b.stp r1, u, [], rfl, Rp.step b.stp r2, rfl⟩
 rintro ⟨k, ys, e1, e2⟩
 obtain ⟨_, h1, _⟩ := rl.at_ k ys p e1 e2
 rw [hp] at h1; cases h1
theorem vZ {Γ : Gm} {φ : List Addr} {st : ae} {H : Hp} {w : W} {a : Addr} {xs : List T} {gs : List (Nat × List T)} (q : Sq Γ φ st H w (.ref a) xs gs) : Wk Γ (Ir fun H xs => vo Γ.K (a9 w) H a xs) (xs.zipIdx.map fun q => .tup [.int q.2, q.1]) gs φ st H := fun φ1 st1 H1 p hs => by
 obtain ⟨vs, h1, h2⟩ := q.now p hs
 refine ⟨fun i t h => ?_, ⟨vs, h1, by rw [h2.length]; simp⟩⟩
 obtain ⟨⟨x, j⟩, e1, rfl⟩ := bN h
 rw [List.getElem?_zipIdx] at e1
 cases e2 : xs[i]? with
 | none => rw [e2] at e1; cases e1
 | some y =>
  rw [e2] at e1
  simp only [Option.map_some, Option.some.injEq, Prod.mk.injEq, Nat.zero_add] at e1
  obtain ⟨rfl, rfl⟩ := e1
  obtain ⟨v, e, r⟩ := h2.get e2
  refine ⟨⟨vs, v, h1, e⟩, fun u H' y => ?_⟩
  obtain ⟨b, v', hb, rfl, hv, rfl⟩ := y
  have := hv vs h1
  rw [e] at this; cases this
  exact pI p.rl hb rfl r
theorem Bp {Γ : Gm} {φ : List Addr} {st : ae} {H : Hp} {w w' : W} {a b : Addr} {xs ys : List T} {gs gs' : List (Nat × List T)} (q : Sq Γ φ st H w (.ref a) xs gs) (q' : Sq Γ φ st H w' (.ref b) ys gs') (hw : a9 w = a9 w') :
 Wk Γ (GS (fun H xs => vo Γ.K (a9 w) H a xs) (fun H ys => vo Γ.K (a9 w) H b ys)) ((xs.zip ys).map fun z => .tup [z.1, z.2]) (gs ++ gs') φ st H := fun φ1 st1 H1 p hs => by
 have hs1 : dK gs st1 = true := by unfold dK at hs ⊢; rw [List.all_append, Bool.and_eq_true] at hs; exact hs.1
 have hs2 : dK gs' st1 = true := by unfold dK at hs ⊢; rw [List.all_append, Bool.and_eq_true] at hs; exact hs.2
 obtain ⟨vs, h1, h2⟩ := q.now p hs1
 obtain ⟨us, g1, g2⟩ := q'.now p hs2
 rw [← hw] at g1
 refine ⟨fun i t h => ?_, ⟨vs, us, h1, g1, by rw [h2.length, g2.length, List.length_map, List.length_zip]; omega⟩⟩
 obtain ⟨⟨x, y⟩, e1, rfl⟩ := bN h
 rw [List.getElem?_zip_eq_some] at e1
 obtain ⟨e1, e2⟩ := e1
 obtain ⟨v, e3, r⟩ := h2.get e1
 obtain ⟨u, e4, r'⟩ := g2.get e2
 refine ⟨⟨vs, v, us, u, h1, e3, g1, e4⟩, fun z H' y => ?_⟩
 obtain ⟨pp, v', u', hb, rfl, hv, hu, rfl⟩ := y
 have z1 := hv vs h1
 have z2 := hu us g1
 rw [e3] at z1; cases z1
 rw [e4] at z2; cases z2
 exact pI p.rl hb r r'
end I
end
section
namespace I
open PySem L2 PySem.Spec PyProof.Rows
def yu (Γ : Gm) (φ : List Addr) (st : ae) (H : Hp) (k : Ik) (r : ak (List W)) (R : L2.It → Hp → Prop) : Prop :=
 match r with
 | .ok ws st' => match items k ws st' with
  | some p => ∀ J H' φ', Pt Γ φ st H φ' st' H' → Wk Γ J p.1 p.2 φ' st' H' → R J H'
  | none => False
 | _ => False
def tI (Γ : Gm) (F : FT) (k : Ik) (src : List E) : TI := fun σ H R => ∃ φ st ρ, En Γ φ st H ρ σ ∧ Rl Γ φ st H ∧ yu Γ φ st H k (a8 F Γ.G src ρ st) R
section
variable {Γ : Gm} {F : FT} {X : Cx}
theorem lh {st} {G} : a8 F G [e] ρ st = (aj F G e ρ st).bind fun w st => .ok [w] st := rfl
theorem ic {st} {H} {w} {v} {xs} {gs} (q : Sq Γ φ st H w v xs gs) : ∃ a, v = .ref a := by
 cases q <;> exact ⟨_, rfl⟩
theorem Sq.isB {φ : List Addr} {st : ae} {H : Hp} {w : W} {a : Addr} {xs : List T} {gs : List (Nat × List T)} (rl : Rl Γ φ st H) (q : Sq Γ φ st H w (.ref a) xs gs) : ∃ vs, vo Γ.K (a9 w) H a vs := by
 cases q with
 | tup h r => exact ⟨_, h.sq⟩
 | lst h r => exact ⟨_, h.sq⟩
 | ref h e => obtain ⟨vs, z, _⟩ := rl.at_ _ _ a h e; exact ⟨vs, cF.of z⟩
theorem EO {tg x : Expr} {e : E} (hK : X.K = Γ.K) (h : PE X x (tE Γ F e)) : PI X tg x (tI Γ F .seq [e]) := by
 rintro pins s σ H R I ⟨φ, st, ρ, en, rl, af⟩
 rw [lh] at af
 cases h1 : aj F Γ.G e ρ st with
 | ok w st1 =>
  rw [h1] at af
  have af : yu Γ φ st H .seq (.ok [w] st1) R := af
  unfold yu at af
  simp only at af
  cases h2 : items .seq [w] st1 with
  | none => rw [h2] at af; exact af.elim
  | some p =>
   rw [h2] at af
   have h3 : dA w st1 = some p := h2
   · cases hw : a9 w with
     | true =>
      refine Bi h pins s σ H R I ⟨φ, st, ρ, en, rl, ?_⟩
      rw [h1]
      intro v H1 φ1 rw1 pt
      have q := lP pt.rl rw1 h3
      obtain ⟨a, rfl⟩ := ic q
      have wk := vx q
      have ib := q.isB pt.rl
      rw [hw] at ib
      rw [hw, if_pos rfl, ← hK] at wk
      exact ⟨a, rfl, by rw [hK]; exact ib, af _ H1 φ1 pt wk⟩
     | false =>
      refine wJ h pins s σ H R I ⟨φ, st, ρ, en, rl, ?_⟩
      rw [h1]
      intro v H1 φ1 rw1 pt
      have q := lP pt.rl rw1 h3
      obtain ⟨a, rfl⟩ := ic q
      have wk := vx q
      have ib := q.isB pt.rl
      rw [hw] at ib
      rw [hw, if_neg Bool.false_ne_true, ← hK] at wk
      exact ⟨a, rfl, by rw [hK]; exact ib, af _ H1 φ1 pt wk⟩
 | _ => rw [h1] at af; exact af.elim
theorem nz {st} {q} (h : items .rng1 ws st = some q) : ∃ n : Int, ws = [.d (.int n)] ∧ (-aZ ≤ n ∧ n ≤ aZ) ∧ q = (rng 0 n.toNat, []) := by
 rcases ws with _ | ⟨w, _ | ⟨u, _ | ⟨_, _⟩⟩⟩ <;> first | (cases h) | skip
 cases w with
 | ref k => cases h
 | d t =>
  cases t with
  | int n => obtain ⟨hn, rfl⟩ := aE h; exact ⟨n, rfl, hn, rfl⟩
  | _ => cases h
theorem BO {tg x} {e} {p pos} (hg : Gl X "range") (hm : X.mg "range" = none) (ha : PA X [x] (tA Γ F [e])) (hs : starEach [x] X.env = [(false, eval x X.env)]) : PI X tg (.Call (.Name "range" p) [x] [] pos) (tI Γ F .rng1 [e]) := by
 rintro pins s σ H R I ⟨φ, st, ρ, en, rl, af⟩
 refine qD hg hm ha hs _ s σ H R I ⟨φ, st, ρ, en, rl, ?_⟩
 cases h1 : a8 F _ _ ρ st with
 | ok ws st1 =>
  rw [h1] at af
  unfold yu at af
  simp only at af
  cases h2 : items .rng1 ws st1 with
  | none => simp_all
  | some q =>
   rw [h2] at af
   obtain ⟨n, rfl, hn, rfl⟩ := nz h2
   intro vs H1 φ1 rws pt
   obtain ⟨v, r, rfl, rv, rr⟩ := rws
   cases rr
   cases rv
   have hb : aZ = 1000000 := rfl
   exact ⟨n, rfl, by omega, by omega, af _ H1 _ pt (rC 0 _)⟩
 | _ => rw [h1] at af; exact af.elim
theorem pR : ∀ {ws} {st} {q}, items .enm ws st = some q → ∃ w p, ws = [w] ∧ dA w st = some p ∧ q = (p.1.zipIdx.map fun q => .tup [.int q.2, q.1], p.2)
 | [], _, _, h => by cases h
 | [_, _], _, _, h => by cases h
 | _ :: _ :: _ :: _, _, _, h => by cases h
 | [w], st, q, h => by
  have h : (dA w st).map _ = some q := h
  cases h1 : dA w st with
  | none => rw [h1] at h; cases h
  | some p => rw [h1] at h; cases h; exact ⟨w, p, rfl, h1, rfl⟩
theorem EZ {elts : List Expr} {x1} {pt0 : Pos} {x : Expr} {e : E} {p pos : Pos} (hK : X.K = Γ.K) (hg : Gl X "enumerate") (hm : X.mg "enumerate" = none) (ha : PA X [x] (tA Γ F [e])) (hs : starEach [x] X.env = [(false, eval x X.env)]) :
 PI X (.Tuple elts x1 pt0) (.Call (.Name "enumerate" p) [x] [] pos) (tI Γ F .enm [e]) := by
 rintro pins s σ H R I ⟨φ, st, ρ, en, rl, af⟩
 cases h1 : a8 F Γ.G [e] ρ st with
 | ok ws st1 =>
  rw [h1] at af
  unfold yu at af
  simp only at af
  cases h2 : items .enm ws st1 with
  | none => rw [h2] at af; exact af.elim
  | some q =>
   rw [h2] at af
   obtain ⟨w, q, rfl, h3, rfl⟩ := pR h2
   refine wb (a9 w) hg hm ha hs pins s σ H R I ⟨φ, st, ρ, en, rl, ?_⟩
   rw [h1]
   intro vs H1 φ1 rws pt
   obtain ⟨v, r, rfl, rv, rr⟩ := rws
   cases (show r = [] from rr)
   have sq := lP pt.rl rv h3
   obtain ⟨a, rfl⟩ := ic sq
   rw [hK]
   exact ⟨a, rfl, sq.isB pt.rl, af _ H1 φ1 pt (vZ sq)⟩
 | _ => rw [h1] at af; exact af.elim
theorem sr : ∀ {ws} {st} {q}, items .zp ws st = some q → ∃ w u p p', ws = [w, u] ∧ a9 w = a9 u ∧ dA w st = some p ∧ dA u st = some p' ∧ q = ((p.1.zip p'.1).map fun z => .tup [z.1, z.2], p.2 ++ p'.2)
 | [], _, _, h => by cases h
 | [_], _, _, h => by cases h
 | _ :: _ :: _ :: _, _, _, h => by cases h
 | [w, u], st, q, h => by
  have h : (match dA w st, dA u st with
   | some p, some q => if a9 w = a9 u then some _ else none
   | _, _ => none) = some q := h
  cases h1 : dA w st with
  | none => rw [h1] at h; simp at h
  | some p =>
   cases h2 : dA u st with
   | none => simp_all
   | some p' =>
    rw [h1, h2] at h
    obtain ⟨hn, rfl⟩ := aE h
    exact ⟨w, u, p, p', rfl, hn, h1, h2, rfl⟩
theorem Hs {elts : List Expr} {x1} {pt0 : Pos} {x y : Expr} {e e' : E} {p pos : Pos} (hK : X.K = Γ.K) (hg : Gl X "zip") (hm : X.mg "zip" = none) (ha : PA X [x, y] (tA Γ F [e, e'])) (hs : starEach [x, y] X.env = (false, eval x X.env) :: starEach [y] X.env) (hpl : (backTo pos (starEach [y] X.env)).any (·.1) = false) :
 PI X (.Tuple elts x1 pt0) (.Call (.Name "zip" p) [x, y] [] pos) (tI Γ F .zp [e, e']) := by
 rintro pins s σ H R I ⟨φ, st, ρ, en, rl, af⟩
 cases h1 : a8 F Γ.G [e, e'] ρ st with
 | ok ws st1 =>
  rw [h1] at af
  unfold yu at af
  simp only at af
  cases h2 : items .zp ws st1 with
  | none => rw [h2] at af; exact af.elim
  | some q =>
   rw [h2] at af
   obtain ⟨w, u, q, q', rfl, hwu, h3, h4, rfl⟩ := sr h2
   refine Cf (a9 w) hg hm ha hs hpl pins s σ H R I ⟨φ, st, ρ, en, rl, ?_⟩
   rw [h1]
   intro vs H1 φ1 rws pt
   obtain ⟨v, r, rfl, rv, v', r', rfl, rv', rr⟩ := rws
   cases (show r' = [] from rr)
   have sq := lP pt.rl rv h3
   have sq' := lP pt.rl rv' h4
   obtain ⟨a, rfl⟩ := ic sq
   obtain ⟨b, rfl⟩ := ic sq'
   rw [hK]
   exact ⟨a, b, rfl, sq.isB pt.rl, hwu ▸ sq'.isB pt.rl, af _ H1 φ1 pt (Bp sq sq' hwu)⟩
 | _ => rw [h1] at af; exact af.elim
end
def eI (Γ : Gm) (φ : List Addr) (st : ae) (H : Hp) (r : ak (Fl × aG)) (D : nI) : Prop :=
 match r with
 | .ok p st' => ∀ σ' H' φ', En Γ φ' st' H' p.2 σ' → Pt Γ φ st H φ' st' H' → (match p.1 with
  | .nx => D.nx σ' H'
  | .bk => D.bk σ' H'
  | .ct => D.ct σ' H'
  | .rt w => ∀ v, RW Γ φ' st' H' w v → D.rt v H')
 | _ => False
def tS (Γ : Gm) (F : FT) (s : S) : TS := fun D σ H => ∃ φ st ρ, En Γ φ st H ρ σ ∧ Rl Γ φ st H ∧ eI Γ φ st H (dB F Γ.G s ρ st) D
def B2 (Γ : Gm) (F : FT) (s : List S) : TS := fun D σ H => ∃ φ st ρ, En Γ φ st H ρ σ ∧ Rl Γ φ st H ∧ eI Γ φ st H (bI F Γ.G s ρ st) D
theorem _root_.L2.PS.imp (h : PS X e t) (i : ∀ D σ H, u D σ H → t D σ H) : PS X e u := fun pins s σ H D I q => h _ s σ H D I (i D σ H q)
theorem _root_.L2.fV.imp (h : fV X e t) (i : ∀ D σ H, u D σ H → t D σ H) : fV X e u := fun pins s σ H D I q => h _ s σ H D I (i D σ H q)
section
variable {Γ : Gm} {φ φ1 : List Addr} {st st1 : ae} {H H1 : Hp} {F : FT} {X : Cx}
theorem eI.re (a : eI Γ φ st H r D) (p : Pt Γ φ st H φ1 st1 H1) : eI Γ φ1 st1 H1 r D := by
 cases r with
 | ok w st' => exact fun σ' H' φ' en pt => a _ H' _ en (p.trans pt)
 | _ => exact a
theorem eI.bind {D} (a : eI Γ φ st H (r.bind f) D) :
 Af Γ φ st H r fun v H1 => ∃ w st1 φ1, RW Γ φ1 st1 H1 w v ∧ Pt Γ φ st H φ1 st1 H1 ∧ eI Γ φ1 st1 H1 (f w st1) D := by
 cases r with
 | ok w st' => exact fun v H' φ' rw pt => ⟨w, st', φ', rw, pt, eI.re a pt⟩
 | _ => exact a
theorem C1 : fV X [] (B2 Γ F []) := L2.fV.imp wF fun D σ H ⟨φ, st, ρ, en, rl, af⟩ => af σ H φ en (Pt.refl rl)
theorem AJ {s} {ss} (h : PS X x (tS Γ F s)) (hs : fV X xs (B2 Γ F ss)) : fV X (x :: xs) (B2 Γ F (s :: ss)) := by
 refine L2.fV.imp (ub h hs) ?_
 rintro D σ H ⟨φ, st, ρ, en, rl, af⟩
 refine ⟨φ, st, ρ, en, rl, ?_⟩
 simp only [bI] at af
 cases h1 : dB F _ s ρ st with
 | ok p st1 =>
  rw [h1] at af
  obtain ⟨f, ρ'⟩ := p
  intro σ' H' φ' en' pt
  cases f with
  | nx => exact ⟨φ', st1, ρ', en', pt.rl, eI.re af pt⟩
  | bk => exact af _ H' _ en' pt
  | ct => exact af _ H' _ en' pt
  | rt w => exact af _ H' _ en' pt
 | _ => rw [h1] at af; exact af.elim
theorem zf {tg x} {t} {e} {pos} (h : PE X x (tE Γ F e)) (hg : PG X tg (tG Γ t)) (hs : swapsWithSole [tg] x pos.line X.env = pure false) (hw : swappedStores [tg] x X.env = pure none)
 (h1 : (assignEach [tg] X.env).map (·.2) = [assign tg X.env]) : PS X (.Assign [tg] x pos) (tS Γ F (.asg t e)) := by
 refine L2.PS.imp (nO h hg hs hw h1) ?_
 rintro D σ H ⟨φ, st, ρ, en, rl, af⟩
 refine ⟨φ, st, ρ, en, rl, af.bind.mono fun v H1 ⟨w, st1, φ1, rw1, pt, af1⟩ => ?_⟩
 cases hb : aS t w ρ with
 | none => rw [hb] at af1; exact af1.elim
 | some ρ' =>
  rw [hb] at af1
  exact ⟨φ1, st1, ρ, w, ρ', en.step pt, pt.rl, rw1, hb, fun σ' en' => af1 _ H1 _ en' (Pt.refl pt.rl)⟩
theorem Hr (h : PE X x (tE Γ F e)) (hs : swapsWith x none pos.line X.env = pure false) : PS X (.Expr x pos) (tS Γ F (.ex e)) := by
 refine L2.PS.imp (xv h hs) ?_
 rintro D σ H ⟨φ, st, ρ, en, rl, af⟩
 simp only [dB] at af
 refine ⟨φ, st, ρ, en, rl, ?_⟩
 cases h1 : aj F _ e ρ st with
 | ok w st1 =>
  rw [h1] at af
  intro v H1 φ1 rw1 pt
  have p2 := pt.cut rl.len
  exact af σ H1 _ (en.step p2) p2
 | _ => rw [h1] at af; exact af.elim
theorem Et (h : PE X x (tE Γ F e)) : PS X (.Return (some x) pos) (tS Γ F (.ret e)) := by
 refine L2.PS.imp (zY h) ?_
 rintro D σ H ⟨φ, st, ρ, en, rl, af⟩
 refine ⟨φ, st, ρ, en, rl, af.bind.mono fun v H1 ⟨w, st1, φ1, rw1, pt, af1⟩ => ?_⟩
 exact af1 σ H1 _ (en.step pt) (Pt.refl pt.rl) v rw1
theorem zV : PS X (.Return none pos) (tS Γ F .retN) := L2.PS.imp wz fun D σ H ⟨φ, st, ρ, en, rl, af⟩ => af σ H φ en (Pt.refl rl) _ rfl
theorem As : PS X (.Pass pos) (tS Γ F .pass) := L2.PS.imp wT fun D σ H ⟨φ, st, ρ, en, rl, af⟩ => af σ H φ en (Pt.refl rl)
theorem FM : PS X (.Break pos) (tS Γ F .brk) := L2.PS.imp t5 fun D σ H ⟨φ, st, ρ, en, rl, af⟩ => af σ H φ en (Pt.refl rl)
theorem DB : PS X (.Continue pos) (tS Γ F .cnt) := L2.PS.imp lD fun D σ H ⟨φ, st, ρ, en, rl, af⟩ => af σ H φ en (Pt.refl rl)
theorem F9 {j} {p pos} : PS X (.Expr (.Constant (.str z) j p) pos) (tS Γ F .pass) := L2.PS.imp Cz fun D σ H ⟨φ, st, ρ, en, rl, af⟩ => af σ H φ en (Pt.refl rl)
theorem G1 {sa sb} {pos} (h : PT X x (tT Γ F c)) (ha : fV X a (B2 Γ F sa)) (hb : fV X b (B2 Γ F sb)) : PS X (.If x a b pos) (tS Γ F (.ifs c sa sb)) := by
 refine L2.PS.imp (Ef h ha hb) ?_
 rintro D σ H ⟨φ, st, ρ, en, rl, af⟩
 simp only [dB] at af
 refine ⟨φ, st, ρ, en, rl, ?_⟩
 unfold kE
 cases h1 : aj F _ c ρ st with
 | ok w st1 =>
  rw [h1] at af
  simp only [ak.bind] at af ⊢
  cases h2 : aT w _ with
  | none => simp only [h2] at af; exact af.elim
  | some k =>
   simp only [h2] at af ⊢
   intro H1 φ1 pt
   have p2 := pt.cut rl.len
   cases k with
   | true => exact ⟨_, _, ρ, en.step p2, p2.rl, eI.re af p2⟩
   | false => exact ⟨_, _, ρ, en.step p2, p2.rl, eI.re af p2⟩
 | _ => rw [h1] at af; exact af.elim
theorem EX {tg it : Expr} {body : List Stmt} {t : Tg} {k : Ik} {src : List E} {sb : List S} {pos : Pos} (hp : PassesOwn (model X.prog X.w) X.A X.env X.xe) (hc : X.calm = true) (hi : PI X tg it (tI Γ F k src)) (hg : PG X tg (tG Γ t)) (hb : fV X body (B2 Γ F sb))
 (hs : ∀ x, foldedSetIterable it X.env x = pure x) : PS X (.For tg it body [] pos) (tS Γ F (.for t k src sb)) := by
 refine L2.PS.imp (AS hp hc hi hg hb hs) ?_
 rintro D σ H ⟨φ, st, ρ, en, rl, af⟩
 simp only [dB] at af
 refine ⟨φ, st, ρ, en, rl, ?_⟩
 unfold yu
 cases h1 : a8 F Γ.G src ρ st with
 | ok ws st1 =>
  rw [h1] at af
  simp only [ak.bind] at af ⊢
  cases h2 : items k ws st1 with
  | none => simp only [h2] at af; exact af.elim
  | some q =>
   obtain ⟨xs, gs⟩ := q
   simp only [h2] at af ⊢
   intro J H1 φ1 pt wk
   have af := eI.re af pt
   generalize hstep : (fun (x : T) (ρ : aG) (st : ae) => match aS t (.d x) ρ with | some ρ' => bI F Γ.G sb ρ' st | none => (ak.bad : ak (Fl × aG))) = step at af
   refine ⟨fun i m σ H => m = xs.length - i ∧ i ≤ xs.length ∧ ∃ φ st ρ, En Γ φ st H ρ σ ∧ Pt Γ φ1 st1 H1 φ st H ∧ eI Γ φ st H (aM gs step (xs.drop i) ρ st) D, ⟨xs.length, by simp, Nat.zero_le _, φ1, st1, ρ, en.step pt, Pt.refl pt.rl, by simpa using af⟩, ?_⟩
   rintro i m σ2 H2 ⟨rfl, hi2, φ2, st2, ρ2, en2, pt2, af2⟩
   by_cases hlt : i < xs.length
   · have ed : xs.drop i = xs[i] :: xs.drop (i + 1) := List.drop_eq_getElem_cons hlt
     rw [ed] at af2
     simp only [aM] at af2
     split at af2
     · rename_i hst
       obtain ⟨go, _⟩ := wk φ2 st2 H2 pt2 hst
       obtain ⟨g1, g2⟩ := go i xs[i] (List.getElem?_eq_getElem hlt)
       refine .inr ⟨g1, fun σ' H' => ∃ φ' st' ρ', En Γ φ' st' H' ρ' σ' ∧ Pt Γ φ1 _ H1 _ _ H' ∧ eI Γ _ _ H' _ D, fun σ' H' h' => ⟨_, by omega, rfl, hlt, h'⟩, fun v H3 y => ?_⟩
       obtain ⟨pt3, r3⟩ := g2 v H3 y
       have af3 := eI.re af2 pt3
       rw [← hstep] at af3
       simp only at af3
       cases hbd : aS t _ _ with
       | none => rw [hbd] at af3; exact af3.elim
       | some ρ3 =>
        rw [hbd] at af3
        simp only at af3
        refine ⟨φ2, st2, ρ2, .d _, ρ3, en2.step pt3, pt3.rl, r3, hbd, fun σ3 en3 => ⟨φ2, st2, ρ3, en3, pt3.rl, ?_⟩⟩
        cases h4 : bI F _ sb _ _ with
        | ok p st4 =>
         rw [h4] at af3
         obtain ⟨f, ρ4⟩ := p
         intro σ4 H4 φ4 en4 pt4
         cases f with
         | nx => rw [← hstep]; exact ⟨φ4, st4, ρ4, en4, (pt2.trans pt3).trans pt4, eI.re af3 pt4⟩
         | ct => rw [← hstep]; exact ⟨φ4, st4, ρ4, en4, (pt2.trans pt3).trans pt4, eI.re af3 pt4⟩
         | bk => exact af3 _ H4 _ en4 pt4
         | rt w => exact af3 _ H4 _ en4 pt4
        | _ => rw [h4] at af3; exact af3.elim
     · exact af2.elim
   · have ei : i = xs.length := by omega
     subst ei
     rw [List.drop_length] at af2
     simp only [aM] at af2
     split at af2
     · rename_i hst
       obtain ⟨_, stop⟩ := wk _ _ H2 pt2 hst
       exact .inl ⟨stop, af2 _ H2 _ en2 (Pt.refl pt2.rl)⟩
     · exact af2.elim
 | _ => rw [h1] at af; exact af.elim
end
end I
end
section
namespace I
open PySem L2 PySem.Spec PyProof.Rows
section
variable {Γ : Gm} {F : FT} {X : Cx}
theorem Ih (hN : X.N[i]? = some x) (hv : zw X.env.scope x) (hd : (x == "__debug__") = false) (hcd : (x == "__classdict__") = false) : PE X (.Name x pos) (tE Γ F (.v i)) := by
 refine L2.PE.imp (uK hN hv hd hcd) ?_
 rintro σ H Q ⟨φ, st, ρ, en, rl, af⟩
 simp only [aj] at af
 cases h : ρ[i]? with
 | none => rw [h] at af; exact af.elim
 | some o =>
  cases o with
  | none => rw [h] at af; exact af.elim
  | some w =>
   rw [h] at af
   obtain ⟨v, e, r⟩ := en.at_ i w h
   exact ⟨v, e, af.now rl r⟩
theorem fi {v} {x} (h : PE X x (tC v)) (r : ∀ φ st H, Rp Γ.K (aq φ st) H t v) : PE X x (tE Γ F (.c t)) :=
 L2.PE.imp h fun σ H Q ⟨φ, st, ρ, en, rl, af⟩ => Af.now af rl (r φ st H)
structure FC (Γ : Gm) : Prop where
 gl : ∀ (j : Nat) (x : Str), Γ.gn j = some x → ∃ u v t, Γ.mg x = some u ∧ RelV v u ∧ Γ.G[j]? = some t ∧ ∀ L H, Rp Γ.K L H t v
theorem IR (hG : FC Γ) {j} {x} {pos} (hm : X.mg = Γ.mg) (hg : Gl X x) (hj : Γ.gn j = some x) (hd : (x == "__debug__") = false) : PE X (.Name x pos) (tE Γ F (.g j)) := by
 obtain ⟨u, v, t, h1, h2, h3, h4⟩ := hG.gl j x hj
 refine L2.PE.imp (wj hg (by rw [hm]; exact h1) h2 hd) ?_
 rintro σ H Q ⟨φ, st, ρ, en, rl, af⟩
 simp only [aj, h3] at af
 exact af.now rl (h4 _ _)
theorem yM {φ : List Addr} {st : ae} {H : Hp} {w : W} {v : V} (r : RW Γ φ st H w v) : (match (generalizing := false) w with | .d .non => true | _ => false) = decide (v = V.non) ∧ (match (generalizing := false) w with | .d .non => false | _ => true) = !decide (v = V.non) := by
 cases w with
 | ref k => obtain ⟨a, _, rfl⟩ := r; exact ⟨rfl, rfl⟩
 | d t => cases t <;> first | (cases r; exact ⟨rfl, rfl⟩) | (obtain ⟨_, _, rfl, _⟩ := r; exact ⟨rfl, rfl⟩) | (obtain ⟨_, rfl, _⟩ := r; exact ⟨rfl, rfl⟩)
theorem o7 {e : E} : ∀ σ H Q, tE Γ F (.isN e) σ H Q → BW (fun x y H Q => y = .non ∧ Q (.bl (decide (x = .non))) H) (tE Γ F e) (tC .non) σ H Q := by
 rintro σ H Q ⟨φ, st, ρ, en, rl, af⟩
 simp only [aj] at af
 exact ⟨φ, st, ρ, en, rl, af.bind.mono fun v H1 ⟨w, st1, φ1, rw1, pt, af1⟩ => ⟨rfl, af1.now pt.rl (congrArg V.bl (yM rw1).1.symm)⟩⟩
theorem lZ {e : E} : ∀ σ H Q, tE Γ F (.notN e) σ H Q → BW (fun x y H Q => y = .non ∧ Q (.bl (!decide (x = .non))) H) (tE Γ F e) (tC .non) σ H Q := by
 rintro σ H Q ⟨φ, st, ρ, en, rl, af⟩
 simp only [aj] at af
 exact ⟨φ, st, ρ, en, rl, af.bind.mono fun v H1 ⟨w, st1, φ1, rw1, pt, af1⟩ => ⟨rfl, af1.now pt.rl (congrArg V.bl (yM rw1).2.symm)⟩⟩
theorem Bj {x : Expr} {e : E} {j : Nat} {p pos : Pos} (h : PE X x (tE Γ F e)) : PE X (.Compare x [.Is] [.Constant .none j p] pos) (tE Γ F (.isN e)) := L2.PE.imp (kq uQ h ir (kr _)) o7
theorem yh {x : Expr} {e : E} {j : Nat} {p pos : Pos} (h : PE X x (tE Γ F e)) : PE X (.Compare x [.IsNot] [.Constant .none j p] pos) (tE Γ F (.notN e)) := L2.PE.imp (kq nX h ir (kr _)) lZ
theorem yO (he : ∀ ρ st, ∃ (e' : E) (f : W → Bool), aj F Γ.G e ρ st = (aj F Γ.G e' ρ st).bind fun x st => .ok (.d (.bl (f x))) st) : ∀ ρ st w st', aj F Γ.G e ρ st = .ok w st' → ∃ b, w = .d (.bl b) := by
 intro ρ st w st' h
 obtain ⟨e', f, he⟩ := he ρ st
 rw [he] at h
 cases h1 : aj F _ e' ρ st with
 | ok w1 st1 => rw [h1] at h; cases h; exact ⟨_, rfl⟩
 | _ => rw [h1] at h; cases h
theorem and_imp : ∀ σ H Q, tE Γ F (.and a b) σ H Q → yZ Γ.K (tE Γ F a) (tE Γ F b) σ H Q := by
 rintro σ H Q ⟨φ, st, ρ, en, rl, af⟩
 refine ⟨φ, st, ρ, en, rl, af.bind.mono fun v H1 ⟨w, st1, φ1, rw1, pt, af1⟩ => ?_⟩
 cases h : aT w _ with
 | none => rw [h] at af1; exact af1.elim
 | some k =>
  rw [h] at af1
  refine ⟨k, oO pt.rl rw1 h, ?_⟩
  cases k with
  | true => exact ⟨φ1, st1, ρ, en.step pt, pt.rl, af1⟩
  | false => exact af1.now pt.rl rw1
theorem or_imp : ∀ σ H Q, tE Γ F (.or a b) σ H Q → Fm Γ.K (tE Γ F a) (tE Γ F b) σ H Q := by
 rintro σ H Q ⟨φ, st, ρ, en, rl, af⟩
 refine ⟨φ, st, ρ, en, rl, af.bind.mono fun v H1 ⟨w, st1, φ1, rw1, pt, af1⟩ => ?_⟩
 cases h : aT w _ with
 | none => rw [h] at af1; exact af1.elim
 | some k =>
  rw [h] at af1
  refine ⟨k, oO pt.rl rw1 h, ?_⟩
  cases k with
  | false => exact ⟨φ1, st1, ρ, en.step pt, pt.rl, af1⟩
  | true => exact af1.now pt.rl rw1
theorem wf : ∀ σ H Q, tE Γ F (.not a) σ H Q → zF Γ.K (tE Γ F a) σ H Q := by
 rintro σ H Q ⟨φ, st, ρ, en, rl, af⟩
 refine ⟨φ, st, ρ, en, rl, af.bind.mono fun v H1 ⟨w, st1, φ1, rw1, pt, af1⟩ => ?_⟩
 cases h : aT w _ with
 | none => rw [h] at af1; exact af1.elim
 | some k => rw [h] at af1; exact ⟨k, oO pt.rl rw1 h, af1.now pt.rl rfl⟩
theorem g8 {st} {ts} (h : bY (w :: ws) st = some ts) : ∃ t r, look w st = some t ∧ bY ws st = some r ∧ ts = t :: r := by
 have h : (match look w st, bY ws st with | some t, some ts => some _ | _, _ => none) = some ts := h
 cases h1 : look w st with
 | none => rw [h1] at h; cases h
 | some t =>
  cases h2 : bY ws st with
  | none => simp_all
  | some r => simp_all
def vE (Γ : Gm) (r : List V → Hp → VK → Prop) (f : Bf) : Prop := ∀ φ st H ws vs Q, Rl Γ φ st H → sd Γ φ st H ws vs → Af Γ φ st H (gq f ws st) Q → r vs H Q
theorem eJ (h : vE Γ r f) : ∀ σ H Q, tE Γ F (.bf f es) σ H Q → F4 r (tA Γ F es) σ H Q := by
 rintro σ H Q ⟨φ, st, ρ, en, rl, af⟩
 simp only [aj] at af
 refine ⟨φ, st, ρ, en, rl, ?_⟩
 cases h1 : a8 F _ es ρ st with
 | ok ws st1 =>
  rw [h1] at af
  intro vs H1 φ1 rws pt
  exact h _ _ H1 ws vs Q pt.rl rws (Af.re af pt)
 | _ => rw [h1] at af; exact af.elim
theorem De (hl : ∀ t u, rf f t u = none)
 (h : ∀ φ st H w v t u Q, Rl Γ φ st H → RW Γ φ st H w v → look w st = some t → qT f t = some u → Af Γ φ st H (fresh u st) Q → r [v] H Q) : vE Γ r f := by
 intro φ st H ws vs Q rl rws af
 unfold gq at af
 rcases ws with _ | ⟨w, ws⟩
 · exact af.elim
 cases h1 : bY _ st with
 | none => rw [h1] at af; exact af.elim
 | some ts =>
  rw [h1] at af
  obtain ⟨t, ts, h2, h3, rfl⟩ := g8 h1
  rcases ws with _ | ⟨w', ws⟩
  · cases h3
    obtain ⟨v, rs, rfl, rv, rr⟩ := rws
    cases rr
    have af : Af Γ φ st H (match qT f t with | some t => fresh t st | none => .bad) Q := af
    cases h4 : qT f t with
    | none => rw [h4] at af; exact af.elim
    | some u => rw [h4] at af; exact h φ st H w v t u Q rl rv h2 h4 af
  · obtain ⟨t', ts, _, h5, rfl⟩ := g8 h3
    rcases ts with _ | ⟨_, _⟩
    · have af : Af Γ φ st H (match rf f t t' with | some t => fresh t st | none => .bad) Q := af
      rw [hl] at af
      exact af.elim
    · exact af.elim
theorem Jn (hl : ∀ t, qT f t = none)
 (h : ∀ φ st H w v t w' v' t' u Q, Rl Γ φ st H → RW Γ φ st H w v → look w st = some t → RW Γ φ st H w' v' → look w' st = some t' → rf f t t' = some u → Af Γ φ st H (fresh u st) Q → r [v, v'] H Q) : vE Γ r f := by
 intro φ st H ws vs Q rl rws af
 unfold gq at af
 rcases ws with _ | ⟨w, ws⟩
 · exact af.elim
 cases h1 : bY _ st with
 | none => rw [h1] at af; exact af.elim
 | some ts =>
  rw [h1] at af
  obtain ⟨t, ts, h2, h3, rfl⟩ := g8 h1
  rcases ws with _ | ⟨w', ws⟩
  · cases h3
    have af : Af Γ φ st H (match qT f t with | some t => fresh t st | none => .bad) Q := af
    rw [hl] at af
    exact af.elim
  · obtain ⟨t', ts, h4, h5, rfl⟩ := g8 h3
    rcases ws with _ | ⟨w'', ws⟩
    · cases h5
      obtain ⟨v, rs, rfl, rv, v', rs', rfl, rv', rr⟩ := rws
      cases rr
      have af : Af Γ φ st H (match rf f t t' with | some t => fresh t st | none => .bad) Q := af
      cases h6 : rf f t t' with
      | none => rw [h6] at af; exact af.elim
      | some u => rw [h6] at af; exact h φ st H w v t w' v' t' u Q rl rv h2 rv' h4 h6 af
    · obtain ⟨t'', ts, _, _, rfl⟩ := g8 h5
      exact af.elim
def ze (K : PySem.W.Frag) : List V → Hp → VK → Prop := fun xs H Q => yz K xs H Q ∨ ∃ z, xs = [.str z] ∧ z.length ≤ sizeLine ∧ Q (.int z.length) H
theorem EV (hK : X.K = Γ.K) : bp X (.builtin "len") (ze Γ.K) := (u7 hK).or jB
theorem EJ : vE Γ (ze Γ.K) .len := De (fun _ _ => rfl) fun φ st H w v t u Q rl rw1 h1 h2 af => by
 cases t with
 | tup xs =>
  cases h2
  obtain ⟨a, vs, rfl, q1, r1⟩ := rw1.tup rl h1
  refine .inl ⟨a, vs, rfl, .inr q1, ?_⟩
  rw [r1.length]
  exact Af.now af rl rfl
 | lst xs =>
  cases h2
  obtain ⟨a, vs, rfl, q1, r1⟩ := rw1.lst rl h1
  refine .inl ⟨a, vs, rfl, .inl q1, ?_⟩
  rw [r1.length]
  exact Af.now af rl rfl
 | str z =>
  obtain ⟨hz, rfl⟩ := aE h2
  exact .inr ⟨z, by rw [rw1.str rl h1], Nat.le_trans hz bb, Af.now af rl rfl⟩
 | _ => cases h2
theorem xZ : vE Γ (lW Γ.K) .tuple := De (fun _ _ => rfl) fun φ st H w v t u Q rl rw1 h1 h2 af => by
 cases t with
 | tup xs =>
  cases h2
  obtain ⟨a, vs, rfl, q1, r1⟩ := rw1.tup rl h1
  refine ⟨a, vs, rfl, .inr ⟨q1, ?_⟩⟩
  rcases rw1.look rl h1 with q | ⟨_, _, _, _, _, e2, _⟩
  · exact Af.now af rl q
  · cases e2
 | lst xs =>
  cases h2
  obtain ⟨a, vs, rfl, q1, r1⟩ := rw1.lst rl h1
  exact ⟨a, vs, rfl, .inl ⟨q1, Af.tup af rl r1⟩⟩
 | _ => cases h2
def y6 : List V → Hp → VK → Prop := fun xs H Q => (∃ i, xs = [.int i] ∧ Q (.int i) H) ∨ ∃ k, xs = [.bl k] ∧ Q (.int (if k then 1 else 0)) H
theorem Dv : bp X (.type "int") y6 := qj
theorem FI : vE Γ y6 .int := De (fun _ _ => rfl) fun φ st H w v t u Q rl rw1 h1 h2 af => by
 cases t with
 | int i => cases h2; exact .inl ⟨i, by rw [rw1.int rl h1], Af.now af rl rfl⟩
 | bl k => cases h2; exact .inr ⟨k, by rw [rw1.bl rl h1], Af.now af rl rfl⟩
 | _ => cases h2
theorem DN : vE Γ (rG Γ.K) .all := De (fun _ _ => rfl) fun φ st H w v t u Q rl rw1 h1 h2 af => by
 cases t with
 | lst xs =>
  have bl : ∀ (xs : List T) (bs : List _), iR xs = some bs → xs = bs.map T.bl := by
   intro xs
   induction xs with
   | nil => intro bs h; cases h; rfl
   | cons x xs ih =>
    intro bs h
    cases x with
    | bl b =>
     simp only [iR] at h
     cases q : iR xs with
     | none => rw [q] at h; cases h
     | some cs => rw [q] at h; cases h; rw [ih cs q]; rfl
    | _ => cases h
  change ((iR xs).map fun bs => T.bl _) = _ at h2
  cases h3 : iR xs with
  | none => rw [h3] at h2; cases h2
  | some bs =>
   rw [h3] at h2
   cases h2
   cases bl xs bs h3
   obtain ⟨a, vs, rfl, q1, r1⟩ := rw1.lst rl h1
   cases aA.bls r1
   exact ⟨a, bs, rfl, q1, Af.now af rl rfl⟩
 | _ => cases h2
theorem cW : ∀ {xs} {ns}, aK xs = some ns → xs = ns.map T.int
 | [], ns, h => by cases h; rfl
 | x :: xs, ns, h => by
  cases x with
  | int i =>
   have h : (aK xs).map _ = some ns := h
   cases q : aK xs with
   | none => rw [q] at h; cases h
   | some ms => rw [q] at h; cases h; rw [cW q]; rfl
  | _ => cases h
theorem aA.ints_eq {K} {L} {H} : ∀ {ns : List _} {vs}, aA K L H (ns.map T.int) vs → vs = ns.map V.int
 | [], _, r => r
 | n :: ns, _, r => by
  obtain ⟨v, rs, rfl, r1, r2⟩ := r
  rw [r1, aA.ints_eq r2]; rfl
theorem cb (y : Int) : ∀ ns, y ∈ eT ns ↔ y ∈ ns
 | [] => Iff.rfl
 | x :: r => by
  have ins : ∀ l, y ∈ insI x l ↔ y = x ∨ y ∈ l := by
   intro l
   induction l with
   | nil => exact List.mem_singleton.trans (by simp)
   | cons z r ih =>
    unfold insI
    split
    · exact List.mem_cons
    · split
      · next h => rw [h]; simp
      · rw [List.mem_cons, ih, List.mem_cons]
        exact ⟨fun h => h.elim (fun e => .inr (.inl e)) fun h => h.elim .inl fun h => .inr (.inr h), fun h => h.elim (fun e => .inr (.inl e)) fun h => h.elim .inl fun h => .inr (.inr h)⟩
  show y ∈ insI x _ ↔ _
  rw [ins, cb y r, List.mem_cons]
theorem lL (x y : Int) : ∀ l, y ∈ insI x l → y = x ∨ y ∈ l
 | [], h => .inl (List.mem_singleton.mp h)
 | z :: r, h => by
  unfold insI at h
  split at h
  · grind
  · split at h
    · exact .inr h
    · rcases List.mem_cons.mp h with e | h
      · grind
      · exact (lL x y r h).imp_right (List.mem_cons_of_mem _)
theorem jm (x : Int) : ∀ l, l.Pairwise (· < ·) → (insI x l).Pairwise (· < ·)
 | [], _ => List.pairwise_singleton _ _
 | z :: r, h => by
  unfold insI
  have h' := List.pairwise_cons.mp h
  split
  · next q =>
    refine List.pairwise_cons.mpr ⟨fun y hy => ?_, h⟩
    rcases List.mem_cons.mp hy with e | e
    · rw [e]; exact q
    · exact Int.lt_trans q (h'.1 y e)
  · split
    · exact h
    · refine List.pairwise_cons.mpr ⟨fun y hy => ?_, jm x r h'.2⟩
      rcases lL x y r hy with e | e
      · omega
      · exact h'.1 y e
theorem bT : ∀ ns, (eT ns).Pairwise (· < ·)
 | [] => .nil
 | x :: r => jm x _ (bT r)
theorem F8 {a} {p1 p2 q1 q2} (hK : X.K = Γ.K) (hr : X.A.handled = none) (hg1 : Gl X "sorted") (hg2 : Gl X "set") (hm1 : X.mg "sorted" = none) (hm2 : X.mg "set" = none) (hx : starEach [x] X.env = [(false, eval x X.env)]) (h : PE X x (tE Γ F a)) : PE X (.Call (.Name "sorted" p1) [.Call (.Name "set" p2) [x] [] q2] [] q1) (tE Γ F (.ss a)) := by
 refine L2.PE.imp (mH hr hg1 hg2 hm1 hm2 h hx) ?_
 rintro σ H Q ⟨φ, st, ρ, en, rl, af⟩
 refine ⟨φ, st, ρ, en, rl, af.bind.mono fun v H1 hh => ?_⟩
 obtain ⟨w, st1, φ1, rw1, pt, af1⟩ := hh
 unfold Gz at af1
 cases h2 : look w _ with
 | none => rw [h2] at af1; exact af1.elim
 | some t =>
  rw [h2] at af1
  cases t with
  | lst xs =>
   have af2 : Af Γ _ _ H1 (match aK xs with | some ns => if ns.length < 63 then fresh _ _ else .bad | none => .bad) Q := af1
   cases h3 : aK xs with
   | none => rw [h3] at af2; exact af2.elim
   | some ns =>
    rw [h3] at af2
    have af3 : Af Γ _ _ H1 (if ns.length < 63 then fresh _ _ else .bad) Q := af2
    by_cases hz : ns.length < 63
    · rw [if_pos hz] at af3
      cases cW h3
      obtain ⟨b, vs, rfl, q, r⟩ := rw1.lst pt.rl h2
      cases aA.ints_eq r
      exact ⟨b, ns, _, rfl, by rw [hK]; exact q, hz, bT ns, fun y => cb y ns, Af.lst af3 pt.rl (aA.ofInts _)⟩
    · rw [if_neg hz] at af3
      exact af3.elim
  | _ => exact af1.elim
theorem Eg : vE Γ (yJ Γ.K) .sum := De (fun _ _ => rfl) fun φ st H w v t u Q rl rw1 h1 h2 af => by
 cases t with
 | lst xs =>
  have h2 : (aK xs).map _ = some u := h2
  cases q : aK xs with
  | none => rw [q] at h2; cases h2
  | some ns =>
   rw [q] at h2
   cases h2
   cases cW q
   obtain ⟨a, vs, rfl, q1, r1⟩ := rw1.lst rl h1
   cases aA.ints_eq r1
   exact ⟨a, ns, rfl, q1, Af.now af rl rfl⟩
 | _ => cases h2
theorem Cu : vE Γ (fun xs H Q => ∃ i j, xs = [.int i, .int j] ∧ Q (.int (if j < i then j else i)) H) .min2 := Jn (fun _ => rfl) fun φ st H w v t w' v' t' u Q rl rw1 h1 rw2 h2 h3 af => by
 cases t with
 | int i =>
  cases t' with
  | int j =>
   cases h3
   exact ⟨i, j, by rw [rw1.int rl h1, rw2.int rl h2], Af.now af rl rfl⟩
  | _ => cases h3
 | _ => cases h3
theorem BS : vE Γ (fun xs H Q => ∃ i j, xs = [.int i, .int j] ∧ Q (.int (if j > i then j else i)) H) .max2 := Jn (fun _ => rfl) fun φ st H w v t w' v' t' u Q rl rw1 h1 rw2 h2 h3 af => by
 cases t with
 | int i =>
  cases t' with
  | int j =>
   cases h3
   exact ⟨i, j, by rw [rw1.int rl h1, rw2.int rl h2], Af.now af rl rfl⟩
  | _ => cases h3
 | _ => cases h3
end
end I
end
section
namespace I
open PySem L2 PySem.Spec PyProof.Rows
section
variable {Γ : Gm} {F : FT} {X : Cx}
def GD (Γ : Gm) (r : V → List V → Hp → VK → Prop) (m : Mt) : Prop := ∀ (φ : List Addr) (st : ae) (H : Hp) (k : Nat) (a : Addr) (xs ys ts : List T) (t : T) (vs us : List V) (Q : VK), Rl Γ φ st H → φ[k]? = some a → st[k]? = some (some xs) → H a = some (.lst vs) → aA Γ.K (aq φ st) H xs vs → aA Γ.K (aq φ st) H ts us →
 vM m xs ts = some (ys, t) → Af Γ φ st H (.ok (.d t) (st.set k (some ys))) Q → r (.ref a) us H Q
theorem Af.write {st} {H} {k} {a} {xs ys} {ws} {t} {v} {Q} (af : Af Γ φ st H (.ok (.d t) (st.set k (some ys))) Q) (rl : Rl Γ φ st H) (e1 : φ[k]? = some a) (e2 : st[k]? = some (some xs)) (r : aA Γ.K (aq φ st) H ys ws)
 (rt : Rp Γ.K (aq φ (st.set k (some ys))) (bB H a (.lst ws)) t v) : Q v (bB H a (.lst ws)) := af v _ φ rt (rl.write (vs := []) e1 e2 r)
theorem tJ : GD Γ pG .append := fun φ st H k a xs ys ts t vs us Q rl e1 e2 h r rs hm af => by
 match ts, hm with
 | [x], hm =>
  obtain ⟨hz, e⟩ := aE hm
  cases e
  obtain ⟨u, rr, rfl, ru, rn⟩ := rs
  cases rn
  exact ⟨a, vs, u, rfl, rfl, h, by rw [r.length]; exact Nat.lt_of_lt_of_le hz bb, af.write rl e1 e2 (r.append (.one ru)) rfl⟩
 | [], hm => cases hm
 | _ :: _ :: _, hm => cases hm
theorem qk : GD Γ kG .reverse := fun φ st H k a xs ys ts t vs us Q rl e1 e2 h r rs hm af => by
 match ts, hm with
 | [], hm =>
  cases hm
  cases rs
  exact ⟨a, vs, rfl, rfl, h, af.write rl e1 e2 r.reverse rfl⟩
 | _ :: _, hm => cases hm
theorem vN {r : V → List V → Hp → VK → Prop} {m : Mt} {o : E} {es : List E} (hm : GD Γ r m) (hj : ∀ t ts, xU m t ts = none) : ∀ σ H Q, tE Γ F (.meth m o es) σ H Q → FU Γ.K "list" r (tE Γ F o) (tD Γ F es) σ H Q := by
 rintro σ H Q ⟨φ, st, ρ, en, rl, af⟩
 simp only [aj] at af
 refine ⟨φ, st, ρ, en, rl, af.bind.mono fun v H1 ⟨w, st1, φ1, rw1, pt, af1⟩ => ?_⟩
 split at af1
 · exact af1.elim
 rename_i hl
 cases w with
 | d t =>
  cases h2 : cT F Γ.G es ρ st1 with
  | ok ts st2 => rw [h2] at af1; simp only [ak.bind, hj] at af1; exact af1.elim
  | _ => rw [h2] at af1; exact af1.elim
 | ref k =>
  cases h1 : look (.ref k) st1 with
  | none => simp_all
  | some t =>
   have : ∃ xs, t = .lst xs := by
    unfold look at h1
    simp only at h1
    split at h1
    · cases h1; exact ⟨_, rfl⟩
    · cases h1
   obtain ⟨xs0, rfl⟩ := this
   obtain ⟨a, vs, rfl, q1, r1⟩ := rw1.lst pt.rl h1
   refine ⟨.inl ⟨rfl, vs, q1⟩, φ1, st1, ρ, en.step pt, pt.rl, ?_⟩
   cases h2 : cT F Γ.G es ρ st1 with
   | ok ts st2 =>
    rw [h2] at af1
    intro us H2 φ2 rs pt2
    have af2 := Af.re af1 pt2
    simp only [ak.bind] at af2
    cases h3 : st2[k]? with
    | none => simp only [h3] at af2; exact af2.elim
    | some o =>
     cases o with
     | none => simp only [h3] at af2; exact af2.elim
     | some xs =>
      simp only [h3] at af2
      cases h4 : vM m xs ts with
      | none => simp only [h4] at af2; exact af2.elim
      | some p =>
       obtain ⟨ys, t⟩ := p
       simp only [h4] at af2
       obtain ⟨b, e, eb⟩ := rw1
       cases eb
       have e2 := pt2.pre k a e
       obtain ⟨ws, h5, r5⟩ := pt2.rl.at_ k xs a e2 h3
       exact hm φ2 st2 H2 k a xs ys ts t ws us Q pt2.rl e2 h3 h5 r5 rs h4 af2
   | _ => rw [h2] at af1; exact af1.elim
theorem sA (hm : GD Γ r m) (hj : ∀ t ts, xU m t ts = none) : ∀ σ H Q, tE Γ F (.meth m o []) σ H Q → Cg Γ.K "list" r (tE Γ F o) σ H Q := by
 rintro σ H Q ⟨φ, st, ρ, en, rl, af⟩
 refine ⟨φ, st, ρ, en, rl, af.bind.mono fun v H1 ⟨w, st1, φ1, rw1, pt, af1⟩ => ?_⟩
 split at af1
 · exact af1.elim
 simp only [cT, ak.bind] at af1
 cases w with
 | d t => simp only [hj] at af1; exact af1.elim
 | ref k =>
  cases h3 : st1[k]? with
  | none => simp only [h3] at af1; exact af1.elim
  | some o =>
   cases o with
   | none => simp only [h3] at af1; exact af1.elim
   | some xs =>
    simp only [h3] at af1
    cases h4 : vM m xs [] with
    | none => simp only [h4] at af1; exact af1.elim
    | some p =>
     obtain ⟨ys, t⟩ := p
     simp only [h4] at af1
     obtain ⟨a, e, rfl⟩ := rw1
     obtain ⟨ws, h5, r5⟩ := pt.rl.at_ k xs a e h3
     exact ⟨.inl ⟨rfl, ws, cF.of h5⟩, hm _ _ H1 k a xs ys [] t ws [] Q pt.rl e h3 h5 r5 .nil h4 af1⟩
theorem kJ : ∀ {xs} {ys}, dq xs = some ys → xs = ys.map T.str
 | [], _, h => by cases h; rfl
 | .str x :: xs, ys, h => by
  simp only [dq] at h
  cases q : dq xs with
  | none => rw [q] at h; cases h
  | some zs => rw [q] at h; cases h; rw [kJ q]; rfl
 | .non :: _, _, h => by cases h
 | .bl _ :: _, _, h => by cases h
 | .int _ :: _, _, h => by cases h
 | .tup _ :: _, _, h => by cases h
 | .lst _ :: _, _, h => by cases h
def sT (K : PySem.W.Frag) : V → List V → Hp → VK → Prop := fun x vs H Q => yH K x vs H Q ∨ uh K x vs H Q
theorem Aj (hK : X.K = Γ.K) : sR X "str.join" (sT Γ.K) := by rw [← hK]; exact wG.or ua
theorem uq (h3 : xU .join t ts = some u) : ∃ sep zs ys, t = .str sep ∧ (ts = [.lst zs] ∨ ts = [.tup zs]) ∧ dq zs = some ys ∧ (ys.map (·.length)).sum + ys.length * sep.length ≤ aZ ∧ u = .str (Txt.join sep ys) := by
 cases t with
 | str sep =>
  match ts, h3 with
  | [.lst zs], h3 =>
   simp only [xU] at h3
   cases q : dq zs with
   | none => simp_all
   | some ys => simp_all
  | [.tup zs], h3 =>
   simp only [xU] at h3
   cases q : dq zs with
   | none => simp_all
   | some ys => simp_all
  | [], h3 => cases h3
  | [.non], h3 => cases h3
  | [.bl _], h3 => cases h3
  | [.int _], h3 => cases h3
  | [.str _], h3 => cases h3
  | .non :: _ :: _, h3 => cases h3
  | .bl _ :: _ :: _, h3 => cases h3
  | .int _ :: _ :: _, h3 => cases h3
  | .str _ :: _ :: _, h3 => cases h3
  | .tup _ :: _ :: _, h3 => cases h3
  | .lst _ :: _ :: _, h3 => cases h3
 | _ => cases h3
theorem uP : ∀ σ H Q, tE Γ F (.meth .join o [e]) σ H Q → FU Γ.K "str" (sT Γ.K) (tE Γ F o) (tD Γ F [e]) σ H Q := by
 rintro σ H Q ⟨φ, st, ρ, en, rl, af⟩
 refine ⟨φ, st, ρ, en, rl, af.bind.mono fun v H1 ⟨w, st1, φ1, rw1, pt, af1⟩ => ?_⟩
 split at af1
 · exact af1.elim
 cases h2 : cT F _ _ ρ _ with
 | ok ts st2 =>
  rw [h2] at af1
  simp only [ak.bind] at af1
  cases w with
  | ref k =>
   cases h3 : st2[k]? with
   | none => simp only [h3] at af1; exact af1.elim
   | some o =>
    cases o with
    | none => simp only [h3] at af1; exact af1.elim
    | some xs => simp only [h3] at af1; cases ts <;> exact af1.elim
  | d t =>
   cases h3 : xU .join t ts with
   | none => simp only [h3] at af1; exact af1.elim
   | some u =>
    simp only [h3] at af1
    obtain ⟨sep, zs, ys, rfl, hk, hs, hz, rfl⟩ := uq h3
    cases rw1
    have hL : aZ ≤ 16777216 := by decide
    refine ⟨rfl, φ1, st1, ρ, en.step pt, pt.rl, ?_⟩
    rw [h2]
    intro vs H2 φ2 rs pt2
    have af2 := Af.re af1 pt2
    cases kJ hs
    rcases hk with rfl | rfl
    · obtain ⟨u, rr, rfl, ru, rn⟩ := rs
      cases show rr = [] from rn
      obtain ⟨a, us, rfl, h5, h6⟩ := ru
      cases aA.strs h6
      exact .inl ⟨sep, a, ys, rfl, rfl, h5.sq, Nat.le_trans hz hL, af2.now pt2.rl rfl⟩
    · obtain ⟨u, rr, rfl, ru, rn⟩ := rs
      cases show rr = [] from rn
      obtain ⟨a, us, rfl, h5, h6⟩ := ru
      cases aA.strs h6
      exact .inr ⟨sep, a, ys, rfl, rfl, h5.sq, Nat.le_trans hz hL, af2.now pt2.rl rfl⟩
 | _ => rw [h2] at af1; exact af1.elim
def tF (Γ : Gm) (F : FT) (es : List E) : TT := fun σ H Q => ∃ φ st ρ, En Γ φ st H ρ σ ∧ Rl Γ φ st H ∧ iM Γ φ st H (bA F Γ.G es ρ st) Q
theorem _root_.L2.PF.imp (h : PF X es t) (i : ∀ σ H Q, u σ H Q → t σ H Q) : PF X es u := fun pins s σ H Q I q => h _ s σ H Q I (i σ H Q q)
theorem DC : PF X [] (tF Γ F []) := L2.PF.imp AE fun σ H Q ⟨φ, st, ρ, en, rl, af⟩ => af.now rl
theorem mT {ρ} {st} : bA F G (e :: es) ρ st = (kE F G e ρ st).bind fun c st => if c then bA F G es ρ st else .ok false st := by
 unfold kE
 simp only [bA]
 cases aj F G e ρ st with
 | ok w st' =>
  simp only [ak.bind]
  cases h : aT w _ with
  | none => rfl
  | some c => cases c <;> rfl
 | _ => rfl
theorem Ae {e} {es} (h : PT X x (tT Γ F e)) (hs : PF X xs (tF Γ F es)) : PF X (x :: xs) (tF Γ F (e :: es)) := by
 refine L2.PF.imp (xa h hs) ?_
 rintro σ H Q ⟨φ, st, ρ, en, rl, af⟩
 rw [mT] at af
 refine ⟨φ, st, ρ, en, rl, af.bindB.mono fun c H1 ⟨st1, φ1, pt, af1⟩ => ?_⟩
 cases c with
 | true => exact ⟨φ1, st1, ρ, en.step pt, pt.rl, af1⟩
 | false => exact af1.now pt.rl
def Tg.slots : Tg → List Nat
 | .nm i => [i]
 | .tp is => is
 | .nt i is => i :: is
def ma (Γ : Gm) (t : Tg) : TG := fun v σ H Q => ∃ φ st ρ w ρ', En Γ φ st H ρ σ ∧ Rl Γ φ st H ∧ RW Γ φ st H w v ∧ aS t w ρ = some ρ' ∧ (∀ i ∈ t.slots, σ[i]? = some none) ∧ t.slots.Nodup ∧ ∀ σ', En Γ φ st H ρ' σ' → L2.Sub σ σ' → Q σ' H
theorem xX (hN : X.N.Nodup) (hi : X.N[i]? = some x) (hx : Loc X.env.scope x) (hf : X.fn x = true ∨ X.env.scope.names.lookup x = some .local) : PG X (.Name x pos) (ma Γ (.nm i)) := by
 refine L2.PG.imp (gE hN hi hx hf) ?_
 rintro v σ H Q ⟨φ, st, ρ, w, ρ', en, rl, rw1, hb, hs, _, q⟩
 obtain ⟨_, rfl⟩ := aE hb
 exact q _ (en.set rw1) (Sub.set (hs i (List.mem_singleton.mpr rfl)))
theorem iy {st} {H} {Q} : ∀ {is} {xs} {vs} {ρ} {σ}, is.length = xs.length → aA Γ.K (aq φ st) H xs vs → En Γ φ st H ρ σ → (∀ i ∈ is, σ[i]? = some none) → is.Nodup →
 (∀ σ', En Γ φ st H ((is.zip xs).foldl (fun ρ p => ρ.set p.1 (some (.d p.2))) ρ) σ' → L2.Sub σ σ' → Q σ' H) → jM is vs σ H Q
 | [], [], vs, ρ, σ, _, r, en, _, _, q => ⟨r, q σ en (L2.Sub.refl _)⟩
 | i :: is, x :: xs, vs, ρ, σ, hl, r, en, hs, hn, q => by
  obtain ⟨v, rs, rfl, r1, r2⟩ := r
  refine ⟨v, rs, rfl, ?_⟩
  have s1 : L2.Sub σ (σ.set i (some v)) := Sub.set (hs i List.mem_cons_self)
  refine iy (by simpa using hl) r2 (en.set (w := .d x) r1) (fun j hj => ?_) (List.nodup_cons.mp hn).2 fun σ' en' s' => q _ en' (s1.trans s')
  grind
 | [], _ :: _, _, _, _, hl, _, _, _, _, _ => by simp at hl
 | _ :: _, [], _, _, _, hl, _, _, _, _, _ => by simp at hl
theorem Bw {pos} (hK : X.K = Γ.K) (hc : X.calm = true) (hN : X.N.Nodup) (h : mo X is es) : PG X (.Tuple es k pos) (ma Γ (.tp is)) := by
 obtain ⟨a, b, c⟩ := iF hN h
 refine L2.PG.imp (oD hK hc a b c) ?_
 rintro v σ H Q ⟨φ, st, ρ, w, ρ', en, rl, rw1, hb, hs, hn, q⟩
 cases w with
 | ref k => cases hb
 | d t =>
  cases t with
  | tup xs =>
   obtain ⟨⟨h1, h2⟩, rfl⟩ := aE hb
   obtain ⟨p, vs, rfl, h3, h4⟩ := rw1
   exact ⟨p, vs, rfl, h3.sq, by rw [h4.length, h1], iy h1 h4 en hs hn q⟩
  | _ => cases hb
theorem En.pick {st} {H} {ρ} {σ} (ix : List _) (en : En Γ φ st H ρ σ) : En Γ φ st H (bo ix ρ) (L2.aY ix σ) := by
 refine ⟨by simp [bo, L2.aY], fun i w h => ?_⟩
 unfold bo at h
 unfold L2.aY
 rw [List.getElem?_map] at h ⊢
 cases q : ix[i]? with
 | none => rw [q] at h; cases h
 | some o =>
  rw [q] at h
  cases o with
  | none => cases h
  | some j =>
   simp only [Option.map_some, Option.some.injEq] at h ⊢
   cases q2 : ρ[j]? with
   | none => rw [q2] at h; cases h
   | some o2 =>
    rw [q2] at h
    subst h
    obtain ⟨v, e, r⟩ := en.at_ j w q2
    simp_all
def aW (F : FT) (G : List T) (ix : List (Option Nat)) (tg : Tg) (ifs : List E) (el : E) (ρ : aG) : T → ae → ak (Option T) := fun x st => match aS tg (.d x) (bo ix ρ) with
 | some ρ' => (bA F G ifs ρ' st).bind fun b st' => if b then (aj F G el ρ' st').bind fun w st' => (aJ st.length w st').bind fun t st => .ok (some t) st else .ok none (st'.take st.length)
 | none => .bad
theorem pO {ix : List (Option Nat)} {tg : Tg} {ifs : List E} {el : E} {ρ : aG} {σ : L2.St} {φ} {st} {H} {x} {v} {N : Option V → Hp → Prop} {o} {st'} (en : En Γ φ st H ρ σ) (rl : Rl Γ φ st H) (rx : Rp Γ.K (aq φ st) H x v)
 (hs : ∀ i ∈ tg.slots, ix[i]? = some none) (hn : tg.slots.Nodup) (hstep : aW F Γ.G ix tg ifs el ρ x st = .ok o st')
 (h : match o with
  | some t => ∀ u H' φ', Rp Γ.K (aq φ' st') H' t u → Pt Γ φ st H φ' st' H' → N (some u) H'
  | none => ∀ H' φ', Pt Γ φ st H φ' st' H' → N none H') :
 ma Γ tg v (L2.aY ix σ) H fun σ2 H3 => L2.Sub (L2.aY ix σ) σ2 ∧ tF Γ F ifs σ2 H3 fun ok H4 => if ok = true then tE Γ F el σ2 H4 fun y H5 => N (some y) H5 else N none H4 := by
 unfold aW at hstep
 cases hb : aS tg _ _ with
 | none => rw [hb] at hstep; cases hstep
 | some ρ' =>
  rw [hb] at hstep
  simp only at hstep
  refine ⟨φ, st, _, .d x, ρ', en.pick ix, rl, rx, hb, fun i hi => ?_, hn, fun σ2 en2 sub => ⟨sub, φ, st, ρ', en2, rl, ?_⟩⟩
  · unfold L2.aY
    simp_all
  · cases h1 : bA F _ _ _ st with
    | ok b st1 =>
     rw [h1] at hstep
     simp only [ak.bind] at hstep
     intro H4 φ4 pt4
     cases b with
     | true =>
      refine ⟨φ4, st1, ρ', en2.step pt4, pt4.rl, ?_⟩
      cases h2 : aj F _ el _ _ with
      | ok w st2 =>
       rw [h2] at hstep
       simp only at hstep
       intro u H5 φ5 rw5 pt5
       cases h3 : aJ _ w _ with
       | ok t st3 =>
        rw [h3] at hstep
        cases hstep
        obtain ⟨φ6, p6, r6⟩ := hV rl.len (pt4.trans pt5) rw5 h3
        exact h u H5 _ r6 p6
       | _ => simp_all
      | _ => simp_all
     | false =>
      cases hstep
      exact h H4 _ (pt4.cut rl.len)
    | _ => rw [h1] at hstep; cases hstep
theorem fZ {step} : ∀ {xs acc ts} {st st'}, aa gs step xs acc st = .ok ts st' → acc <+: ts
 | [], acc, ts, st, st', h => by
  simp only [aa] at h
  grind
 | x :: xs, acc, ts, st, st', h => by
  simp only [aa] at h
  split at h
  · cases hs : step x st with
    | ok o st2 =>
     rw [hs] at h
     cases o with
     | none => exact fZ h
     | some t => exact (List.prefix_append _ _).trans (fZ h)
    | exc c fs st2 => rw [hs] at h; cases h
    | bad => rw [hs] at h; cases h
  · cases h
theorem f9 {OkL : List V → Prop} {ix : List (Option Nat)} {tg : Tg} {ifs : List E} {el : E} {ρ : aG} {σ : L2.St} {φ1 : List Addr} {st1 : ae} {H1 : Hp} {J : L2.It} {xs : List T} {gs : List (Nat × List T)} {ts acc0 : List T} {vs0 : List V} {st' : ae} {Q : List V → Hp → Prop} (en : En Γ φ1 st1 H1 ρ σ) (rl : Rl Γ φ1 st1 H1) (wk : Wk Γ J xs gs φ1 st1 H1) (r0 : aA Γ.K (aq φ1 st1) H1 acc0 vs0)
 (hs : ∀ i ∈ tg.slots, ix[i]? = some none) (hn : tg.slots.Nodup) (hz : xs.length + acc0.length ≤ aZ) (hc : aa gs (aW F Γ.G ix tg ifs el ρ) xs acc0 st1 = .ok ts st')
 (hQ : ∀ vs H' φ', aA Γ.K (aq φ' st') H' ts vs → Pt Γ φ1 st1 H1 φ' st' H' → Q vs H')
 (hO : ∀ acc ys φ st H, acc <+: ts → aA Γ.K (aq φ st) H acc ys → OkL ys) :
 fK OkL (fun ys => ys.length ≤ sizeLine) (fun ys => ys.length < sizeLine) (CP (tE Γ F el)) vs0 J (L2.aY ix σ) (ma Γ tg) (tF Γ F ifs) Q H1 := by
 have hL := bb
 have l0 := r0.length
 refine ⟨fun i m ys H => m = xs.length - i ∧ i ≤ xs.length ∧ ys.length ≤ acc0.length + i ∧ ∃ φ st acc, Pt Γ φ1 st1 H1 φ st H ∧ aA Γ.K (aq φ st) H acc ys ∧ aa gs (aW F Γ.G ix tg ifs el ρ) (xs.drop i) acc st = .ok ts st', ⟨xs.length, by simp, Nat.zero_le _, by omega, φ1, st1, acc0, Pt.refl rl, r0, by simpa using hc⟩, (fun i m ys H w => by obtain ⟨_, _, _, φ, st, acc, _, r, hev⟩ := w; exact hO acc ys φ st H (fZ hev) r), ?_⟩
 rintro i m ys H ⟨rfl, hi, hy, φ, st, acc, pt, r, hev⟩
 by_cases hlt : i < xs.length
 · rw [List.drop_eq_getElem_cons hlt] at hev
   simp only [aa] at hev
   split at hev
   · rename_i hst
     obtain ⟨go, _⟩ := wk φ st H pt hst
     obtain ⟨g1, g2⟩ := go i xs[i] (List.getElem?_eq_getElem hlt)
     refine .inr ⟨g1, by omega, fun ys' H' => ys'.length ≤ acc0.length + (i + 1) ∧ ∃ φ' st2 acc', Pt Γ φ1 st1 H1 φ' st2 H' ∧ aA Γ.K (aq φ' st2) H' acc' ys' ∧ aa gs (aW F Γ.G ix tg ifs el ρ) (xs.drop (i + 1)) acc' st2 = .ok ts st', fun ys' H' h' => ⟨xs.length - (i + 1), by omega, rfl, hlt, h'.1, h'.2⟩, fun v H3 y => ?_⟩
     obtain ⟨pt3, r3⟩ := g2 v H3 y
     cases hstep : aW F Γ.G ix tg ifs el ρ xs[i] st with
     | ok o st2 =>
      rw [hstep] at hev
      refine pO (N := fun o H' => match o with
       | some y => (ys ++ [y]).length ≤ acc0.length + (i + 1) ∧ ∃ φ' st2 acc', Pt Γ φ1 st1 H1 φ' st2 H' ∧ aA Γ.K (aq φ' st2) H' acc' (ys ++ [y]) ∧ aa gs (aW F Γ.G ix tg ifs el ρ) (xs.drop _) acc' st2 = .ok ts _
       | none => ys.length ≤ acc0.length + i + 1 ∧ ∃ φ' st2 acc', Pt Γ _ _ H1 φ' st2 H' ∧ aA _ (aq φ' st2) H' acc' ys ∧ aa gs _ _ acc' st2 = .ok ts _) ((en.step pt).step pt3) pt3.rl r3 hs hn hstep ?_
      cases o with
      | some t =>
       intro u H' φ' ru p'
       exact ⟨by simp; omega, φ', st2, _, (pt.trans pt3).trans p', (r.step (pt3.trans p').stp).append (.one ru), hev⟩
      | none =>
       intro H' φ' p'
       exact ⟨by omega, φ', st2, acc, (pt.trans pt3).trans p', r.step (pt3.trans p').stp, hev⟩
     | _ => rw [hstep] at hev; cases hev
   · cases hev
 · have ei : i = xs.length := by omega
   subst ei
   rw [List.drop_length] at hev
   simp only [aa] at hev
   split at hev
   · rename_i hst
     cases hev
     obtain ⟨_, stop⟩ := wk φ _ H pt hst
     exact .inl ⟨stop, by omega, hQ ys H φ r pt⟩
   · cases hev
theorem kH {el} {ρ} {σ} {φ1} {st1} {H1} {J} {xs} {gs} {ts} {st'} {Q} (en : En Γ φ1 st1 H1 ρ σ) (rl : Rl Γ φ1 st1 H1) (wk : Wk Γ J xs gs φ1 st1 H1)
 (hs : ∀ i ∈ tg.slots, ix[i]? = some none) (hn : tg.slots.Nodup) (hz : xs.length ≤ aZ) (hc : aa gs (aW F Γ.G ix tg ifs el ρ) xs [] st1 = .ok ts st')
 (hQ : ∀ vs H' φ', aA Γ.K (aq φ' st') H' ts vs → Pt Γ φ1 st1 H1 φ' st' H' → Q vs H') :
 uU J (L2.aY ix σ) (ma Γ tg) (tF Γ F ifs) (tE Γ F el) Q H1 :=
 f9 en rl wk .nil hs hn hz hc hQ fun _ _ _ _ _ _ _ => trivial
theorem mi {src} {ρ} {c : List T → Prop} [∀ xs, Decidable (c xs)] {ev : List T → List _ → ae → ak α} {f} {σ} {φ} {st} {H} {Q} {R} (en : En Γ φ st H ρ σ) (rl : Rl Γ φ st H)
 (af : Af Γ φ st H ((a8 F Γ.G src ρ st).bind fun ws st => match items k ws st with | some (xs, gs) => if c xs then (ev xs gs st).bind f else .bad | none => .bad) Q)
 (h : ∀ {xs gs st1 φ1 H1 J ts st'}, Pt Γ φ st H φ1 st1 H1 → Wk Γ J xs gs φ1 st1 H1 → c xs → ev xs gs st1 = .ok ts st' → Af Γ φ1 st1 H1 (f ts st') Q → R J H1) : tI Γ F k src σ H R := by
 refine ⟨φ, st, ρ, en, rl, ?_⟩
 unfold yu
 cases h1 : a8 F _ _ ρ st with
 | ok ws st1 =>
  rw [h1] at af
  simp only [ak.bind] at af ⊢
  cases h2 : items k ws _ with
  | none => simp only [h2] at af; exact af.elim
  | some q =>
   obtain ⟨xs, gs⟩ := q
   simp only [h2] at af ⊢
   split at af
   · intro J H1 φ1 pt wk
     have af := Af.re af pt
     cases hc : ev xs gs _ with
     | ok ts st' => rw [hc] at af; exact h pt wk ‹_› hc af
     | _ => rw [hc] at af; exact af.elim
   · exact af.elim
 | _ => rw [h1] at af; exact af.elim
theorem lM {ix} {tg} {k} {src ifs} {el} (hs : ∀ i ∈ tg.slots, ix[i]? = some none) (hn : tg.slots.Nodup) : ∀ σ H Q, tE Γ F (.comp N' ix tg k src ifs el) σ H Q → lI ix (tI Γ F k src) (ma Γ tg) (tF Γ F ifs) (tE Γ F el) σ H Q := by
 rintro σ H Q ⟨φ, st, ρ, en, rl, af⟩
 exact mi en rl af fun pt wk hz hc af => kH (en.step pt) pt.rl wk hs hn hz hc fun vs H' φ' r p => Af.lst (Af.re af p) p.rl r
theorem Bx {o i x : Expr} {eo ei e : E} {p pos : Pos} (ho : PE X o (tE Γ F eo)) (hi : PE X i (tE Γ F ei)) (h : PE X x (tE Γ F e)) (hpl : ∀ v, assign (.Subscript o i p) X.env v = (do
 let ov ← holding [v] (eval o X.env)
 let iv ← holding [v, ov] (eval i X.env)
 standAt p
 holding [v, ov, iv] (setItem ov iv v)
 release [v, ov, iv] [])) (hs : swapsWithSole [.Subscript o i p] x pos.line X.env = pure false) (hw : swappedStores [.Subscript o i p] x X.env = pure none)
 (h1 : (assignEach [.Subscript o i p] X.env).map (·.2) = [assign (.Subscript o i p) X.env]) : PS X (.Assign [.Subscript o i p] x pos) (tS Γ F (.setx eo ei e)) := by
 refine L2.PS.imp (nO h (AO ho hi tP hpl) hs hw h1) ?_
 rintro D σ H ⟨φ, st, ρ, en, rl, af⟩
 simp only [dB] at af
 refine ⟨φ, st, ρ, en, rl, ?_⟩
 cases q1 : aj F Γ.G e ρ st with
 | ok w st1 =>
  rw [q1] at af
  intro v H1 φ1 rw1 pt
  simp only [ak.bind] at af
  cases q2 : aJ st.length w st1 with
  | ok t st2 =>
   rw [q2] at af
   simp only at af
   obtain ⟨φ2, p2, r2⟩ := hV rl.len pt rw1 q2
   refine ⟨φ2, st2, ρ, en.step p2, p2.rl, ?_⟩
   have af := eI.re af p2
   cases q3 : aj F _ eo ρ _ with
   | ok x3 st3 =>
    rw [q3] at af
    intro u H3 φ3 rw3 p3
    simp only at af
    refine ⟨φ3, st3, ρ, (en.step p2).step p3, p3.rl, ?_⟩
    have af := eI.re af p3
    cases q4 : aj F _ ei ρ _ with
    | ok y4 st4 =>
     rw [q4] at af
     intro z H4 φ4 rw4 p4
     simp only at af
     have af := eI.re af p4
     cases x3 with
     | d _ => cases q5 : look y4 st4 <;> exact af.elim
     | ref k =>
      cases q5 : look y4 _ with
      | none => rw [q5] at af; exact af.elim
      | some ty =>
       rw [q5] at af
       cases ty with
       | int n =>
        cases q6 : st4[k]? with
        | none => simp only [q6] at af; exact af.elim
        | some oo =>
         cases oo with
         | none => simp only [q6] at af; exact af.elim
         | some xs =>
          simp only [q6] at af
          cases q7 : pi xs.length n with
          | none => simp only [q7] at af; exact af.elim
          | some j =>
           simp only [q7] at af
           obtain ⟨a, e3, rfl⟩ := rw3
           have e4 := p4.pre k a e3
           obtain ⟨vs, h5, r5⟩ := p4.rl.at_ k xs a e4 q6
           refine ⟨a, vs, n, j, rfl, rw4.int p4.rl q5, h5, by rw [r5.length]; exact q7, ?_⟩
           have rt := Rp.step (p3.trans p4).stp r2
           have pw := p4.rl.write (vs := []) e4 q6 (r5.set rt j)
           exact af σ _ _ ((((en.step p2).step p3).step p4).step pw) pw
       | _ => exact af.elim
    | _ => rw [q4] at af; exact af.elim
   | _ => rw [q3] at af; exact af.elim
  | _ => rw [q2] at af; exact af.elim
 | _ => rw [q1] at af; exact af.elim
end
end I
end
section
namespace L2
end L2
namespace I
open PySem L2 PySem.Spec PyProof.Rows
end I
end
section
namespace I
open PySem L2 PySem.Spec PyProof.Rows
section
variable {Γ : Gm} {F : FT} {X : Cx}
theorem pH : ∀ {xs} {ks} {vs}, jC xs = some ks → aA Γ.K L H xs vs → Paired (IZ Γ.K H) vs ks ∧ xs = ks.map pj
 | [], ks, vs, h, r => by
  cases h
  cases r
  exact ⟨.nil, rfl⟩
 | x :: xs, ks, vs, h, r => by
  obtain ⟨v, rs, rfl, r1, r2⟩ := r
  unfold jC at h
  split at h
  · grind
  · rename_i a b q e
    cases e
    split at h
    · rename_i hb
      obtain ⟨ks', e1, rfl⟩ := Option.map_eq_some_iff.mp h
      obtain ⟨i1, i2⟩ := pH e1 r2
      obtain ⟨p, vs', rfl, q1, q2⟩ := r1
      obtain ⟨v1, z1, rfl, h1, v2, z2, rfl, h2, h3⟩ := q2
      cases h3
      cases h1
      cases h2
      refine ⟨.cons ⟨p, a, b, rfl, q1.sq, rfl, hb.1, hb.2⟩ i1, ?_⟩
      rw [i2, List.map_cons]
      have e3 : (a * fg + b) / fg = a := by rw [Int.add_comm, Int.add_mul_ediv_right _ _ (by omega), Int.ediv_eq_zero_of_lt hb.1 hb.2, Int.zero_add]
      have e4 : (a * fg + b) % fg = b := by rw [Int.add_comm, Int.add_mul_emod_self_right, Int.emod_eq_of_lt hb.1 hb.2]
      unfold pj
      rw [e3, e4]
    · cases h
  · cases h
theorem aA.put {vs} (r : aA Γ.K L H (ks.map pj) vs) : ∀ {p}, (∀ i ∈ p, i < vs.length) → aA Γ.K L H ((L2.gm 0 ks p).map pj) (L2.gm .non vs p)
 | [], _ => rfl
 | i :: p, h => by
  have hi := h i (by simp)
  obtain ⟨c, e1, e2⟩ := r.getV (List.getElem?_eq_getElem hi)
  refine ⟨_, _, rfl, ?_, aA.put r fun j hj => h j (by simp [hj])⟩
  grind
theorem zN {x : Expr} {a : E} {p1 kp pos kpos : Pos} {j : Nat} (hK : X.K = Γ.K) (hg : Gl X "sorted") (hm : X.mg "sorted" = none) (hx : starEach [x] X.env = [(false, eval x X.env)]) (h : PE X x (tE Γ F a)) : PE X (.Call (.Name "sorted" p1) [x] [⟨some "reverse", .Constant (.bool true) j kp, kpos⟩] pos) (tE Γ F (.srv a)) := by
 refine L2.PE.imp (Bo hg hm h hx) ?_
 rintro σ H Q ⟨φ, st, ρ, en, rl, af⟩
 have af : Af Γ φ st H ((aj F Γ.G a ρ st).bind fun x st => nh x st) Q := af
 refine ⟨φ, st, ρ, en, rl, af.bind.mono fun v H1 ⟨w, st1, φ1, rw1, pt, af1⟩ => ?_⟩
 unfold nh at af1
 have hs : ∃ xs l vs, (look w st1).bind Dd = some xs ∧ v = .ref l ∧ (cF Γ.K H1 l vs ∨ eB Γ.K H1 l vs) ∧ aA Γ.K (aq φ1 st1) H1 xs vs := by
  cases h2 : look w st1 with
  | none => rw [h2] at af1; exact af1.elim
  | some t =>
   rw [h2] at af1
   cases t with
   | lst xs => obtain ⟨l, vs, e, q, r⟩ := rw1.lst pt.rl h2; exact ⟨xs, l, vs, rfl, e, .inl q, r⟩
   | tup xs => obtain ⟨l, vs, e, q, r⟩ := rw1.tup pt.rl h2; exact ⟨xs, l, vs, rfl, e, .inr q, r⟩
   | _ => exact af1.elim
 obtain ⟨xs, l, vs, e, rfl, hS, r⟩ := hs
 rw [e] at af1
 have af2 : Af Γ φ1 st1 H1 (match jC xs with | some ks => if xs.length < 64 then fresh (.lst ((bH ks).reverse.map pj)) st1 else .bad | none => zL (look w st1) st1) Q := af1
 cases h3 : jC xs with
 | none =>
  rw [h3] at af2
  refine .inr ?_
  cases h2 : look w st1 with
  | none => rw [h2] at e; cases e
  | some t =>
   rw [h2] at af2 e
   cases t with
   | lst ys =>
    have af3 : Af Γ φ1 st1 H1 (match aK ys with | some ns => if ns.length < 64 then fresh (.lst ((bH ns).reverse.map .int)) st1 else .bad | none => .bad) Q := af2
    cases h4 : aK ys with
    | none => rw [h4] at af3; exact af3.elim
    | some ns =>
     rw [h4] at af3
     have af4 : Af Γ φ1 st1 H1 (if ns.length < 64 then fresh (.lst ((bH ns).reverse.map .int)) st1 else .bad) Q := af3
     by_cases hz : ns.length < 64
     · rw [if_pos hz] at af4
       cases cW h4
       obtain ⟨b, vs, e0, q, r⟩ := rw1.lst pt.rl h2
       cases e0
       cases aA.ints_eq r
       exact ⟨_, ns, rfl, by rw [hK]; exact q, hz, Af.lst af4 pt.rl (aA.ofInts _)⟩
     · rw [if_neg hz] at af4
       exact af4.elim
   | _ => exact af2.elim
 | some ks =>
  rw [h3] at af2
  have af3 : Af Γ φ1 st1 H1 (if xs.length < 64 then fresh (.lst ((bH ks).reverse.map pj)) st1 else .bad) Q := af2
  by_cases hz : xs.length < 64
  · rw [if_pos hz] at af3
    obtain ⟨p1, p2⟩ := pH h3 r
    refine .inl ⟨l, vs, ks, rfl, by rw [hK]; exact hS, by rw [hK]; exact p1, by rw [r.length]; exact hz, fun p q1 q2 => ?_⟩
    rw [← q2] at af3
    exact Af.lst af3 pt.rl (aA.put (by rw [← p2]; exact r) fun i hi => by have := q1.mem_iff.mp hi; simpa using this)
  · rw [if_neg hz] at af3
    exact af3.elim
end
end I
end
section
namespace I
open PySem L2 PySem.Spec PyProof.Rows
end I
end
section
namespace I
open PySem L2 PySem.Spec PyProof.Rows
end I
end
section
namespace L2
def j4 (zs : List Int) : Int → Bool := fun k => zs.any (· == k)
def iS (zs : List Int) : List Int := zs.foldl (fun a z => if a.any (· == z) then a else a ++ [z]) []
def im (zs : List Int) : Nat := (iS zs).length
theorem jJ {p : List Int → Prop} (h0 : p []) (h1 : ∀ zs z, p zs → p (zs ++ [z])) : ∀ zs, p zs := by
 have key : ∀ n (zs : List _), zs.length = n → p zs := by
  intro n
  induction n with
  | zero => grind
  | succ n ih =>
   intro zs h
   rcases List.eq_nil_or_concat zs with rfl | ⟨l, b, rfl⟩
   · simp at h
   simp_all
 simp_all
theorem gS (zs : List _) (z : Int) : iS (zs ++ [z]) = if (iS zs).any (· == z) then iS zs else iS zs ++ [z] := by
 unfold iS
 rw [List.foldl_append]
 rfl
theorem lN : ∀ (zs : List _) (k : Int), (iS zs).any (· == k) = zs.any (· == k) := by
 refine jJ (fun k => rfl) fun zs z ih k => ?_
 · rw [gS, List.any_append, ← ih k]
   cases h : (iS zs).any _ with
   | true =>
    simp only [if_true, List.any_cons, List.any_nil, Bool.or_false]
    cases hk : z == k with
    | false => rw [Bool.or_false]
    | true =>
     simp_all
   | false =>
    simp
theorem mw (zs : List _) (z : Int) : im (zs ++ [z]) = if j4 zs z then im zs else im zs + 1 := by
 unfold im j4
 rw [gS, lN]
 cases zs.any _ with
 | true => rfl
 | false => simp
theorem ue (zs : List _) (z : Int) : j4 (zs ++ [z]) = fun k => j4 zs k || decide (k = z) := by
 funext k
 unfold j4
 rw [List.any_append]
 congr 1
 grind
theorem wE (zs : List _) : im zs ≤ zs.length := by
 refine jJ (p := fun zs => im zs ≤ zs.length) (Nat.le_refl _) (fun zs z ih => ?_) zs
 · rw [mw, List.length_append]
   show _ ≤ _ + 1
   split <;> omega
def jK (P : Program) (w : World) (o : Obj) (S : Int → Bool) (n : Nat) : Prop := ∃ es ep t, o.ExactSet ∧ o.data = .set es ep t ∧ ElemsOf (intKind P w) es.toList ∧ (∀ k, S k = true ↔ ∃ e ∈ es.toList, (intKind P w).is k e.2 = true) ∧ es.size < scanBound ∧ t.fits es.size = true ∧ es.size = n
def gO (P : Program) (w : World) (o : Obj) (zs : List Int) : Prop := jK P w o (j4 zs) (im zs)
theorem gO.setOf {zs} {h : Heap} {a} (x : gO P w o zs) (e : h.get? a = some o) : h.SetOf (intKind P w) a (j4 zs) (im zs) := by
 obtain ⟨es, ep, t, r⟩ := x
 exact ⟨o, es, ep, t, e, r⟩
theorem qJ {n} {h : Heap} {a} (x : h.SetOf (intKind P w) a S n) : ∃ o, True ∧ h.get? a = some o ∧ jK P w o S n := by
 obtain ⟨o, es, ep, t, e, r⟩ := x
 exact ⟨o, trivial, e, es, ep, t, r⟩
theorem nj (led : Bool) : gO P w { cls := .type "set", dict := none, data := .set #[] 0 (.fresh 0 0 led) } [] := by
 refine ⟨#[], 0, _, ⟨rfl, rfl, rfl⟩, rfl, fun e he => by simp at he, fun k => Iff.intro (fun h => absurd h Bool.false_ne_true) fun ⟨e, he, _⟩ => by simp at he, by decide, rfl, rfl⟩
def HW (te : TE) (σ2 : St) (H4 : Hp) (zs : List Int) (N : List Int → Hp → Prop) : Prop := te σ2 H4 fun y H5 => ∃ z, y = .int z ∧ N (zs ++ [z]) H5
def rP (J : It) (σc : St) (g : TG) (tt : TT) (te : TE) (Q : List Int → Hp → Prop) (H1 : Hp) : Prop :=
 fK (fun _ => True) (fun ys => ys.length ≤ 1000) (fun ys => ys.length < 1000) (HW te) [] J σc g tt Q H1
def nr (ix : List (Option Nat)) (wi : TI) (g : TG) (tt : TT) (te : TE) : TE := fun σ H Q => wi σ H fun J H1 =>
 rP J (aY ix σ) g tt te (fun ys H' => ∀ p, H' p = none → Q (.ref p) (bB H' p (.set (j4 ys) (im ys)))) H1
theorem xC {E} {s} {Q}
 (h : ∀ led, Q (.ref s.heap.objs.size) { s with heap := s.heap.push { cls := .type "set", dict := none, data := .set #[] 0 (.fresh 0 0 led) } }) : wpAny (model prog w) A (newSet (.type "set")) Q E s := by
 refine wpAny_bind (wpAny_bind (wpAny_askSetting (wpAny_pure ?_)))
 exact wpAny_newObj_type (h _)
section
variable {X : Cx}
theorem sk {elt} {te} (he : PE Xc elt te) (hx : Xc.xe = fun _ _ => False) : qN Xc σc (fun zs o => gO Xc.prog Xc.w o zs) (fun ys => ys.length < 1000) (HW te) fun acc env => (do let v ← eval elt env; standAt elt.pos; let _ ← call (.builtin "set.add") [acc, v]) := by
 intro D pins σ H s y ob N hs I fD o hz h
 have e9 := he _ s σ H _ I h
 rw [hx] at e9
 refine wpAny_bind (aU e9 fun u s1 ⟨z, H1, I1, r1, zi, hzi, q1⟩ => wpAny_bind (wpAny_standAt (wpAny_bind ?_)))
 subst hzi
 obtain ⟨tz, rfl⟩ := r1
 obtain ⟨p1, p2, _⟩ := I1.pin _ (List.mem_append_right _ List.mem_cons_self)
 refine call_set_add (intKind_is _ _ _ _) rfl (o.setOf p1) (by have := wE y; unfold scanBound; omega) fun h' hs' ho' => wpAny_pure ?_
 obtain ⟨ob', o', e1, e2⟩ := qJ ho'
 have f := fD p2
 exact ⟨H1, _, ob', (I1.sub hs fun _ h => List.mem_cons_of_mem _ h).turned (fun b o hb e => (hs'.2 b hb).trans e) p2 f.2.1 f.2.2.2.1 f.2.2.2.2.1 f.2.2.2.2.2, p2, e1, by show jK _ _ _ _ _; rw [ue, mw]; exact e2, q1⟩
theorem wZ : Go X (fun zs o => gO X.prog X.w o zs) (fun ys => ys.length ≤ 1000) (fun ys => .set (j4 ys) (im ys)) [] (newSet (.type "set")) :=
 ⟨fun y o ⟨_, _, _, _, hd, _⟩ v z => (by rw [hd] at z; cases z), fun y o ⟨_, _, _, _, hd, _⟩ => by cases o; cases hd; rfl, fun h _ e => h.setOf e, fun h => xC fun led => h _ (nj _)⟩
theorem tx {elt target iter} {ifs} {scope} {pos} {N'} {ix} {wi} {g} {tt} {te} (hc : X.calm = true) (hi : PI X target iter wi)
 (hg : ∀ cl C ex s H, PG (ax X N' scope cl C ex s H) target g) (hf : ∀ cl C ex s H, PF (ax X N' scope cl C ex s H) ifs tt) (he : ∀ cl C ex s H, PE (ax X N' scope cl C ex s H) elt te)
 (hok : aO X.env.scope X.N scope N' ix = true) (hs : ∀ x, foldedSetIterable iter X.env x = pure x := by intro _; rfl) : PE X (.SetComp elt [⟨target, iter, ifs, 0⟩] scope pos) (nr ix wi g tt te) :=
 iA (EM := fun _ => HW te) wZ ⟨fun _ _ _ => rfl, fun _ _ _ => rfl, fun _ _ _ => rfl, fun _ _ _ => rfl, fun _ _ _ => rfl, rfl⟩ rfl rfl hc hi hg hf (fun _ _ _ _ _ _ => sk (he _ _ _ _ _) rfl) hok hs
def jO : List V → Hp → VK → Prop := fun xs H Q => ∃ p S n, xs = [.ref p] ∧ H p = some (.set S n) ∧ Q (.int (n : Int)) H
theorem k9 : bp X (.builtin "len") jO := by
 intro pins s σ H xs us Q I r h
 obtain ⟨p, S, n, rfl, hp, q⟩ := h
 obtain ⟨u, rfl, rx⟩ := vals1 r
 cases rx
 obtain ⟨o, es, ep, t, ho, hex, hd, _, _, hb, hf, hn⟩ := I.hok p _ hp
 have hfit : (es.size : Int) < 2 ^ 63 := by
  have : scanBound = 4096 := rfl
  omega
 subst hn
 refine call_len_set ho hex hd hf hfit ?_
 exact ⟨.int _, H, I.tok _, ⟨_, rfl⟩, q⟩
theorem uZ {elt target iter} {ifs} {scope} {pos p q} {N'} {ix} {wi} {g} {tt} {te} (hc : X.calm = true) (hgl : Gl X "len") (hm : X.mg "len" = none) (hi : PI X target iter wi)
 (hg : ∀ cl C ex s H, PG (ax X N' scope cl C ex s H) target g) (hf : ∀ cl C ex s H, PF (ax X N' scope cl C ex s H) ifs tt) (he : ∀ cl C ex s H, PE (ax X N' scope cl C ex s H) elt te)
 (hok : aO X.env.scope X.N scope N' ix = true) (hs : ∀ x, foldedSetIterable iter X.env x = pure x) : PE X (.Call (.Name "len" p) [.SetComp elt [⟨target, iter, ifs, 0⟩] scope pos] [] q) (F4 jO (oU (nr ix wi g tt te) rk)) :=
 cx k9 hgl hm boot_len (fJ (tx hc hi hg hf he hok hs) jX)
end
theorem nQ : ∀ zs, (iS zs).Nodup := by
 refine jJ .nil fun zs z ih => ?_
 rw [gS]
 split
 · exact ih
 · next h =>
   refine List.nodup_append.mpr ⟨ih, List.pairwise_singleton _ _, fun a ha b hb e => h ?_⟩
   simp_all
theorem rX (zs : List _) (k : Int) : k ∈ iS zs ↔ k ∈ zs := by
 have h := lN zs k
 grind
end L2
namespace I
open PySem L2 PySem.Spec PyProof.Rows
theorem uX (zs : List _) : im zs = (eT zs).length := by
 have p := (List.perm_ext_iff_of_nodup (nQ zs) ((bT zs).imp fun h => Int.ne_of_lt h)).mpr fun x => by rw [rX, cb]
 exact p.length_eq
section
variable {Γ : Gm} {F : FT} {X : Cx}
theorem hJ {step} : ∀ {xs acc} {st} {ts} {st'}, aa gs step xs acc st = .ok ts st' → ∃ r, ts = acc ++ r
 | [], acc, st, ts, st', h => by
  simp only [aa] at h
  split at h
  · simp_all
  · cases h
 | x :: xs, acc, st, ts, st', h => by
  simp only [aa] at h
  split at h
  · cases h1 : step x st with
    | ok o st2 =>
     rw [h1] at h
     obtain ⟨r, e⟩ := hJ h
     cases o with
     | none => exact ⟨r, e⟩
     | some t => grind
    | _ => rw [h1] at h; cases h
  · cases h
theorem jj : ∀ ns, aK (ns.map T.int) = some ns
 | [] => rfl
 | n :: ns => by
  show (aK _).map _ = _
  rw [jj ns]; rfl
theorem pT {ix : List (Option Nat)} {tg : Tg} {ifs : List E} {el : E} {ρ : aG} {σ : L2.St} {φ1 : List Addr} {st1 : ae} {H1 : Hp} {J : L2.It} {xs : List T} {gs : List (Nat × List T)} {ts : List T} {ns : List Int} {st' : ae} {Q : List Int → Hp → Prop} (en : En Γ φ1 st1 H1 ρ σ) (rl : Rl Γ φ1 st1 H1) (wk : Wk Γ J xs gs φ1 st1 H1)
 (hs : ∀ i ∈ tg.slots, ix[i]? = some none) (hn : tg.slots.Nodup) (hz : xs.length ≤ 1000) (hc : aa gs (aW F Γ.G ix tg ifs el ρ) xs [] st1 = .ok ts st') (hi : aK ts = some ns)
 (hQ : ∀ H' φ', Pt Γ φ1 st1 H1 φ' st' H' → Q ns H') :
 rP J (L2.aY ix σ) (ma Γ tg) (tF Γ F ifs) (tE Γ F el) Q H1 := by
 have et := cW hi
 refine ⟨fun i m ys H => m = xs.length - i ∧ i ≤ xs.length ∧ ys.length ≤ i ∧ ∃ φ st, Pt Γ φ1 st1 H1 φ st H ∧ aa gs (aW F Γ.G ix tg ifs el ρ) (xs.drop i) (ys.map T.int) st = .ok ts st', ⟨xs.length, by simp, Nat.zero_le _, Nat.zero_le _, φ1, st1, Pt.refl rl, by simpa using hc⟩, fun _ _ _ _ _ => trivial, ?_⟩
 rintro i m ys H ⟨rfl, hle, hy, φ, st, pt, hev⟩
 by_cases hlt : i < xs.length
 · rw [List.drop_eq_getElem_cons hlt] at hev
   simp only [aa] at hev
   split at hev
   · rename_i hst
     obtain ⟨go, _⟩ := wk φ st H pt hst
     obtain ⟨g1, g2⟩ := go i xs[i] (List.getElem?_eq_getElem hlt)
     refine .inr ⟨g1, by omega, fun ys' H' => ys'.length ≤ i + 1 ∧ ∃ φ' st2, Pt Γ φ1 st1 H1 φ' st2 H' ∧ aa gs (aW F Γ.G ix tg ifs el ρ) (xs.drop (i + 1)) (ys'.map T.int) st2 = .ok ts st', fun ys' H' h' => ⟨xs.length - (i + 1), by omega, rfl, hlt, h'.1, h'.2⟩, fun v H3 y => ?_⟩
     obtain ⟨pt3, r3⟩ := g2 v H3 y
     cases hstep : aW F Γ.G ix tg ifs el ρ xs[i] st with
     | ok o st2 =>
      rw [hstep] at hev
      refine pO (N := fun o H' => match o with
       | some y => ∃ z, y = .int z ∧ (ys ++ [z]).length ≤ i + 1 ∧ ∃ φ' st2, Pt Γ φ1 st1 H1 φ' st2 H' ∧ aa gs (aW F Γ.G ix tg ifs el ρ) (xs.drop (i + 1)) ((ys ++ [z]).map T.int) st2 = .ok ts st'
       | none => ys.length ≤ i + 1 ∧ ∃ φ' st2, Pt Γ φ1 st1 H1 φ' st2 H' ∧ aa gs (aW F Γ.G ix tg ifs el ρ) (xs.drop (i + 1)) (ys.map T.int) st2 = .ok ts st') ((en.step pt).step pt3) pt3.rl r3 hs hn hstep ?_
      cases o with
      | some t =>
       intro u H' φ' ru p'
       obtain ⟨r, er⟩ := hJ hev
       have ht : t ∈ ns.map T.int := by rw [← et, er]; exact List.mem_append_left _ (List.mem_append_right _ List.mem_cons_self)
       obtain ⟨z, _, rfl⟩ := List.mem_map.mp ht
       exact ⟨z, ru, by grind, φ', st2, (pt.trans pt3).trans p', by rw [List.map_append]; exact hev⟩
      | none =>
       intro H' φ' p'
       exact ⟨by omega, φ', st2, (pt.trans pt3).trans p', hev⟩
     | _ => rw [hstep] at hev; cases hev
   · cases hev
 · have ei : i = xs.length := by omega
   subst ei
   rw [List.drop_length] at hev
   simp only [aa] at hev
   split at hev
   · rename_i hst
     cases hev
     obtain ⟨_, stop⟩ := wk φ _ H pt hst
     have e : ys = ns := by
      rw [jj] at hi
      cases hi; rfl
     exact .inl ⟨stop, by omega, by rw [e]; exact hQ H φ pt⟩
   · cases hev
theorem vJ {ix} {tg} {k} {src ifs} {el} (hs : ∀ i ∈ tg.slots, ix[i]? = some none) (hn : tg.slots.Nodup) : ∀ σ H Q, tE Γ F (.lsc N' ix tg k src ifs el) σ H Q → F4 jO (oU (nr ix (tI Γ F k src) (ma Γ tg) (tF Γ F ifs) (tE Γ F el)) rk) σ H Q := by
 rintro σ H Q ⟨φ, st, ρ, en, rl, af⟩
 refine mi en rl af fun {xs gs st1 φ1 H1 J ts st'} pt wk hz hc af => ?_
 unfold uE at af
 cases h3 : aK ts with
 | none => rw [h3] at af; exact af.elim
 | some ns =>
  rw [h3] at af
  refine pT (en.step pt) pt.rl wk hs hn hz hc h3 fun H' φ' p q hq => ?_
  refine ⟨q, _, _, rfl, cc, ?_⟩
  rw [uX]
  exact Af.re af p _ _ _ rfl (p.rl.beside hq)
theorem vT {o e} : ∀ σ H Q, tE Γ F (.ext o e) σ H Q → FU Γ.K "list" oa (tE Γ F o) (tA Γ F [e]) σ H Q := by
 rintro σ H Q ⟨φ, st, ρ, en, rl, af⟩
 refine ⟨φ, st, ρ, en, rl, af.bind.mono fun v H1 ⟨w, st1, φ1, rw1, pt, af1⟩ => ?_⟩
 split at af1
 · exact af1.elim
 cases w with
 | d t =>
  cases h2 : aj F _ e ρ _ with
  | ok y st2 => rw [h2] at af1; exact af1.elim
  | _ => rw [h2] at af1; exact af1.elim
 | ref k =>
  cases h1 : look (.ref k) st1 with
  | none => simp_all
  | some t =>
   have : ∃ xs, t = .lst xs := by
    unfold look at h1
    simp only at h1
    split at h1
    · cases h1; exact ⟨_, rfl⟩
    · cases h1
   obtain ⟨xs0, rfl⟩ := this
   obtain ⟨a, vs, rfl, q1, r1⟩ := rw1.lst pt.rl h1
   refine ⟨.inl ⟨rfl, vs, q1⟩, φ1, st1, ρ, en.step pt, pt.rl, ?_⟩
   rw [lh]
   cases h2 : aj F _ e ρ _ with
   | ok y st2 =>
    rw [h2] at af1
    intro us H2 φ2 rs pt2
    have af2 : Af Γ _ _ H2 (ql _ y _) Q := Af.re af1 pt2
    obtain ⟨u, rr, rfl, ru, rn⟩ := rs
    cases (rn)
    cases y with
    | d t => exact af2.elim
    | ref j =>
     unfold ql at af2
     cases h3 : st2[k]? with
     | none => simp only [h3] at af2; exact af2.elim
     | some o =>
      cases o with
      | none => simp only [h3] at af2; exact af2.elim
      | some xs =>
       cases h4 : st2[j]? with
       | none => simp only [h3, h4] at af2; exact af2.elim
       | some o2 =>
        cases o2 with
        | none => simp only [h3, h4] at af2; exact af2.elim
        | some ys =>
         simp only [h3, h4] at af2
         split at af2
         · rename_i hz
           obtain ⟨b, eb, ebb⟩ := rw1
           cases ebb
           obtain ⟨b2, eb2, ebb2⟩ := ru
           cases ebb2
           have e2 := pt2.pre k a eb
           obtain ⟨ws, h5, r5⟩ := pt2.rl.at_ k xs a e2 h3
           obtain ⟨ws2, h6, r6⟩ := pt2.rl.at_ j ys b2 eb2 h4
           exact ⟨a, b2, ws, ws2, rfl, rfl, h5, h6, by rw [r5.length, r6.length]; exact Nat.le_trans hz bb, af2.write pt2.rl e2 h3 (r5.append r6) rfl⟩
         · exact af2.elim
   | _ => rw [h2] at af1; exact af1.elim
end
end I
end
section
namespace L2
def j6 (wi2 : TI) (g2 : TG) (tt2 : TT) (te : TE) (σc σ1 : St) (H4 : Hp) (ys : List V) (N : List V → Hp → Prop) : Prop := ∃ σ2, Sub σc σ2 ∧ Sub σ2 σ1 ∧ wi2 σ2 H4 fun J H5 =>
 fK (fun _ => True) (fun zs => zs.length ≤ sizeLine) (fun zs => zs.length < sizeLine) (CP te) ys J σ2 g2 tt2 N H5
def sJ (ix : List (Option Nat)) (wi : TI) (g : TG) (tt : TT) (em : St → St → Hp → List V → (List V → Hp → Prop) → Prop) : TE := fun σ H Q => wi σ H fun J H1 =>
 fK (fun _ => True) (fun ys => ys.length ≤ sizeLine) (fun _ => True) (em (aY ix σ)) [] J (aY ix σ) g tt (fun ys H' => ∀ p, H' p = none → Q (.ref p) (bB H' p (.lst ys))) H1
def CO (e i2 : Expr) (acc : Value) (env : Env) : Sem Unit := do
 let x ← eval i2 env
 standAt i2.pos
 let x ← foldedSetIterable i2 env x
 let _ ← runOwn (.compStart e 1 (← holding [x] (pyIter x)) acc env) env
theorem xo {σc} {elt target iter t2 i2} {ifs c2} {scope} {pos} {g2} {tt2} {te} {wi2} (hc : Xc.calm = true) (hx : Xc.xe = fun _ _ => False) (hi : PI Xc t2 i2 wi2) (hg : PG Xc t2 g2) (hf : PF Xc c2 tt2) (he : PE Xc elt te) (hfo : ∀ x, foldedSetIterable i2 Xc.env x = pure x) :
 qN Xc σc GI (fun _ => True) (j6 wi2 g2 tt2 te σc) (CO (.ListComp elt [⟨target, iter, ifs, 0⟩, ⟨t2, i2, c2, 0⟩] scope pos) i2) := by
 intro D pins σ H s y ob N hs I fD o _ ⟨σ2, sc, s2, h⟩
 have h1 := hi _ s _ H _ (I.weak s2.1.symm s2.2) h
 rw [hx] at h1
 refine wpAny_bind (aU h1 fun u s1 h2 => wpAny_bind (wpAny_standAt ?_))
 rw [hfo]
 refine wpAny_bind (wpAny_pure (wpAny_bind (wpAny_holding (aU h2 fun itv s2 ⟨it, fp, tn, J, H2, e, I2, T, st2, f2, hw⟩ => ?_))))
 subst e
 refine wpAny_bind (wpAny_runOwn (codeAny_mono (uR (R := fun r s' => r = .ok _ ∧ ∃ H' y' ob', Inv Xc _ _ H' s' ∧ H' D = none ∧ s'.heap.get? D = some ob' ∧ GI y' ob' ∧ N y' H') ⟨fun _ _ _ => rfl, fun _ _ _ => rfl, fun _ _ _ => rfl, fun _ _ _ => rfl, fun _ _ _ => rfl, rfl⟩ hc hx hg hf (fun y o ⟨_, _, _, e⟩ v z => by rw [e] at z; cases z) fD I2 o T st2 f2 hw (fM he hx)
  fun {H' s' y ob} K d o v _ q => ⟨rfl, H', y, ob, K.sub sc fun _ h => h, d, o, v, q⟩) fun r s6 ⟨e, h6⟩ => ?_))
 subst e
 exact wpAny_pure h6
section
variable {X : Cx}
theorem u5 {elt target iter t2 i2 : Expr} {ifs c2 : List Expr} {scope : Scope} {pos : Pos} {N' : List Str} {ix : List (Option Nat)} {wi : TI} {g g2 : TG} {tt tt2 : TT} {te : TE} {wi2 : TI} (hc : X.calm = true) (hi : PI X target iter wi)
 (hg : ∀ cl C ex s H, PG (ax X N' scope cl C ex s H) target g) (hf : ∀ cl C ex s H, PF (ax X N' scope cl C ex s H) ifs tt) (he : ∀ cl C ex s H, PE (ax X N' scope cl C ex s H) elt te)
 (hi2 : ∀ cl C ex s H, PI (ax X N' scope cl C ex s H) t2 i2 wi2) (hg2 : ∀ cl C ex s H, PG (ax X N' scope cl C ex s H) t2 g2) (hf2 : ∀ cl C ex s H, PF (ax X N' scope cl C ex s H) c2 tt2) (hfo : ∀ cl C x, foldedSetIterable i2 (compEnvC scope cl C X.env) x = pure x)
 (hok : aO X.env.scope X.N scope N' ix = true) (hs : ∀ x, foldedSetIterable iter X.env x = pure x := by intro _; rfl) : PE X (.ListComp elt [⟨target, iter, ifs, 0⟩, ⟨t2, i2, c2, 0⟩] scope pos) (sJ ix wi g tt (j6 wi2 g2 tt2 te)) :=
 iA iw ⟨fun _ _ _ => rfl, fun _ _ _ => rfl, fun _ _ _ => by unfold yK CO; simp only [bind_assoc]; rfl, fun _ _ _ => rfl, fun _ _ _ => rfl, rfl⟩ (eval_ListComp ..) rfl hc hi hg hf (fun σc cl C ex s H => xo (Xc := ax X N' _ cl C ex s H) hc rfl (hi2 _ _ _ _ _) (hg2 _ _ _ _ _) (hf2 _ _ _ _ _) (he _ _ _ _ _) (hfo _ _)) hok hs
end
end L2
end
section
namespace I
open PySem L2 PySem.Spec PyProof.Rows
def oJ (ix ix2 : List (Option Nat)) : Bool := ix2.length == ix.length && (List.range ix.length).all fun i => match ix2[i]? with
 | some (some j) => j == i
 | _ => ix[i]? == some none
section
variable {Γ : Gm} {F : FT} {X : Cx}
theorem yn {ix ix2 : List (Option Nat)} (h : oJ ix ix2 = true) {σ σ2 : L2.St} (s : L2.Sub (L2.aY ix σ) σ2) : L2.Sub (L2.aY ix σ) (L2.aY ix2 σ2) ∧ L2.Sub (L2.aY ix2 σ2) σ2 := by
 obtain ⟨h1, h2⟩ := Bool.and_eq_true_iff.mp h
 have h1 : ix2.length = ix.length := eq_of_beq h1
 have hl : σ2.length = ix.length := by rw [s.1, cY]
 have at2 : ∀ i, i < ix.length → (match ix2[i]? with | some (some j) => j == i | _ => ix[i]? == some none) = true := fun i hi => List.all_eq_true.mp h2 i (List.mem_range.mpr hi)
 have g2 : ∀ (i : Nat) v, (L2.aY ix2 σ2)[i]? = some (some v) → σ2[i]? = some (some v) := fun i v e => by
  obtain ⟨j, e1, e2⟩ := kC e
  have hi : i < ix.length := by rw [← h1]; exact (List.getElem?_eq_some_iff.mp e1).1
  have := at2 i hi
  simp_all
 refine ⟨⟨by rw [cY, cY, h1], fun i v e => ?_⟩, ⟨by rw [cY, hl, h1], g2⟩⟩
 have e3 := s.2 i v e
 obtain ⟨j, e1, e2⟩ := kC e
 have hi := (List.getElem?_eq_some_iff.mp e1).1
 have := at2 i hi
 unfold L2.aY
 rw [List.getElem?_map]
 cases q : ix2[i]? with
 | none => simp_all
 | some o =>
  cases o with
  | none => simp_all
  | some j2 =>
   simp_all
def jr (F : FT) (G : List T) (ix ix2 : List (Option Nat)) (tg : Tg) (ifs : List E) (t2 : Tg) (k2 : Ik) (src2 ifs2 : List E) (el : E) (ρ : aG) : T → List T → ae → ak (List T) := fun x acc st => match aS tg (.d x) (bo ix ρ) with
 | some ρ1 => (bA F G ifs ρ1 st).bind fun b st' => if b then
  (a8 F G src2 (bo ix2 ρ1) st').bind fun ws2 st2 => match items k2 ws2 st2 with
   | some (ys, gs2) => if acc.length + ys.length ≤ aZ then aa gs2 (aW F G ix2 t2 ifs2 el ρ1) ys acc st2 else .bad
   | none => .bad
  else .ok acc st'
 | none => .bad
theorem ur {ix ix2 : List (Option Nat)} {tg t2 : Tg} {k2 : Ik} {ifs src2 ifs2 : List E} {el : E} {ρ : aG} {σ : L2.St} {φ : List Addr} {st : ae} {H : Hp} {x : T} {v : V} {acc acc' : List T} {ys : List V} {N : List V → Hp → Prop} {st' : ae} (en : En Γ φ st H ρ σ) (rl : Rl Γ φ st H) (rx : Rp Γ.K (aq φ st) H x v) (ra : aA Γ.K (aq φ st) H acc ys)
 (hs : ∀ i ∈ tg.slots, ix[i]? = some none) (hn : tg.slots.Nodup) (hs2 : ∀ i ∈ t2.slots, ix2[i]? = some none) (hn2 : t2.slots.Nodup) (hx : oJ ix ix2 = true) (hstep : jr F Γ.G ix ix2 tg ifs t2 k2 src2 ifs2 el ρ x acc st = .ok acc' st')
 (h : ∀ zs H' φ', aA Γ.K (aq φ' st') H' acc' zs → Pt Γ φ st H φ' st' H' → N zs H') :
 ma Γ tg v (L2.aY ix σ) H fun σ2 H3 => L2.Sub (L2.aY ix σ) σ2 ∧ tF Γ F ifs σ2 H3 fun ok H4 => if ok = true then j6 (tI Γ F k2 src2) (ma Γ t2) (tF Γ F ifs2) (tE Γ F el) (L2.aY ix σ) σ2 H4 ys N else N ys H4 := by
 unfold jr at hstep
 cases hb : aS tg (.d x) (bo ix ρ) with
 | none => simp_all
 | some ρ1 =>
  rw [hb] at hstep
  simp only at hstep
  refine ⟨φ, st, _, .d x, ρ1, en.pick ix, rl, rx, hb, fun i hi => ?_, hn, fun σ2 en2 sub => ⟨sub, φ, st, ρ1, en2, rl, ?_⟩⟩
  · unfold L2.aY
    simp_all
  · cases h1 : bA F _ _ _ st with
    | ok b st1 =>
     rw [h1] at hstep
     simp only [ak.bind] at hstep
     intro H4 φ4 pt4
     cases b with
     | true =>
      rw [if_pos rfl] at hstep ⊢
      obtain ⟨sa, sb⟩ := yn hx sub
      refine ⟨_, sa, sb, φ4, st1, _, (en2.step pt4).pick _, pt4.rl, ?_⟩
      unfold yu
      cases h2 : a8 F _ _ _ _ with
      | ok ws2 st2 =>
       rw [h2] at hstep
       simp only at hstep ⊢
       cases h3 : items k2 _ _ with
       | none => simp_all
       | some q =>
        rw [h3] at hstep
        simp only at hstep ⊢
        split at hstep
        · intro J H5 φ5 pt5 wk
          exact f9 ((en2.step pt4).step pt5) pt5.rl wk (ra.step (pt4.trans pt5).stp) hs2 hn2 (by omega) hstep (fun vs H' φ' r p => h vs H' _ r ((pt4.trans pt5).trans p)) fun _ _ _ _ _ _ _ => trivial
        · cases hstep
      | _ => simp_all
     | false =>
      cases hstep
      exact h ys H4 _ (ra.step pt4.stp) pt4
    | _ => rw [h1] at hstep; cases hstep
theorem yd {N' : List Str} {ix ix2 : List (Option Nat)} {tg t2 : Tg} {k k2 : Ik} {src ifs src2 ifs2 : List E} {el : E} (hs : ∀ i ∈ tg.slots, ix[i]? = some none) (hn : tg.slots.Nodup) (hs2 : ∀ i ∈ t2.slots, ix2[i]? = some none) (hn2 : t2.slots.Nodup) (hx : oJ ix ix2 = true) :
 ∀ σ H Q, tE Γ F (.cp2 N' ix ix2 tg k src ifs t2 k2 src2 ifs2 el) σ H Q → sJ ix (tI Γ F k src) (ma Γ tg) (tF Γ F ifs) (j6 (tI Γ F k2 src2) (ma Γ t2) (tF Γ F ifs2) (tE Γ F el)) σ H Q := by
 rintro σ H Q ⟨φ, st, ρ, en, rl, af⟩
 refine mi (c := (·.length ≤ aZ)) (ev := fun xs gs => bF gs (jr F Γ.G ix ix2 tg ifs t2 k2 src2 ifs2 el ρ) xs []) (f := fun ys st => if ys.length ≤ aZ then fresh (.lst ys) st else .bad) en rl af fun {xs gs st1 φ1 H1 J ts st'} pt wk _ hc af => ?_
 split at af
 · have hL := bb
   refine ⟨fun i m ys H => m = xs.length - i ∧ i ≤ xs.length ∧ ∃ φ st acc, Pt Γ φ1 _ H1 φ st H ∧ aA Γ.K (aq φ st) H acc ys ∧ bF gs _ (xs.drop i) acc st = .ok ts _, ⟨_, rfl, Nat.zero_le _, φ1, st1, [], Pt.refl pt.rl, .nil, by simpa using hc⟩, fun _ _ _ _ _ => trivial, ?_⟩
   rintro i m ys H2 ⟨rfl, hi, φ2, st2, acc, pt2, r, hev⟩
   have en2 := (en.step pt).step pt2
   by_cases hlt : i < xs.length
   · rw [List.drop_eq_getElem_cons hlt] at hev
     simp only [bF] at hev
     split at hev
     · rename_i hst
       obtain ⟨go, _⟩ := wk _ _ H2 pt2 hst
       obtain ⟨g1, g2⟩ := go i _ (List.getElem?_eq_getElem _)
       refine .inr ⟨g1, trivial, _, fun ys' H' h' => ⟨_, by omega, rfl, hlt, h'⟩, fun v H3 y => ?_⟩
       obtain ⟨pt3, r3⟩ := g2 v H3 y
       cases hstep : jr F _ ix _ tg _ t2 k2 _ _ el ρ _ _ _ with
       | ok acc' st3 =>
        rw [hstep] at hev
        exact ur (en2.step pt3) pt3.rl r3 (r.step pt3.stp) hs hn hs2 hn2 hx hstep fun zs H' φ' rz p => ⟨φ', st3, _, (pt2.trans pt3).trans p, rz, hev⟩
       | _ => rw [hstep] at hev; cases hev
     · cases hev
   · have ei : i = xs.length := by omega
     subst ei
     rw [List.drop_length] at hev
     simp only [bF] at hev
     split at hev
     · rename_i hst
       cases hev
       obtain ⟨_, stop⟩ := wk _ _ H2 pt2 hst
       have := r.length
       exact .inl ⟨stop, by omega, Af.lst (Af.re af pt2) pt2.rl r⟩
     · cases hev
 · exact af.elim
end
end I
end
section
namespace I
open PySem L2 PySem.Spec PyProof.Rows
end I
end
section
namespace I
open PySem L2 PySem.Spec PyProof.Rows
theorem be {a b : Bool} (h : (a && b) = true) : a = true ∧ b = true := Bool.and_eq_true_iff.mp h
structure Sg where
 gn : Nat → Option Str
 fns : Nat → Option (Str × List Str)
set_option genInjectivity false in
structure Ck where
 N : List Str
 sc : Scope
 own : Bool
 gx : Bool
def BY (sc : Scope) (x : Str) : Bool := match sc.names.lookup x with
 | some .local => true
 | some .cell => true
 | some .free => true
 | _ => false
def jq (sc : Scope) (x : Str) : Bool := sc.names.lookup x == some .globalImplicit
def zI (C : Ck) (x : Str) : Bool := match C.sc.names.lookup x with
 | some .local => true
 | some .cell => C.own
 | _ => false
def cQ : Expr → Bool
 | .Starred _ _ => false
 | _ => true
def tZ : Expr → Bool
 | .UnaryOp .Not _ _ => false
 | .BoolOp _ _ _ => false
 | .IfExp _ _ _ _ => false
 | .Compare _ _ _ _ => false
 | _ => true
def j7 : Expr → Bool
 | .Slice _ _ _ _ => false
 | _ => true
def je : Expr → Bool
 | .Set _ _ _ => false
 | _ => true
def zE : Expr → Bool
 | .List _ _ => false
 | .Set _ _ _ => false
 | _ => true
def zy (sc : Scope) : Bool := !sc.isCoroutine && sc.names.lookup (".0" : Str) == some .local
def dP : Expr → Bool
 | .ListComp _ _ _ _ => false
 | .SetComp _ _ _ _ => false
 | .DictComp _ _ _ _ _ => false
 | _ => true
def G5 : Expr → Bool
 | .ListComp _ _ _ _ => true
 | _ => false
def nK : Expr → Bool
 | .Tuple _ _ _ => true
 | _ => false
def gR : Expr → Bool
 | .Call (.Name x _) [] [] _ => !(x == ("super" : Str))
 | _ => true
def gG : T → Const → Bool
 | .int i, .int j => i == j
 | .str x, .str y => x == y
 | .bl a, .bool b => a == b
 | .non, .none => true
 | _, _ => false
def eZ : Ty → String
 | .int => "int"
 | .bool => "bool"
 | .str => "str"
 | .tuple => "tuple"
 | .list => "list"
def rW : Bf → Option Str
 | .len => some "len"
 | .tuple => some "tuple"
 | .int => some "int"
 | .min2 => some "min"
 | .max2 => some "max"
 | .all => some "all"
 | .sum => some "sum"
 | _ => none
def sB : Mt → Option Str
 | .append => some "append"
 | .reverse => some "reverse"
 | .join => some "join"
 | _ => none
def vR : Mt → List Expr → Bool
 | .append, [_] => true
 | .reverse, [] => true
 | .clear, [] => true
 | .join, [_] => true
 | .insert, [_, _] => true
 | .remove, [_] => true
 | _, _ => false
theorem uY {m : Mt} {ys : List Expr} (h : vR m ys = true) : ys.length < 30 := by
 unfold vR at h
 split at h <;> first | (cases h; done) | simp
def oR (f : Str) (n : Nat) (it : Expr) : Option (List Expr) := match it with
 | .Call (.Name g _) ys [] _ => if g == f && ys.length == n then some ys else none
 | _ => none
theorem g9 {ys} (h : oR f n it = some ys) : ∃ p pos, it = .Call (.Name f p) ys [] pos ∧ ys.length = n := by
 cases it <;> first | (cases h) | skip
 rename_i fn zs kw pos
 cases fn <;> first | (cases h) | skip
 cases kw with
 | cons _ _ => cases h
 | nil =>
  obtain ⟨h1, rfl⟩ := aE h
  simp_all
def dT (k : Ik) (it : Expr) : Option (List Expr) := match k with
 | .seq => some [it]
 | .rng1 => oR "range" 1 it
 | .rng2 => none
 | .enm => oR "enumerate" 1 it
 | .zp => oR "zip" 2 it
def eP : Ik → Option Str
 | .seq => none
 | .rng1 => some "range"
 | .rng2 => some "range"
 | .enm => some "enumerate"
 | .zp => some "zip"
def mB : Ik → Expr → Bool
 | .enm, t => nK t
 | .zp, t => nK t
 | _, _ => true
def ni (C : Ck) (i : Nat) (x : Str) : Bool := C.N[i]? == some x && zI C x
def dF (C : Ck) : List Nat → List Expr → Bool
 | [], [] => true
 | i :: is, .Name x _ :: es => ni C i x && dF C is es
 | _, _ => false
def GN : Gq → Str → Bool
 | .tuple, f => f == ("tuple" : Str)
 | .sum, f => f == ("sum" : Str)
 | _, _ => false
def j9 (C : Ck) : Tg → Expr → Bool
 | .nm i, .Name x _ => ni C i x
 | .tp is, .Tuple es _ _ => dF C is es
 | _, _ => false
def mz (scope sc : Scope) : Scope := { scope with names := scope.names.map fun (n, k) => if (k == .free && sc.kind == .function && sc.names.lookup n == some .cell) then (n, .cell) else (n, k) }
def namesOk (N : List Str) : Bool := N.all fun x => !(x == ("__debug__" : Str)) && !(x == ("__classdict__" : Str))
def fP (ix : List (Option Nat)) (t : Tg) : Bool := t.slots.all (fun i => ix[i]? == some none) && decide t.slots.Nodup
def me (C : Ck) (scope : Scope) (N' : List Str) (ix : List (Option Nat)) (t : Tg) : Bool := aO C.sc C.N scope N' ix && decide N'.Nodup && namesOk N' && fP ix t
theorem pL {ix : List (Option Nat)} {t : Tg} (h : fP ix t = true) : (∀ i ∈ t.slots, ix[i]? = some none) ∧ t.slots.Nodup :=
 have h := be h
 ⟨fun i hi => eq_of_beq (List.all_eq_true.mp h.1 i hi), of_decide_eq_true h.2⟩
theorem iJ {C : Ck} {scope : Scope} {N' : List Str} {ix : List (Option Nat)} {t : Tg} (h : me C scope N' ix t = true) : aO C.sc C.N scope N' ix = true ∧ decide N'.Nodup = true ∧ namesOk N' = true ∧ (∀ i ∈ t.slots, ix[i]? = some none) ∧ t.slots.Nodup :=
 have h := be h
 have h1 := be h.1
 have h2 := be h1.1
 ⟨h2.1, h2.2, h1.2, pL h.2⟩
section
variable (S : Sg)
mutual
def dk : E → Ck → Expr → Bool
 | .v i, C, .Name x _ => C.N[i]? == some x && BY C.sc x
 | .c t, _, .Constant c _ _ => gG t c
 | .c t, _, .UnaryOp .USub (.Constant (.int j) _ _) _ => gG t (.int (-j))
 | .g j, C, .Name x _ => S.gn j == some x && jq C.sc x && !(x == ("__debug__" : Str))
 | .bin o a b, C, .BinOp x op y _ => kI op == some o && dk a C x && dk b C y
 | .cmp o a b, C, .Compare x [op] [y] _ => yI op == some o && !behindInMarks op y && dk a C x && dk b C y
 | .isN a, C, .Compare x [.Is] [.Constant .none _ _] _ => dk a C x
 | .notN a, C, .Compare x [.IsNot] [.Constant .none _ _] _ => dk a C x
 | .and a b, C, .BoolOp .And (x :: y :: r) pos => dk a C x && dk b C (match r with | [] => y | _ :: _ => .BoolOp .And (y :: r) pos)
 | .or a b, C, .BoolOp .Or (x :: y :: r) pos => dk a C x && dk b C (match r with | [] => y | _ :: _ => .BoolOp .Or (y :: r) pos)
 | .not a, C, .UnaryOp .Not x _ => dk a C x
 | .tup es, C, .Tuple xs _ _ => cN es C xs
 | .lst es, C, .List xs _ => cN es C xs
 | .ix a b, C, .Subscript x y _ => j7 y && dk a C x && dk b C y
 | .sl a lo hi, C, .Subscript x (.Slice l h none _) _ => dk a C x && IM lo C l && IM hi C h
 | .ss a, C, .Call (.Name f _) [.Call (.Name g _) [x] [] _] [] _ => f == ("sorted" : Str) && g == ("set" : Str) && jq C.sc f && jq C.sc g && cQ x && dk a C x
 | .ext o e, C, .Call (.Attribute x a ap) [y] [] cp => a == ("extend" : Str) && gR x && ap.endLine == cp.line && cQ y && dk o C x && dk e C y
 | .cp2 N' ix ix2 t k src ifs t2 k2 src2 ifs2 el, C, .ListComp x [⟨tg, it, fs, n⟩, ⟨tg2, CL, fs2, n2⟩] scope _ => n == 0 && n2 == 0 && me C scope N' ix t && fP ix2 t2 && oJ ix ix2 && je it && je CL && mB k tg && mB k2 tg2 && (match eP k with | some f => jq C.sc f | none => true) && (match eP k2 with | some f => jq (mz scope C.sc) f | none => true) && (match dT k it with
  | some ys => cN src C ys
  | none => false) && (match dT k2 CL with
  | some ys => cN src2 ⟨N', mz scope C.sc, false, false⟩ ys
  | none => false) && j9 ⟨N', mz scope C.sc, false, false⟩ t tg && cN ifs ⟨N', mz scope C.sc, false, false⟩ fs && j9 ⟨N', mz scope C.sc, false, false⟩ t2 tg2 && cN ifs2 ⟨N', mz scope C.sc, false, false⟩ fs2 && dk el ⟨N', mz scope C.sc, false, false⟩ x
 | .lsc N' ix t k src ifs el, C, .Call (.Name f _) [.SetComp x [⟨tg, it, fs, n⟩] scope _] [] _ => f == ("len" : Str) && jq C.sc f && n == 0 && me C scope N' ix t && je it && mB k tg && (match eP k with | some f => jq C.sc f | none => true) && (match dT k it with
  | some ys => cN src C ys
  | none => false) && j9 ⟨N', mz scope C.sc, false, false⟩ t tg && cN ifs ⟨N', mz scope C.sc, false, false⟩ fs && dk el ⟨N', mz scope C.sc, false, false⟩ x
 | .call f es, C, .Call (.Name x _) (y :: ys) [] _ => (match S.fns f with
  | some (z, ps) => x == z && ps.length == es.length
  | none => false) && jq C.sc x && !(x == ("__debug__" : Str)) && cN es C (y :: ys)
 | .call f es, C, .Call (.Name x _) [] [] _ => es.isEmpty && (match S.fns f with
  | some (z, ps) => x == z && ps.length == 0
  | none => false) && jq C.sc x && !(x == ("__debug__" : Str))
 | .bf f es, C, .Call (.Name x _) (y :: ys) [] _ => rW f == some x && jq C.sc x && cN es C (y :: ys)
 | .meth m o es, C, .Call (.Attribute x a ap) ys [] cp => sB m == some a && gR x && ap.endLine == cp.line && vR m ys && dk o C x && cN es C ys
 | .isi t a, C, .Call (.Name f _) [x, .Name y _] [] _ => f == ("isinstance" : Str) && y == Str.ofString (eZ t) && jq C.sc f && jq C.sc y && cQ x && dk a C x
 | .srv a, C, .Call (.Name f _) [x] [⟨some k, .Constant (.bool true) _ _, _⟩] _ => f == ("sorted" : Str) && k == ("reverse" : Str) && jq C.sc f && cQ x && dk a C x
 | .frz e, C, x => dk e C x
 | .tr e, C, x => dk e C x
 | .comp N' ix t k src ifs el, C, .ListComp x [⟨tg, it, fs, n⟩] scope _ => n == 0 && me C scope N' ix t && je it && mB k tg && (match eP k with | some f => jq C.sc f | none => true) && (match dT k it with
  | some ys => cN src C ys
  | none => false) && j9 ⟨N', mz scope C.sc, false, false⟩ t tg && cN ifs ⟨N', mz scope C.sc, false, false⟩ fs && dk el ⟨N', mz scope C.sc, false, false⟩ x
 | .gen q N' ix t k src ifs el, C, .Call (.Name f _) [.GeneratorExp x [⟨tg, it, fs, n⟩] scope _] [] _ => GN q f && C.gx && jq C.sc f && n == 0 && me C scope N' ix t && zy scope && zE it && mB k tg && (match eP k with | some f => jq C.sc f | none => true) && (match dT k it with
  | some ys => cN src C ys
  | none => false) && j9 ⟨N', scope, false, false⟩ t tg && cN ifs ⟨N', scope, false, false⟩ fs && dk el ⟨N', scope, false, false⟩ x
 | _, _, _ => false
def cN : List E → Ck → List Expr → Bool
 | [], _, [] => true
 | e :: es, C, x :: xs => cQ x && dk e C x && cN es C xs
 | _, _, _ => false
def IM : Option E → Ck → Option Expr → Bool
 | none, _, none => true
 | some e, C, some x => dk e C x
 | _, _, _ => false
end
end
structure Gd (Γ : Gm) (n : Nat) (C : Ck) (X : Cx) : Prop where
 prog : X.prog = Γ.P
 w : X.w = Γ.w
 K : X.K = Γ.K
 mg : X.mg = Γ.mg
 base : X.base = Γ.base
 calm : X.calm = true
 N : X.N = C.N
 sc : X.env.scope = C.sc
 room : bv (2 * n) X.A
 nd : C.N.Nodup
 nm : namesOk C.N = true
 own : C.own = true → ∀ x, X.fn x = true
 xe : X.xe = fun _ _ => False
 cd : C.gx = true → Bm X.mg X.base ∧ bv (2 * n + 1) X.A ∧ ∃ c P, X.env.code = .ref c ∧ PySem.W.CodeHd X.base c P ∧ P ∈ Γ.tabs
structure Fk (Γ : Gm) (S : Sg) (n : Nat) (F : FT) : Prop where
 gn : S.gn = Γ.gn
 has : ∀ (j : Nat) (x : Str) (ps : List Str), S.fns j = some (x, ps) → Gw Γ.P Γ.w Γ.K Γ.mg Γ.base (2 * n) x ps (yE Γ F j ps.length)
 g : FC Γ
 blt : ∀ x ∈ ([("len" : Str), "tuple", "list", "int", "str", "min", "max", "all", "range", "enumerate", "zip", "any", "sum", "sorted", "set", "isinstance", "bool", "reversed"] : List Str), Γ.mg x = none
theorem mD (h : namesOk N = true) {i : Nat} {x} (e : N[i]? = some x) : (x == "__debug__") = false ∧ (x == "__classdict__") = false := by
 have := List.all_eq_true.mp h x (List.mem_of_getElem? e)
 simpa using this
section
variable {Γ : Gm} {S : Sg} {n : Nat} {F : FT} {X : Cx} {C : Ck}
theorem A2 (h : BY C.sc x = true) (hs : X.env.scope = C.sc) : zw X.env.scope x := by
 unfold BY at h
 unfold zw
 split at h <;> simp_all
theorem bx (h : jq C.sc x = true) (hs : X.env.scope = C.sc) : Gl X x := by
 unfold Gl Env.kindOf
 rw [hs]
 unfold jq at h
 simpa using h
theorem ia (G : Gd Γ n C X) {i} {x} (h : ni C i x = true) : X.N[i]? = some x ∧ Loc X.env.scope x ∧ (X.fn x = true ∨ X.env.scope.names.lookup x = some .local) := by
 unfold ni at h
 simp only [Bool.and_eq_true, beq_iff_eq] at h
 obtain ⟨h1, h2⟩ := h
 rw [G.N, G.sc]
 refine ⟨h1, ?_⟩
 unfold zI at h2
 unfold L2.Loc
 split at h2
 · simp_all
 · rename_i e; exact ⟨.inr e, .inl (G.own h2 x)⟩
 · cases h2
theorem jP (G : Gd Γ n C X) : ∀ {is} {es}, dF C is es = true → mo X is es
 | [], [], _ => trivial
 | i :: is, .Name x _ :: es, h => by
  have h := Bool.and_eq_true_iff.mp h
  exact ⟨ia G h.1, jP G h.2⟩
 | [], _ :: _, h => by cases h
 | _ :: _, [], h => by cases h
 | i :: is, .BoolOp .. :: es, h => by cases h
 | i :: is, .NamedExpr .. :: es, h => by cases h
 | i :: is, .BinOp .. :: es, h => by cases h
 | i :: is, .UnaryOp .. :: es, h => by cases h
 | i :: is, .Lambda .. :: es, h => by cases h
 | i :: is, .IfExp .. :: es, h => by cases h
 | i :: is, .Dict .. :: es, h => by cases h
 | i :: is, .Set .. :: es, h => by cases h
 | i :: is, .ListComp .. :: es, h => by cases h
 | i :: is, .SetComp .. :: es, h => by cases h
 | i :: is, .DictComp .. :: es, h => by cases h
 | i :: is, .GeneratorExp .. :: es, h => by cases h
 | i :: is, .Await .. :: es, h => by cases h
 | i :: is, .Yield .. :: es, h => by cases h
 | i :: is, .YieldFrom .. :: es, h => by cases h
 | i :: is, .Compare .. :: es, h => by cases h
 | i :: is, .Call .. :: es, h => by cases h
 | i :: is, .FormattedValue .. :: es, h => by cases h
 | i :: is, .JoinedStr .. :: es, h => by cases h
 | i :: is, .Constant .. :: es, h => by cases h
 | i :: is, .Attribute .. :: es, h => by cases h
 | i :: is, .Subscript .. :: es, h => by cases h
 | i :: is, .Starred .. :: es, h => by cases h
 | i :: is, .List .. :: es, h => by cases h
 | i :: is, .Tuple .. :: es, h => by cases h
 | i :: is, .Slice .. :: es, h => by cases h
theorem sX (G : Gd Γ n C X) {t : Tg} {x : Expr} (h : j9 C t x = true) : PG X x (tG Γ t) := by
 cases t with
 | nm i =>
  cases x <;> first | (cases h; done) | skip
  obtain ⟨a, b, c⟩ := ia G h
  exact Cq (by rw [G.N]; exact G.nd) a b c
 | tp is =>
  cases x <;> first | (cases h; done) | skip
  exact EI G.K G.calm (by rw [G.N]; exact G.nd) (jP G h)
 | nt i is =>
  cases x <;> cases h
theorem ff (G : Gd Γ n C X) {t : Tg} {x : Expr} (h : j9 C t x = true) : PG X x (ma Γ t) := by
 cases t with
 | nm i =>
  cases x <;> first | (cases h; done) | skip
  obtain ⟨a, b, c⟩ := ia G h
  exact xX (by rw [G.N]; exact G.nd) a b c
 | tp is =>
  cases x <;> first | (cases h; done) | skip
  exact Bw G.K G.calm (by rw [G.N]; exact G.nd) (jP G h)
 | nt i is =>
  cases x <;> cases h
theorem aD (h : cQ x = true) : starEach (x :: xs) env = (false, eval x env) :: starEach xs env := by
 cases x <;> first | rfl | cases h
theorem qC (h : tZ x = true) : ∀ whole, isTrue x env whole = (do let v ← whole; standAt x.pos; holding [v] (truthy v)) := by
 intro whole
 cases x <;> first | rfl | (cases h) | skip
 rename_i op _ _
 cases op <;> first | rfl | (cases h)
theorem nc (h : j7 x = true) : kD x := by
 intro o i
 cases x <;> first | rfl | (cases h)
theorem cw (h : je x = true) : ∀ v, foldedSetIterable x env v = pure v := by
 intro v
 cases x <;> first | rfl | (cases h)
theorem Gd.comp (G : Gd Γ n C X) {scope} {N'} (hn : decide N'.Nodup = true) (hm : namesOk N' = true) (cl : List _) (D : Addr) (ex : List _) (s : Shared) (H : Hp) : Gd Γ n ⟨N', mz scope C.sc, false, false⟩ (ax X N' scope cl D ex s H) :=
 ⟨G.prog, G.w, G.K, G.mg, G.base, G.calm, rfl, by show relabel _ _ = mz _ _; unfold relabel mz Env.kindOf; rw [G.sc], G.room, of_decide_eq_true hn, hm, nofun, rfl, nofun⟩
theorem kZ (h : zE x = true) : ∀ v, genFold x env v = pure v := by
 intro v
 cases x <;> first | rfl | (cases h)
theorem Gd.gen (hd4 : d ≤ 4) (G : Gd Γ n C X) (hx : C.gx = true) {scope} {N'} (hn : decide N'.Nodup = true) (hm : namesOk N' = true) (elt : Expr) (gs : List _) (pos : Pos) (cl : List _) (D : Addr) (code : Value) (it : Addr) (ex : List _) (s : Shared) (H : Hp) : Gd Γ n ⟨N', scope, false, false⟩ (cg d X N' elt gs scope pos cl D code it ex s H) :=
 ⟨G.prog, G.w, G.K, G.mg, G.base, G.calm, rfl, rfl, (G.cd hx).2.1.gen4 hd4, of_decide_eq_true hn, hm, nofun, rfl, nofun⟩
end
end I
end
section
namespace I
open PySem L2 PySem.Spec PyProof.Rows
theorem az {P : Prop} (h : false = true) : P := nomatch h
section
variable {Γ : Gm} {S : Sg} {n : Nat} {F : FT} {X : Cx} {C : Ck}
theorem zH {t} (h : PT X (.BoolOp op vs pos) t) : PW X (.BoolOp op vs pos) t := by
 intro whole pins s σ H Q I q
 have := h _ s σ H Q I q
 exact this
def Ok (Γ : Gm) (F : FT) (X : Cx) (e : E) (x : Expr) : Prop := PE X x (tE Γ F e) ∧ PT X x (tT Γ F e)
theorem Ok.plain (hK : X.K = Γ.K) {e} {x} (h : PE X x (tE Γ F e)) (p : tZ x = true) : Ok Γ F X e x := ⟨h, wM hK h (qC p)⟩
def EW (Γ : Gm) (F : FT) (X : Cx) (es : List E) (xs : List Expr) : Prop := PA X xs (tA Γ F es) ∧ PA X xs (tD Γ F es) ∧ PF X xs (tF Γ F es) ∧ xs.all cQ = true ∧ es.length = xs.length ∧ ∀ e x, es = [e] → xs = [x] → PE X x (tE Γ F e)
theorem dG : ∀ {xs}, xs.all cQ = true → (backTo pos (starEach xs env)).any (·.1) = false
 | [], _ => rfl
 | x :: xs, h => by
  simp only [List.all_cons, Bool.and_eq_true] at h
  rw [aD h.1]
  show (false || (backTo _ _).any _) = false
  rw [dG h.2]
  rfl
theorem my : ∀ {xs}, xs.all cQ = true → (backTo pos (starEach xs env)).all (fun x => !x.1) = true
 | [], _ => rfl
 | x :: xs, h => by
  simp only [List.all_cons, Bool.and_eq_true] at h
  rw [aD h.1]
  show (true && (backTo _ _).all _) = true
  rw [my h.2]
  rfl
theorem dW (h : gR x = true) : attributeBase x a env (eval x env) = eval x env := by
 unfold attributeBase
 split
 · have := by
    unfold gR at h
    simpa using h
   simp [this]
 · rfl
theorem uJ {pos} (h : gG t c = true) : PE X (.Constant c j pos) (tE Γ F (.c t)) := by
 cases t <;> cases c <;> first | (cases h; done) | skip
 · exact fi ir fun _ _ _ => rfl
 · have h := eq_of_beq h
   subst h
   exact fi yU fun _ _ _ => rfl
 · have h := eq_of_beq h
   subst h
   exact fi rK fun _ _ _ => rfl
 · have h := eq_of_beq h
   subst h
   exact fi Ak fun _ _ _ => rfl
theorem Ai {p pos} (h : gG t (.int (-i)) = true) : PE X (.UnaryOp .USub (.Constant (.int i) j p) pos) (tE Γ F (.c t)) := by
 cases t <;> first | (cases h) | skip
 have h := eq_of_beq h
 subst h
 refine L2.PE.imp (EH zR rK) ?_
 rintro σ H Q ⟨φ, st, ρ, en, rl, af⟩
 exact ⟨i, rfl, Af.now af rl rfl⟩
theorem Do (G : Gd Γ n C X) (hF : Fk Γ S n F) {f : Bf} {x : Str} {p pos : Pos} {y : Expr} {ys : List Expr} {es : List E} (hf : rW f = some x) (hg : Gl X x) (hs : EW Γ F X es (y :: ys)) : PE X (.Call (.Name x p) (y :: ys) [] pos) (tE Γ F (.bf f es)) := by
 obtain ⟨ha, _, _, st, _, AN⟩ := hs
 have h1 : starEach (y :: ys) X.env = (false, eval y X.env) :: starEach ys X.env := aD (by simp only [List.all_cons, Bool.and_eq_true] at st; exact st.1)
 have h2 : (backTo pos (starEach ys X.env)).any (·.1) = false := dG (by simp only [List.all_cons, Bool.and_eq_true] at st; exact st.2)
 have bm : ∀ {z : Str}, Γ.mg z = none → X.mg z = none := fun h => by rw [G.mg]; exact h
 cases f <;> first | (cases hf; done) | skip
 · cases hf; exact L2.PE.imp (cx (EV G.K) hg (bm (hF.blt "len" (by simp))) boot_len ha (by decide) (by decide) h1 h2) (eJ EJ)
 · cases hf; exact L2.PE.imp (i9 (qH G.K) hg (bm (hF.blt "tuple" (by simp))) (by decide +kernel) ha (by decide) (by decide) h1 h2) (eJ xZ)
 · cases hf; exact L2.PE.imp (i9 Dv hg (bm (hF.blt "int" (by simp))) (by decide +kernel) ha (by decide) (by decide) h1 h2) (eJ FI)
 · cases hf; exact L2.PE.imp (cx (qp G.calm) hg (bm (hF.blt "min" (by simp))) boot_min ha (by decide) (by decide) h1 h2) (eJ Cu)
 · cases hf; exact L2.PE.imp (cx (pU G.calm) hg (bm (hF.blt "max" (by simp))) boot_max ha (by decide) (by decide) h1 h2) (eJ BS)
 · cases hf; exact L2.PE.imp (cx (Ho G.K G.calm) hg (bm (hF.blt "all" (by simp))) boot_all ha (by decide) (by decide) h1 h2) (eJ DN)
 · cases hf; exact L2.PE.imp (cx (qd G.K G.room.hd) hg (bm (hF.blt "sum" (by simp))) (by decide +kernel) ha (by decide) (by decide) h1 h2) (eJ Eg)
theorem iH (G : Gd Γ n C X) (hF : Fk Γ S n F) {k : Ik} {tg it : Expr} {src : List E} (ht : mB k tg = true) (hn : (match eP k with | some f => jq C.sc f | none => true) = true) (h5 : (match dT k it with | some ys => cN S src C ys | none => false) = true) (hs : ∀ ys, cN S src C ys = true → EW Γ F X src ys) : PI X tg it (tI Γ F k src) := by
 obtain ⟨ys, ha, pa, _, _, st, hl, AN⟩ : ∃ ys, dT k it = some ys ∧ EW Γ F X src ys := by
  split at h5
  · exact ⟨_, ‹_›, hs _ h5⟩
  · cases h5
 have bm : ∀ {z : Str}, Γ.mg z = none → X.mg z = none := fun h => by rw [G.mg]; exact h
 cases k with
 | seq =>
  cases ha
  match src, hl with
  | [e], _ => exact EO G.K (AN e _ rfl rfl)
 | rng1 =>
  obtain ⟨p, pos, rfl, hy⟩ := g9 ha
  match ys, src, hl, hy with
  | [x], [e], _, _ =>
   simp only [List.all_cons, List.all_nil, Bool.and_true] at st
   exact BO (bx hn G.sc) (bm (hF.blt "range" (by simp))) pa (by rw [aD st]; rfl)
 | rng2 => cases ha
 | enm =>
  obtain ⟨p, pos, rfl, hy⟩ := g9 ha
  match ys, src, hl, hy with
  | [x], [e], _, _ =>
   simp only [List.all_cons, List.all_nil, Bool.and_true] at st
   cases tg <;> first | (cases ht; done) | skip
   exact EZ G.K (bx hn G.sc) (bm (hF.blt "enumerate" (by simp))) pa (by rw [aD st]; rfl)
 | zp =>
  obtain ⟨p, pos, rfl, hy⟩ := g9 ha
  match ys, src, hl, hy with
  | [x, y], [e, e'], _, _ =>
   simp only [List.all_cons, List.all_nil, Bool.and_true, Bool.and_eq_true] at st
   cases tg <;> first | (cases ht; done) | skip
   exact Hs G.K (bx hn G.sc) (bm (hF.blt "zip" (by simp))) pa (aD st.1) (dG (by simp [st.2]))
theorem wH {N' : List Str} {ix : List (Option Nat)} {tg : Tg} {k : Ik} {src ifs : List E} {el : E} {P : Addr} (hP : P ∈ Γ.tabs) (hs : ∀ i ∈ tg.slots, ix[i]? = some none) (hn : tg.slots.Nodup) : ∀ σ H Q, tE Γ F (.gen .tuple N' ix tg k src ifs el) σ H Q → zd P ix (tI Γ F k src) (ma Γ tg) (tF Γ F ifs) (tE Γ F el) σ H Q := by
 rintro σ H Q ⟨φ, st, ρ, en, rl, af⟩
 exact mi (c := (·.length ≤ aZ)) (ev := fun xs gs => aa gs (aW F Γ.G ix tg ifs el ρ) xs []) (f := fun ys st => .ok (.d (.tup ys)) st) en rl af fun pt wk hz hc af => ⟨pt.rl.tab P hP, kH (en.step pt) pt.rl wk hs hn hz hc fun vs H' φ' r p => Af.tup (Af.re af p) p.rl r⟩
def um (ys : List T) (st : ae) : ak W := match aK ys with
 | some ns => .ok (.d (.int ns.sum)) st
 | none => .bad
theorem wg (ys : List T) (st : ae) : (match GB .sum ys with | some t => ak.ok (W.d t) st | none => .bad) = um ys st := by
 show (match (aK ys).map fun ns => T.int _ with | some t => ak.ok _ st | none => .bad) = _
 unfold um
 cases aK ys <;> rfl
theorem uc {N' : List Str} {ix : List (Option Nat)} {tg : Tg} {k : Ik} {src ifs : List E} {el : E} {P : Addr} (hP : P ∈ Γ.tabs) (hs : ∀ i ∈ tg.slots, ix[i]? = some none) (hn : tg.slots.Nodup) : ∀ σ H Q, tE Γ F (.gen .sum N' ix tg k src ifs el) σ H Q → zC P ix (tI Γ F k src) (ma Γ tg) (tF Γ F ifs) (tE Γ F el) σ H Q := by
 rintro σ H Q ⟨φ, st, ρ, en, rl, af⟩
 have e : (fun (ys : List T) (st : ae) => (match GB .sum ys with | some t => ak.ok (W.d t) st | none => .bad)) = fun ys st => um ys st := by funext ys st; exact wg ys st
 refine mi (c := (·.length ≤ aZ)) (ev := fun xs gs => aa gs (aW F Γ.G ix tg ifs el ρ) xs []) (f := fun ys st => um ys st) en rl (by rw [← e]; exact af) fun {xs gs st1 φ1 H1 J ts st'} pt wk hz hc af2 => ⟨pt.rl.tab P hP, ?_⟩
 unfold um at af2
 cases q2 : aK ts with
 | none => rw [q2] at af2; exact af2.elim
 | some ns =>
  rw [q2] at af2
  cases cW q2
  exact f9 (OkL := kF) (en.step pt) pt.rl wk .nil hs hn hz hc (fun vs H' φ' r p ms e => by
   cases aA.ints_eq r
   cases (List.map_inj_right (f := V.int) fun a b h => V.int.inj h).mp e
   exact Af.now (Af.re af2 p) p.rl rfl) fun acc ys φ st H pr r => by
    rw [List.prefix_iff_eq_take, ← List.map_take] at pr
    rw [pr] at r
    cases aA.ints_eq r
    exact ⟨_, rfl⟩
inductive yX (K : PySem.W.Frag) (H : Hp) : V → String → Prop
 | non : yX K H .non "NoneType"
 | bl (x : Bool) : yX K H (.bl x) "bool"
 | int (i : Int) : yX K H (.int i) "int"
 | str (x : Str) : yX K H (.str x) "str"
 | lst {a : Addr} {xs : List V} (e : cF K H a xs) : yX K H (.ref a) "list"
 | tup {a : Addr} {xs : List V} (e : eB K H a xs) : yX K H (.ref a) "tuple"
def HC (K : PySem.W.Frag) : List V → Hp → VK → Prop := fun xs H Q => ∃ x n t b, xs = [x, .ty n] ∧ yX K H x t ∧ PySem.W.kitOne K (.type t) (.type n) = some b ∧ Q (.bl b) H
theorem Gc (hK : X.K = Γ.K) : bp X (.builtin "isinstance") (HC Γ.K) := by
 rw [← hK]
 intro pins s σ H xs us Q I rv h
 obtain ⟨x, n, t, b, rfl, ty, e, q⟩ := h
 obtain ⟨u, v, rfl, ru, rv'⟩ := rv.two
 cases rv'
 have dy : ∀ tk, EP X _ σ Q _ _ := fun tk => ⟨.bl b, H, I.tok tk, rfl, q⟩
 cases ty with
 | non => exact d7 I ru .non e dy
 | bl y => exact d7 I ru (.bl y) e dy
 | int y => exact d7 I ru (.int y) e dy
 | str y => exact d7 I ru (.str y) e dy
 | @lst a xs ea =>
  cases show u = Value.ref a from ru
  obtain ⟨its, _, p, _⟩ := I.list ea
  obtain ⟨o, h1, h2, _⟩ := p.isList
  exact PySem.W.kia_one PySem.W.kitx_list I.kIn ⟨o, h1, h2⟩ e nofun dy
 | @tup a xs ea =>
  cases show u = Value.ref a from ru
  obtain ⟨its, _, p, _⟩ := I.tuple ea
  obtain ⟨o, h1, h2, _⟩ := p
  exact PySem.W.kia_one PySem.W.kitx_tuple I.kIn ⟨o, h1, h2⟩ e nofun dy
theorem BE {st} {H} {w} {v} {t} {n} (hi : fG t = true) (rl : Rl Γ φ st H) (r : RW Γ φ st H w v) (h : look w st = some t) : ∃ s, yX Γ.K H v s ∧ PySem.W.kitOne Γ.K (.type s) (.type (eZ n)) = some (rY n t) := by
 cases t with
 | non =>
  rcases r.look rl h with z | ⟨_, _, _, _, _, e, _⟩
  · cases z; exact ⟨_, .non, by cases n <;> rfl⟩
  · cases e
 | bl b => rw [r.bl rl h]; exact ⟨_, .bl b, by cases n <;> rfl⟩
 | int b => rw [r.int rl h]; exact ⟨_, .int b, by cases n <;> rfl⟩
 | str b => rw [r.str rl h]; exact ⟨_, .str b, by cases n <;> rfl⟩
 | tup xs => obtain ⟨a, vs, rfl, q, _⟩ := r.tup rl h; exact ⟨_, .tup q, by cases n <;> rfl⟩
 | lst xs => obtain ⟨a, vs, rfl, q, _⟩ := r.lst rl h; exact ⟨_, .lst q, by cases n <;> rfl⟩
theorem wL (n : Ty) : bootBuiltins (Str.ofString (eZ n)) = some (.type (eZ n)) := by cases n <;> decide +kernel
theorem BA (G : Gd Γ n C X) (hF : Fk Γ S n F) {t} {y} {a} {p pz pos} (hf : Gl X "isinstance") (hz : Gl X (Str.ofString (eZ t))) (hn : cQ y = true) (h : PE X y (tE Γ F a)) : PE X (.Call (.Name "isinstance" p) [y, .Name (Str.ofString (eZ t)) pz] [] pos) (tE Γ F (.isi t a)) := by
 have bm : ∀ {z}, Γ.mg z = none → X.mg z = none := fun h => by rw [G.mg]; exact h
 have ht : PE X (.Name _ pz) (tC (.ty _)) := wB hz (bm (hF.blt _ (by cases t <;> simp [eZ]))) (wL t) rfl (by cases t <;> decide) (by cases t <;> decide)
 refine L2.PE.imp (cx (Gc G.K) hf (bm (hF.blt _ (by simp))) boot_isinstance (fJ h (fJ ht jX rfl) (aD hn)) (by decide) rfl (aD hn) rfl) ?_
 rintro σ H Q ⟨φ, st, ρ, en, rl, af⟩
 refine ⟨φ, st, ρ, en, rl, af.bind.mono fun v H1 ⟨w, st1, φ1, rw1, pt, af1⟩ => ?_⟩
 cases h2 : look w _ with
 | none => rw [h2] at af1; exact af1.elim
 | some u =>
  simp only [h2] at af1
  split at af1
  · rename_i hi
    obtain ⟨s, e1, e2⟩ := BE hi pt.rl rw1 h2
    exact ⟨v, _, s, _, rfl, e1, e2, af1.now pt.rl rfl⟩
  · exact af1.elim
theorem yx (G : Gd Γ n C X) {m : Mt} {x : Expr} {a : Str} {ap cp : Pos} {ys : List Expr} {o : E} {es : List E} (hm : sB m = some a) (hb : gR x = true) (hl : (ap.endLine == cp.line) = true) (har : vR m ys = true) (ho : PE X x (tE Γ F o)) (hs : EW Γ F X es ys) : PE X (.Call (.Attribute x a ap) ys [] cp) (tE Γ F (.meth m o es)) := by
 obtain ⟨_, pd, _, st, hlen, AN⟩ := hs
 have few : ∀ {y : Expr} {zs : List Expr}, ys = y :: zs → ((backTo cp (starEach (y :: zs) X.env)).all (fun x => !x.1) && (backToKw cp (keywordEach [] X.env)).all (fun x => x.1.isSome)
  && decide ((y :: zs).length + ([] : List Keyword).length + (if ([] : List Keyword).isEmpty then 0 else 1) < 30)) = true := fun {y zs} e => by
  rw [← e, my st]
  show (true && true && decide (ys.length + 0 + 0 < 30)) = true
  rw [decide_eq_true (show ys.length + 0 + 0 < 30 from uY har)]
  rfl
 have h1 : ∀ {y : Expr} {zs : List Expr}, ys = y :: zs → starEach (y :: zs) X.env = (false, eval y X.env) :: starEach zs X.env ∧ (backTo cp (starEach zs X.env)).any (·.1) = false := fun {y zs} e => by
  rw [e] at st
  simp only [List.all_cons, Bool.and_eq_true] at st
  exact ⟨aD st.1, dG st.2⟩
 cases m <;> first | (cases hm; done) | skip
 · cases hm
   match ys, es, hlen with
   | [], [], _ => exact az har
   | y :: zs, es, _ => exact L2.PE.imp (nH (K := Γ.K) G.K PySem.F.plainAttrs_list PySem.F.slot_list_append PySem.F.type_list_append qS ho pd (dW hb) (few rfl) hl (h1 rfl).1 (h1 rfl).2) (vN tJ fun _ _ => rfl)
 · cases hm
   match ys, es, hlen with
   | [], [], _ => exact L2.PE.imp (vO (K := Γ.K) G.K PySem.F.plainAttrs_list PySem.F.slot_list_reverse PySem.F.type_list_reverse nv ho (dW hb) hl) (sA qk fun _ _ => rfl)
   | y :: zs, es, _ => exact az har
 · cases hm
   match ys, es, hlen with
   | [y], [e], _ => exact L2.PE.imp (nH (K := Γ.K) G.K PySem.F.plainAttrs_str PySem.F.slot_str_join PySem.F.type_str_join (Aj G.K) ho pd (dW hb) (few rfl) hl (h1 rfl).1 (h1 rfl).2) uP
   | [], [], _ => exact az har
   | _ :: _ :: _, _ :: _ :: _, _ => exact az har
end
mutual
theorem aN {Γ : Gm} {S : Sg} {n : Nat} {F : FT} (hF : Fk Γ S n F) : ∀ (e : E) (C : Ck) (x : Expr) (X : Cx), dk S e C x = true → Gd Γ n C X → Ok Γ F X e x
 | .v i, C, x, X, h, G => by
  cases x <;> try exact az h
  replace h := be h
  simp only [Bool.and_eq_true, beq_iff_eq] at h
  obtain ⟨a, b⟩ := mD G.nm h.1
  exact .plain G.K (Ih (by rw [G.N]; exact h.1) (A2 h.2 G.sc) a b) rfl
 | .c t, C, x, X, h, G => by
  cases x <;> try exact az h
  · rename_i op e pos
    cases op <;> try exact az h
    cases e <;> try exact az h
    rename_i c j p
    cases c <;> try exact az h
    exact .plain G.K (Ai h) rfl
  · exact .plain G.K (uJ h) rfl
 | .g j, C, x, X, h, G => by
  cases x <;> try exact az h
  replace h := be h
  simp only [Bool.and_eq_true, beq_iff_eq, Bool.not_eq_true'] at h
  exact .plain G.K (IR hF.g G.mg (bx h.1.2 G.sc) (by rw [← hF.gn]; exact h.1.1) h.2) rfl
 | .bin o a b, C, x, X, h, G => by
  cases x <;> try exact az h
  replace h := be h
  simp only [Bool.and_eq_true, beq_iff_eq] at h
  obtain ⟨r, h1, h2⟩ := Bb G.K h.1.1
  exact .plain G.K (L2.PE.imp (Du h1 (aN hF a C _ X h.1.2 G).1 (aN hF b C _ X h.2 G).1) (Hg (a := a) (b := b) (fun _ _ => by first | rfl | (simp only [aj]; rfl) | simp only [aj]) h2)) rfl
 | .cmp o a b, C, x, X, h, G => by
  cases x <;> try exact az h
  rename_i l ops cs pos
  rcases ops with _ | ⟨op, _ | ⟨_, _⟩⟩ <;> rcases cs with _ | ⟨y, _ | ⟨_, _⟩⟩ <;> try exact az h
  · skip
    replace h := be h
    simp only [Bool.and_eq_true, beq_iff_eq, Bool.not_eq_true'] at h
    obtain ⟨⟨⟨h1, h2⟩, h3⟩, h4⟩ := h
    obtain ⟨r, k1, k2⟩ := Bu G.K G.room.units h1
    have i := Hg (F := F) (e := .cmp o a b) (a := a) (b := b) (fun _ _ => by first | rfl | (simp only [aj]; rfl) | simp only [aj]) k2
    refine ⟨L2.PE.imp (kq k1 (aN hF a C _ X h3 G).1 (aN hF b C _ X h4 G).1 h2) i, ku (j8 k1 (aN hF a C _ X h3 G).1 (aN hF b C _ X h4 G).1 h2) i fun ρ st w st' q => ?_⟩
    simp only [aj] at q
    cases q1 : aj F Γ.G a ρ st with
    | ok w1 st1 =>
     rw [q1] at q
     simp only [ak.bind] at q
     cases q2 : aj F Γ.G b ρ st1 with
     | ok w2 st2 => rw [q2] at q; exact let ⟨b, e, _⟩ := Cm q; ⟨b, e⟩
     | _ => rw [q2] at q; cases q
    | _ => rw [q1] at q; cases q
 | .isN a, C, x, X, h, G => by
  cases x <;> try exact az h
  rename_i l ops cs pos
  rcases ops with _ | ⟨op, _ | ⟨_, _⟩⟩ <;> (try exact az h) <;> cases op <;> (try exact az h) <;> rcases cs with _ | ⟨y, _ | ⟨_, _⟩⟩ <;> (try exact az h) <;> cases y <;> (try exact az h) <;> rename_i cn _ _ <;> cases cn <;> (try exact az h)
  · skip
    have ih := (aN hF a C _ X h G).1
    exact ⟨Bj ih, ku (j8 uQ ih ir (kr _)) o7 (yO fun ρ st => ⟨a, _, by first | rfl | (simp only [aj]; rfl) | simp only [aj]⟩)⟩
 | .notN a, C, x, X, h, G => by
  cases x <;> try exact az h
  rename_i l ops cs pos
  rcases ops with _ | ⟨op, _ | ⟨_, _⟩⟩ <;> (try exact az h) <;> cases op <;> (try exact az h) <;> rcases cs with _ | ⟨y, _ | ⟨_, _⟩⟩ <;> (try exact az h) <;> cases y <;> (try exact az h) <;> rename_i cn _ _ <;> cases cn <;> (try exact az h)
  · skip
    have ih := (aN hF a C _ X h G).1
    exact ⟨yh ih, ku (j8 nX ih ir (kr _)) lZ (yO fun ρ st => ⟨a, _, by first | rfl | (simp only [aj]; rfl) | simp only [aj]⟩)⟩
 | .and a b, C, x, X, h, G => by
  cases x <;> try exact az h
  rename_i op vs pos
  rcases vs with _ | ⟨y, _ | ⟨z, _ | ⟨w, r⟩⟩⟩ <;> cases op <;> try exact az h
  · skip
    replace h := be h
    have ha := aN hF a C _ X h.1 G
    have hb := aN hF b C _ X h.2 G
    refine ⟨L2.PE.imp (oz ha.1 (sH hb.1)) fun σ H Q q => ?_, L2.PT.imp (PW.pt (vq ha.2 (wV hb.2))) F3⟩
    rw [G.K]
    exact and_imp σ H Q q
  · skip
    replace h := be h
    have ha := aN hF a C _ X h.1 G
    have hb := aN hF b C _ X h.2 G
    refine ⟨L2.PE.imp (oz ha.1 hb.1) fun σ H Q q => ?_, L2.PT.imp (PW.pt (vq ha.2 (zH hb.2))) F3⟩
    rw [G.K]
    exact and_imp σ H Q q
 | .or a b, C, x, X, h, G => by
  cases x <;> try exact az h
  rename_i op vs pos
  rcases vs with _ | ⟨y, _ | ⟨z, _ | ⟨w, r⟩⟩⟩ <;> cases op <;> try exact az h
  · skip
    replace h := be h
    have ha := aN hF a C _ X h.1 G
    have hb := aN hF b C _ X h.2 G
    refine ⟨L2.PE.imp (sN ha.1 (sH hb.1)) fun σ H Q q => ?_, L2.PT.imp (PW.pt (zx ha.2 (AK hb.2))) Ji⟩
    rw [G.K]
    exact or_imp σ H Q q
  · skip
    replace h := be h
    have ha := aN hF a C _ X h.1 G
    have hb := aN hF b C _ X h.2 G
    refine ⟨L2.PE.imp (sN ha.1 hb.1) fun σ H Q q => ?_, L2.PT.imp (PW.pt (zx ha.2 (zH hb.2))) Ji⟩
    rw [G.K]
    exact or_imp σ H Q q
 | .not a, C, x, X, h, G => by
  cases x <;> try exact az h
  rename_i op y pos
  cases op <;> try exact az h
  have ha := aN hF a C _ X h G
  refine ⟨L2.PE.imp (we ha.1) fun σ H Q q => ?_, L2.PT.imp (Ba ha.2) Hc⟩
  rw [G.K]
  exact wf σ H Q q
 | .tup es, C, x, X, h, G => by
  cases x <;> try exact az h
  exact .plain G.K (A5 (bn hF es C _ X h G).2.1) rfl
 | .lst es, C, x, X, h, G => by
  cases x <;> try exact az h
  exact .plain G.K (Bl (bn hF es C _ X h G).2.1) rfl
 | .ix a b, C, x, X, h, G => by
  cases x <;> try exact az h
  replace h := be h
  simp only [Bool.and_eq_true] at h
  exact .plain G.K (Bz G.K (aN hF a C _ X h.1.2 G).1 (aN hF b C _ X h.2 G).1 (nc h.1.1)) rfl
 | .sl a lo hi, C, x, X, h, G => by
  cases x <;> try exact az h
  rename_i y z pos
  cases z <;> try exact az h
  rename_i l u s p
  cases s with
  | some _ => exact az h
  | none =>
   replace h := be h
   simp only [Bool.and_eq_true] at h
   exact .plain G.K (At G.K (aN hF a C _ X h.1.1 G).1 (EC hF lo C _ X h.1.2 G) (EC hF hi C _ X h.2 G)) rfl
 | .ss a, C, x, X, h, G => by
  cases x <;> try exact az h
  rename_i fn ys kw pos
  cases fn <;> try exact az h
  rename_i f p
  rcases ys with _ | ⟨y, tl⟩ <;> try exact az h
  cases y <;> try exact az h
  rename_i gn zs kw2 pos2
  cases gn <;> try exact az h
  rename_i g p2
  rcases zs with _ | ⟨z, _ | ⟨_, _⟩⟩ <;> try exact az h
  rcases kw2 with _ | ⟨_, _⟩ <;> rcases tl with _ | ⟨_, _⟩ <;> rcases kw with _ | ⟨_, _⟩ <;> try exact az h
  · skip
    replace h := be h
    simp only [Bool.and_eq_true, beq_iff_eq] at h
    obtain ⟨⟨⟨⟨⟨h1, h2⟩, h3⟩, h4⟩, h5⟩, h6⟩ := h
    subst h1 h2
    have bm : ∀ {z : Str}, Γ.mg z = none → X.mg z = none := fun h => by rw [G.mg]; exact h
    exact .plain G.K (F8 G.K G.room.hd (bx h3 G.sc) (bx h4 G.sc) (bm (hF.blt "sorted" (by simp))) (bm (hF.blt "set" (by simp))) (aD h5) (aN hF a C _ X h6 G).1) rfl
 | .ext o e, C, x, X, h, G => by
  cases x <;> try exact az h
  rename_i fn ys kw pos
  cases fn <;> try exact az h
  rename_i x a ap
  rcases ys with _ | ⟨y, _ | ⟨_, _⟩⟩ <;> rcases kw with _ | ⟨_, _⟩ <;> try exact az h
  · skip
    replace h := be h
    simp only [Bool.and_eq_true, beq_iff_eq] at h
    obtain ⟨⟨⟨⟨⟨h1, h2⟩, h3⟩, h4⟩, h5⟩, h6⟩ := h
    subst h1
    have hs := aD (env := X.env) (xs := []) h4
    exact .plain G.K (L2.PE.imp (nH (K := Γ.K) G.K PySem.F.plainAttrs_list PySem.F.slot_list_extend PySem.F.type_list_extend qq (aN hF o C _ X h5 G).1 (lS (aN hF e C _ X h6 G).1 pQ hs) (dW h2) (by rw [hs]; rfl) (by simpa using h3) hs rfl) vT) rfl
 | .cp2 N' ix ix2 t k src ifs t2 k2 src2 ifs2 el, C, x, X, h, G => by
  cases x <;> try exact az h
  rename_i elt gs scope pos
  rcases gs with _ | ⟨⟨tg, it, fs, m⟩, _ | ⟨⟨tg2, CL, fs2, m2⟩, _ | ⟨_, _⟩⟩⟩ <;> try exact az h
  · skip
    replace h := be h
    simp only [Bool.and_eq_true, beq_iff_eq] at h
    obtain ⟨⟨⟨⟨⟨⟨⟨⟨⟨⟨⟨⟨⟨⟨⟨⟨⟨h0, h02⟩, hb⟩, b5⟩, hx⟩, h2⟩, h22⟩, h3⟩, h32⟩, h4⟩, h42⟩, h5⟩, h52⟩, h6⟩, h7⟩, h62⟩, h72⟩, h8⟩ := h
    subst h0 h02
    obtain ⟨b1, b2, b3, hs, b4⟩ := iJ hb
    obtain ⟨hs2, b5⟩ := pL b5
    have hi : PI X tg it (tI Γ F k src) := iH G hF h3 h4 h5 fun ys h => bn hF src C ys X h G
    have hi2 : ∀ cl D ex s H, PI (ax X N' scope cl D ex s H) tg2 CL (tI Γ F k2 src2) := fun cl D ex s H => iH (G.comp b2 b3 cl D ex s H) hF h32 h42 h52 fun ys h => bn hF src2 _ ys _ h (G.comp b2 b3 cl D ex s H)
    exact .plain G.K (L2.PE.imp (u5 (N' := N') (ix := ix) G.calm hi (fun _ _ _ _ _ => ff (G.comp b2 b3 ..) h6) (fun _ _ _ _ _ => (bn hF ifs _ fs _ h7 (G.comp b2 b3 ..)).2.2.1) (fun _ _ _ _ _ => (aN hF el _ elt _ h8 (G.comp b2 b3 ..)).1) hi2 (fun _ _ _ _ _ => ff (G.comp b2 b3 ..) h62) (fun _ _ _ _ _ => (bn hF ifs2 _ fs2 _ h72 (G.comp b2 b3 ..)).2.2.1) (fun _ _ => cw h22) (by rw [G.sc, G.N]; exact b1) (cw h2)) (yd hs b4 hs2 b5 hx)) rfl
 | .lsc N' ix t k src ifs el, C, x, X, h, G => by
  cases x <;> try exact az h
  rename_i fn ys kw pos
  cases fn <;> try exact az h
  rename_i f p
  rcases ys with _ | ⟨y, tl⟩ <;> try exact az h
  cases y <;> try exact az h
  rename_i elt gs scope spos
  rcases gs with _ | ⟨⟨tg, it, fs, m⟩, _ | ⟨_, _⟩⟩ <;> try exact az h
  rcases tl with _ | ⟨_, _⟩ <;> rcases kw with _ | ⟨_, _⟩ <;> try exact az h
  · skip
    replace h := be h
    simp only [Bool.and_eq_true, beq_iff_eq] at h
    obtain ⟨⟨⟨⟨⟨⟨⟨⟨⟨⟨hf, hgl⟩, h0⟩, hb⟩, h2⟩, h3⟩, h4⟩, h5⟩, h6⟩, h7⟩, h8⟩ := h
    subst h0 hf
    obtain ⟨b1, b2, b3, hs, b4⟩ := iJ hb
    have hi : PI X tg it (tI Γ F k src) := iH G hF h3 h4 h5 fun ys h => bn hF src C ys X h G
    exact .plain G.K (L2.PE.imp (uZ (N' := N') (ix := ix) G.calm (bx hgl G.sc) (by rw [G.mg]; exact hF.blt "len" (by simp)) hi (fun _ _ _ _ _ => ff (G.comp b2 b3 ..) h6) (fun _ _ _ _ _ => (bn hF ifs _ fs _ h7 (G.comp b2 b3 ..)).2.2.1) (fun _ _ _ _ _ => (aN hF el _ elt _ h8 (G.comp b2 b3 ..)).1) (by rw [G.sc, G.N]; exact b1) (cw h2)) (vJ hs b4)) rfl
 | .call f es, C, x, X, h, G => by
  cases x <;> try exact az h
  rename_i fn ys kw pos
  cases fn <;> try exact az h
  rename_i x p
  rcases ys with _ | ⟨y, ys⟩ <;> rcases kw with _ | ⟨_, _⟩ <;> try exact az h
  · skip
    replace h := be h
    simp only [Bool.and_eq_true, Bool.not_eq_true', List.isEmpty_iff] at h
    obtain ⟨⟨⟨rfl, h1⟩, h2⟩, h3⟩ := h
    cases q : S.fns f with
    | none => rw [q] at h1; cases h1
    | some z =>
     obtain ⟨z, ps⟩ := z
     rw [q] at h1
     simp only [Bool.and_eq_true, beq_iff_eq] at h1
     obtain ⟨rfl, hl⟩ := h1
     obtain ⟨g, fd, Fn, hm, hk, hb⟩ := (hF.has f x ps q).ex
     rw [← G.prog, ← G.w, ← G.K, ← G.mg, ← G.base] at *
     exact .plain G.K (L2.PE.imp (sx Fn G.room (bx h2 G.sc) hm hk hb .nil zA h3) fun σ H Q z => by
      obtain ⟨φ, st, ρ, en, rl, af⟩ := kK (n := 0) rfl trivial σ H Q z
      rw [hl]
      exact af [] H φ rfl (Pt.refl rl)) rfl
  · skip
    replace h := be h
    simp only [Bool.and_eq_true, Bool.not_eq_true'] at h
    obtain ⟨⟨⟨h1, h2⟩, h3⟩, h4⟩ := h
    cases q : S.fns f with
    | none => rw [q] at h1; cases h1
    | some z =>
     obtain ⟨z, ps⟩ := z
     rw [q] at h1
     simp only [Bool.and_eq_true, beq_iff_eq] at h1
     obtain ⟨rfl, hl⟩ := h1
     have hs := bn hF es C _ X h4 G
     have st := hs.2.2.2.1
     simp only [List.all_cons, Bool.and_eq_true] at st
     have hh := hF.has f x ps q
     rw [← G.prog, ← G.w, ← G.K, ← G.mg, ← G.base] at hh
     exact .plain G.K (L2.PE.imp (BV hh G.room (bx h2 G.sc) hs.1 h3 (aD st.1) (dG st.2)) (kK hl.symm trivial)) rfl
 | .bf f es, C, x, X, h, G => by
  cases x <;> try exact az h
  rename_i fn ys kw pos
  cases fn <;> try exact az h
  rename_i x p
  rcases ys with _ | ⟨y, ys⟩ <;> rcases kw with _ | ⟨_, _⟩ <;> try exact az h
  · skip
    replace h := be h
    simp only [Bool.and_eq_true, beq_iff_eq] at h
    exact .plain G.K (Do G hF h.1.1 (bx h.1.2 G.sc) (bn hF es C _ X h.2 G)) rfl
 | .meth m o es, C, x, X, h, G => by
  cases x <;> try exact az h
  rename_i fn ys kw pos
  cases fn <;> try exact az h
  rename_i x a ap
  rcases kw with _ | ⟨_, _⟩ <;> try exact az h
  · skip
    replace h := be h
    simp only [Bool.and_eq_true, beq_iff_eq] at h
    obtain ⟨⟨⟨⟨⟨h1, h2⟩, h3⟩, h4⟩, h5⟩, h6⟩ := h
    exact .plain G.K (yx G h1 h2 (by simpa using h3) h4 (aN hF o C _ X h5 G).1 (bn hF es C _ X h6 G)) rfl
 | .isi t a, C, x, X, h, G => by
  cases x <;> try exact az h
  rename_i fn ys kw pos
  cases fn <;> try exact az h
  rename_i f p
  rcases ys with _ | ⟨y, _ | ⟨y2, _ | ⟨_, _⟩⟩⟩ <;> try exact az h
  rotate_left
  · cases y2 <;> first | exact az h | (rcases kw with _ | ⟨_, _⟩ <;> exact az h)
  cases y2 <;> try exact az h
  rename_i z pz
  rcases kw with _ | ⟨_, _⟩ <;> try exact az h
  · skip
    replace h := be h
    simp only [Bool.and_eq_true, beq_iff_eq] at h
    obtain ⟨⟨⟨⟨⟨h1, h2⟩, h3⟩, h4⟩, h5⟩, h6⟩ := h
    subst h1 h2
    exact .plain G.K (BA G hF (bx h3 G.sc) (bx h4 G.sc) h5 (aN hF a C y X h6 G).1) rfl
 | .srv a, C, x, X, h, G => by
  cases x <;> try exact az h
  rename_i fn ys kw pos
  cases fn <;> try exact az h
  rename_i f p
  rcases ys with _ | ⟨y, _ | ⟨_, _⟩⟩ <;> rcases kw with _ | ⟨⟨nm, v, kp⟩, tl⟩ <;> try exact az h
  cases nm <;> try exact az h
  cases v <;> try exact az h
  rename_i c j p2
  cases c <;> try exact az h
  rename_i b
  cases b <;> try exact az h
  rcases tl with _ | ⟨_, _⟩ <;> try exact az h
  replace h := be h
  simp only [Bool.and_eq_true, beq_iff_eq] at h
  obtain ⟨⟨⟨⟨h1, h2⟩, h3⟩, h5⟩, h6⟩ := h
  subst h1 h2
  have bm : ∀ {z : Str}, Γ.mg z = none → X.mg z = none := fun h => by rw [G.mg]; exact h
  exact .plain G.K (zN G.K (bx h3 G.sc) (bm (hF.blt "sorted" (by simp))) (aD h5) (aN hF a C _ X h6 G).1) rfl
 | .frz e, C, x, X, h, G => by
  have ih := aN hF e C x X h G
  refine ⟨L2.PE.imp ih.1 fun σ H Q ⟨φ, st, ρ, en, rl, af⟩ => ⟨φ, st, ρ, en, rl, by simp only [aj] at af; exact af.frz rl⟩, L2.PT.imp ih.2 fun σ H Q ⟨φ, st, ρ, en, rl, af⟩ => ⟨φ, st, ρ, en, rl, ?_⟩⟩
  unfold kE at af ⊢
  simp only [aj] at af
  cases h1 : aj F Γ.G e ρ st with
  | ok w st1 =>
   rw [h1] at af
   simp only [ak.bind] at af ⊢
   cases h2 : aJ st.length w st1 with
   | ok t st2 =>
    rw [h2] at af
    simp only at af
    have ht : aT w st1 = aT (.d t) st2 := by
     cases w with
     | d u => cases h2; rfl
     | ref k =>
      cases q : st1[k]? with
      | none => simp [aJ, q] at h2
      | some o =>
       cases o with
       | none => simp [aJ, q] at h2
       | some xs =>
        simp only [aJ, q, ak.ok.injEq] at h2
        obtain ⟨rfl, _⟩ := h2
        simp [aT, look, q]
    rw [ht]
    cases h3 : aT (.d t) st2 with
    | none => rw [h3] at af; exact af.elim
    | some b =>
     rw [h3] at af
     intro H1 φ1 pt
     have : ∃ φ2, Pt Γ φ st H φ2 st2 H1 := by
      cases w with
      | d u => cases h2; exact ⟨_, pt.cut rl.len⟩
      | ref k =>
       cases q : st1[k]? with
       | none => simp [aJ, q] at h2
       | some o =>
        cases o with
        | none => simp [aJ, q] at h2
        | some xs =>
         have hk := (List.getElem?_eq_some_iff.mp q).1
         rw [← pt.rl.len] at hk
         obtain ⟨φ2, p2, _⟩ := hV (w := .ref k) rl.len pt ⟨φ1[k], List.getElem?_eq_getElem hk, rfl⟩ h2
         exact ⟨φ2, p2⟩
     obtain ⟨φ2, p2⟩ := this
     exact af H1 φ2 p2
   | _ => rw [h2] at af; exact af.elim
  | _ => rw [h1] at af; exact af.elim
 | .tr e, C, x, X, h, G => by
  have ih := aN hF e C x X h G
  refine ⟨L2.PE.imp ih.1 fun σ H Q ⟨φ, st, ρ, en, rl, af⟩ => ⟨φ, st, ρ, en, rl, by simp only [aj] at af; exact af.tr rl⟩, L2.PT.imp ih.2 fun σ H Q ⟨φ, st, ρ, en, rl, af⟩ => ⟨φ, st, ρ, en, rl, ?_⟩⟩
  unfold kE at af ⊢
  simp only [aj] at af
  cases h1 : aj F Γ.G e ρ st with
  | ok w st1 =>
   rw [h1] at af
   simp only [ak.bind] at af ⊢
   cases w with
   | d u =>
    simp only [ci] at af
    have ht : aT (.d u) (st1.take st.length) = aT (.d u) st1 := rfl
    rw [ht] at af
    cases h3 : aT (.d u) st1 with
    | none => rw [h3] at af; exact af.elim
    | some b => rw [h3] at af; exact fun H1 φ1 pt => af H1 _ (pt.cut rl.len)
   | ref k =>
    cases h2 : ci st.length (.ref k) st1 with
    | ok w' st2 =>
     rw [h2] at af
     simp only at af
     have ht : ∀ b, aT w' st2 = some b → aT (.ref k) st1 = some b := by
      intro b hb
      by_cases hk : k < st.length
      · simp only [ci, if_pos hk, ak.ok.injEq] at h2
        obtain ⟨rfl, rfl⟩ := h2
        simpa [aT, look, List.getElem?_take, hk] using hb
      · cases q : st1[k]? with
        | none => simp [ci, hk, q] at h2
        | some o =>
         cases o with
         | none => simp [ci, hk, q] at h2
         | some xs =>
          simp only [ci, if_neg hk, q, ak.ok.injEq] at h2
          obtain ⟨rfl, rfl⟩ := h2
          have e1 : (st1.take st.length ++ [some xs])[(st1.take st.length).length]? = some (some xs) := by
           rw [List.getElem?_append_right (Nat.le_refl _), Nat.sub_self]; rfl
          simp only [aT, look, e1, Option.bind_some] at hb
          simp only [aT, look, q, Option.bind_some]
          exact hb
     cases h3 : aT w' st2 with
     | none => rw [h3] at af; exact af.elim
     | some b =>
      rw [h3] at af
      rw [ht b h3]
      intro H1 φ1 pt
      have hk : k < φ1.length := by
       rw [pt.rl.len]
       cases q : st1[k]? with
       | none =>
        have := ht b h3
        simp [aT, look, q] at this
       | some o => exact (List.getElem?_eq_some_iff.mp q).1
      obtain ⟨φ2, p2, _⟩ := ve rl.len pt (w := .ref k) ⟨φ1[k], List.getElem?_eq_getElem hk, rfl⟩ h2
      exact af H1 φ2 p2
    | _ => rw [h2] at af; exact af.elim
  | _ => rw [h1] at af; exact af.elim
 | .comp N' ix t k src ifs el, C, x, X, h, G => by
  cases x <;> try exact az h
  rename_i elt gs scope pos
  rcases gs with _ | ⟨⟨tg, it, fs, m⟩, _ | ⟨_, _⟩⟩ <;> try exact az h
  · skip
    replace h := be h
    simp only [Bool.and_eq_true, beq_iff_eq] at h
    obtain ⟨⟨⟨⟨⟨⟨⟨⟨h0, hb⟩, h2⟩, h3⟩, h4⟩, h5⟩, h6⟩, h7⟩, h8⟩ := h
    subst h0
    obtain ⟨b1, b2, b3, hs, b4⟩ := iJ hb
    have hi : PI X tg it (tI Γ F k src) := iH G hF h3 h4 h5 fun ys h => bn hF src C ys X h G
    refine .plain G.K (L2.PE.imp (oP (N' := N') (ix := ix) G.calm hi (fun _ _ _ _ _ => ff (G.comp b2 b3 ..) h6) (fun _ _ _ _ _ => (bn hF ifs _ fs _ h7 (G.comp b2 b3 ..)).2.2.1) (fun _ _ _ _ _ => (aN hF el _ elt _ h8 (G.comp b2 b3 ..)).1) (by rw [G.sc, G.N]; exact b1) (cw h2)) (lM hs b4)) rfl
 | .gen q N' ix t k src ifs el, C, x, X, h, G => by
  cases x <;> try exact az h
  rename_i fn ys kw pos
  cases fn <;> try exact az h
  rename_i f p
  rcases ys with _ | ⟨y, _ | ⟨_, _⟩⟩ <;> try exact az h
  rotate_left
  · cases y <;> first | exact az h | (rename_i gs _ _; rcases gs with _ | ⟨⟨_, _, _, _⟩, _ | ⟨_, _⟩⟩ <;> exact az h)
  cases y <;> try exact az h
  rename_i elt gs scope gpos
  rcases gs with _ | ⟨⟨tg, it, fs, m⟩, _ | ⟨_, _⟩⟩ <;> try exact az h
  rcases kw with _ | ⟨_, _⟩ <;> try exact az h
  · skip
    replace h := be h
    simp only [Bool.and_eq_true, beq_iff_eq] at h
    obtain ⟨⟨⟨⟨⟨⟨⟨⟨⟨⟨⟨⟨hf, hx⟩, hgl⟩, h0⟩, hb⟩, hgo⟩, h2⟩, h3⟩, h4⟩, h5⟩, h6⟩, h7⟩, h8⟩ := h
    subst h0
    obtain ⟨b1, b2, b3, hs, b4⟩ := iJ hb
    unfold zy at hgo
    simp only [Bool.and_eq_true, Bool.not_eq_true', beq_iff_eq] at hgo
    obtain ⟨B, hr, c, P, hc, hd, hP⟩ := G.cd hx
    have hi : PI X tg it (tI Γ F k src) := iH G hF h3 h4 h5 fun ys h => bn hF src C ys X h G
    cases q with
    | tuple =>
     cases eq_of_beq (show (f == ("tuple" : Str)) = true from hf)
     exact .plain G.K (L2.PE.imp (xT (N' := N') (ix := ix) G.calm hr (bx hgl G.sc) (by rw [G.mg]; exact hF.blt "tuple" (by simp)) B hd hc hi (fun _ _ _ _ _ _ _ => ff (G.gen (by decide) hx b2 b3 ..) h6) (fun _ _ _ _ _ _ _ => (bn hF ifs _ fs _ h7 (G.gen (by decide) hx b2 b3 ..)).2.2.1) (fun _ _ _ _ _ _ _ => (aN hF el _ elt _ h8 (G.gen (by decide) hx b2 b3 ..)).1) (by rw [G.sc, G.N]; exact b1) hgo.1 hgo.2 (kZ h2)) (wH hP hs b4)) rfl
    | sum =>
     cases eq_of_beq (show (f == ("sum" : Str)) = true from hf)
     exact .plain G.K (L2.PE.imp (yv (N' := N') (ix := ix) G.calm hr (bx hgl G.sc) (by rw [G.mg]; exact hF.blt "sum" (by simp)) B hd hc hi (fun _ _ _ _ _ _ _ => ff (G.gen (by decide) hx b2 b3 ..) h6) (fun _ _ _ _ _ _ _ => (bn hF ifs _ fs _ h7 (G.gen (by decide) hx b2 b3 ..)).2.2.1) (fun _ _ _ _ _ _ _ => (aN hF el _ elt _ h8 (G.gen (by decide) hx b2 b3 ..)).1) (by rw [G.sc, G.N]; exact b1) hgo.1 hgo.2 (kZ h2)) (uc hP hs b4)) rfl
    | _ => cases hf
theorem bn {Γ : Gm} {S : Sg} {n : Nat} {F : FT} (hF : Fk Γ S n F) : ∀ (es : List E) (C : Ck) (xs : List Expr) (X : Cx), cN S es C xs = true → Gd Γ n C X → EW Γ F X es xs
 | [], C, xs, X, h, G => by
  cases xs with
  | nil => exact ⟨pQ, vW, DC, rfl, rfl, nofun⟩
  | cons => exact az h
 | e :: es, C, xs, X, h, G => by
  cases xs with
  | nil => exact az h
  | cons x xs =>
   replace h := be h
   simp only [Bool.and_eq_true] at h
   have h1 := aN hF e C x X h.1.2 G
   have h2 := bn hF es C xs X h.2 G
   exact ⟨lS h1.1 h2.1 (aD h.1.1), tm h1.1 h2.2.1 (aD h.1.1), Ae h1.2 h2.2.2.1, by simp only [List.all_cons, h.1.1, h2.2.2.2.1, Bool.and_self], by rw [List.length_cons, List.length_cons, h2.2.2.2.2.1], fun _ _ a b => by cases a; cases b; exact h1.1⟩
theorem EC {Γ : Gm} {S : Sg} {n : Nat} {F : FT} (hF : Fk Γ S n F) : ∀ (e : Option E) (C : Ck) (x : Option Expr) (X : Cx), IM S e C x = true → Gd Γ n C X → PO X x (tO Γ F e)
 | none, C, x, X, h, G => by
  cases x with
  | none => exact rJ
  | some _ => exact az h
 | some e, C, x, X, h, G => by
  cases x with
  | none => exact az h
  | some x =>
   exact rE (aN hF e C x X h G).1
end
end I
end
section
namespace L2
section
variable {X : Cx} {pos : Pos}
def Em (i j k : Nat) (ta : TA) : TS := fun D σ H => ta σ H fun vs H1 => ∃ v w z, vs = [v, w, z] ∧ D.nx (((σ.set i (some v)).set j (some w)).set k (some z)) H1
theorem xQ {i j k : Nat} {x y z : Str} {a b c : Expr} {ta : TA} {px py pz pt : Pos} {kt k2 pt2} (hc : X.calm = true) (hN : X.N.Nodup) (hi : X.N[i]? = some x) (hj : X.N[j]? = some y) (hk : X.N[k]? = some z) (hij : i ≠ j) (hik : i ≠ k) (hjk : j ≠ k)
 (hx : X.env.scope.names.lookup x = some .local) (hy : X.env.scope.names.lookup y = some .local) (hz : X.env.scope.names.lookup z = some .local) (ha : PA X [a, b, c] ta)
 (hw : swappedStores [.Tuple [.Name x px, .Name y py, .Name z pz] kt pt] (.Tuple [a, b, c] k2 pt2) X.env = pure (some [x, y, z]))
 (hs : swapsWithSole [.Tuple [.Name x px, .Name y py, .Name z pz] kt pt] (.Tuple [a, b, c] k2 pt2) pos.line X.env = pure false := by rfl) :
 PS X (.Assign [.Tuple [.Name x px, .Name y py, .Name z pz] kt pt] (.Tuple [a, b, c] k2 pt2) pos) (Em i j k ta) := by
 intro pins s σ H D I h
 refine wpAny_bind (wpAny_standAt ?_)
 refine wpAny_bind (wpAny_pure ?_)
 refine wpAny_bind (Tuple_ (aU (ha _ _ s σ H _ I h) fun us s1 ⟨vs, H1, I1, r1, q1⟩ => ?_))
 obtain ⟨v, w, u, e1, q1⟩ := q1
 subst e1
 obtain ⟨u1, u2, u3, rfl, rv, rw', ru⟩ : ∃ u1 u2 u3, us = [u1, u2, u3] ∧ RelV v u1 ∧ RelV w u2 ∧ RelV u u3 := by
  cases r1 with
  | cons p q =>
   cases q with
   | cons p' q' =>
    cases q' with
    | cons p'' q'' =>
     cases q''
     exact ⟨_, _, _, rfl, p, p', p''⟩
 refine wpAny_newObj_type ?_ (by show 3 ≤ sizeLine; decide)
 have I2 : Inv X _ σ H1 { s1 with heap := s1.heap.push { cls := .type "tuple", data := .seq [u1, u2, u3].toArray } } := I1.kept fun b o e => Heap.get?_push_of_some _ e
 rw [hw]
 refine wpAny_bind (wpAny_pure ?_)
 refine wpAny_bind (wpAny_rule (wpAny_bind (unpackItems_tuple (items := #[u1, u2, u3]) (I.ok.hd hc) (IsTup.new _ _) fun h' hx' => ?_)))
 have I3 := I2.kept (t' := s1.toks) fun b o e => hx' b o (Nat.ne_of_lt (Heap.lt_size e)) e
 refine wpAny_bind (assignInOrder_cons (wpAny_bindName (cy I3 hN hk (.inl hz) ru (fun s2 I4 => ?_) (.inr hz))))
 refine assignInOrder_cons (wpAny_bindName (cy I4 hN hj (.inl hy) rw' (fun s3 I5 => ?_) (.inr hy)))
 refine assignInOrder_cons (wpAny_bindName (cy I5 hN hi (.inl hx) rv (fun s4 I6 => assignInOrder_nil (wpAny_pure ?_)) (.inr hx)))
 rw [List.set_comm _ _ (Ne.symm hij), List.set_comm _ _ (Ne.symm hik), List.set_comm _ _ (Ne.symm hjk)] at I6
 exact ⟨_, H1, I6, q1⟩
end
end L2
namespace I
open PySem L2 PySem.Spec PyProof.Rows
def oi (C : Ck) (ts vs : List Expr) : Bool :=
 let line := (ts.head?.map (·.pos.line)).getD 0
 (ts.length == 2 || ts.length == 3) && vs.length == ts.length && ts.all (fun
  | .Name x p => C.sc.names.lookup x == some .local && p.line == line
  | _ => false) && !(vs.all (foldedForSure 8)) && !(vs.all (constantsAlone 8))
section
variable (sg : Sg)
def Ea (C : Ck) (t : Tg) (tg x : Expr) (e : E) : Bool :=
 match tg, x with
 | .Name _ _, .ListComp _ _ _ _ => match e with
  | .comp _ _ _ _ _ _ _ => true
  | .frz (.comp _ _ _ _ _ _ _) => true
  | _ => false
 | .Name _ _, x => dP x
 | .Tuple ts _ _, .Tuple vs _ _ => match e with
  | .tup _ => oi C ts vs && decide t.slots.Nodup
  | _ => false
 | .Tuple _ _ _, x => dP x
 | _, _ => false
mutual
def IV : I.S → Ck → Stmt → Bool
 | .asg t e, C, .Assign [tg] x _ => Ea C t tg x e && j9 C t tg && dk sg e C x
 | .setx o i e, C, .Assign [.Subscript x y _] z _ => dP z && j7 y && dk sg o C x && dk sg i C y && dk sg e C z
 | .aug i o e, C, .AugAssign (.Name x _) op y _ => ni C i x && kI op == some o && dk sg e C y
 | .ex e, C, .Expr x _ => dP x && dk sg e C x
 | .ret e, C, .Return (some x) _ => dk sg e C x
 | .retN, _, .Return none _ => true
 | .pass, _, .Pass _ => true
 | .pass, _, .Expr (.Constant (.str _) _ _) _ => true
 | .brk, _, .Break _ => true
 | .cnt, _, .Continue _ => true
 | .ifs c a b, C, .If x y z _ => dk sg c C x && nP a C y && nP b C z
 | .for t k src body, C, .For tg it bd [] _ => je it && mB k tg && (match eP k with | some f => jq C.sc f | none => true) && (match dT k it with
  | some ys => cN sg src C ys
  | none => false) && j9 C t tg && nP body C bd
 | _, _, _ => false
def nP : List I.S → Ck → List Stmt → Bool
 | [], _, [] => true
 | s :: ss, C, x :: xs => IV s C x && nP ss C xs
 | _, _, _ => false
end
end
section
variable {Γ : Gm} {S : Sg} {n : Nat} {F : FT} {X : Cx} {C : Ck}
theorem i8 {env} (h : dP x = true) : swapsWith x t l env = pure false := by
 cases x <;> first | rfl | (cases h)
theorem dH (h : dP x = true) : swapsWithSole [t] x l env = pure false := i8 h
theorem BB {op : Operator} {o : kQ} (h : kI op = some o) (hx : o = .add ∨ o = .sub ∨ o = .mul) : ∃ C g, Jl X op (rI C fun i j => .int (g i j)) ∧ ((o = .add ∧ g = fun i j => i + j) ∨ (o = .sub ∧ g = fun i j => i - j) ∨ (o = .mul ∧ g = fun i j => i * j)) ∧ ∀ i j, (o ≠ .mul ∨ aI i = true ∨ aI j = true) → C i j := by
 cases op <;> first | (cases h; done) | skip
 all_goals cases h
 all_goals first | (rcases hx with z | z | z <;> cases z; done) | skip
 · exact ⟨fun _ _ => True, _, fun pins s σ H x y v u Q I rx ry ⟨i, j, a, b, _, q⟩ => wO pins s σ H x y v u Q I rx ry ⟨i, j, a, b, q⟩, .inl ⟨rfl, rfl⟩, fun _ _ _ => trivial⟩
 · exact ⟨fun _ _ => True, _, fun pins s σ H x y v u Q I rx ry ⟨i, j, a, b, _, q⟩ => yj pins s σ H x y v u Q I rx ry ⟨i, j, a, b, q⟩, .inr (.inl ⟨rfl, rfl⟩), fun _ _ _ => trivial⟩
 · refine ⟨qI, _, yk, .inr (.inr ⟨rfl, rfl⟩), fun i j hh => ?_⟩
   rcases hh with z | z | z
   · exact absurd rfl z
   · exact .inl (fz z)
   · exact .inr (fz z)
def qZ (i : Nat) (o : kQ) (ρ : aG) (a : T) (w : W) (st : ae) : ak (Fl × aG) := match a, look w st with
 | .int x, some (.int y) => (match lT o x y with
  | some z => .ok (.nx, ρ.set i (some (.d (.int z)))) st
  | none => .bad)
 | _, _ => .bad
theorem uv {φ : List Addr} {st : ae} {H : Hp} {D : nI} {ρ : aG} {i : Nat} {o : kQ} {e : E} (af : eI Γ φ st H (dB F Γ.G (.aug i o e) ρ st) D) : ∃ t, ρ[i]? = some (some (.d t)) ∧ eI Γ φ st H ((aj F Γ.G e ρ st).bind fun w st => qZ i o ρ t w st) D := by
 have af : eI Γ φ st H (match ρ[i]? with | some (some (.d a)) => (aj F Γ.G e ρ st).bind fun w st => qZ i o ρ a w st | _ => .bad) D := af
 cases h1 : ρ[i]? with
 | none => rw [h1] at af; exact af.elim
 | some w0 =>
  cases w0 with
  | none => rw [h1] at af; exact af.elim
  | some w0 =>
   rw [h1] at af
   cases w0 with
   | ref k => exact af.elim
   | d t => exact ⟨t, rfl, af⟩
theorem oG {φ : List Addr} {st st1 : ae} {H : Hp} {D : nI} {ρ : aG} {i : Nat} {o : kQ} {t : T} {w : W} (af : eI Γ φ st H (qZ i o ρ t w st1) D) : ∃ x y z, t = .int x ∧ look w st1 = some (.int y) ∧ lT o x y = some z ∧ eI Γ φ st H (.ok (.nx, ρ.set i (some (.d (.int z)))) st1) D := by
 unfold qZ at af
 cases t with
 | int x =>
  cases h : look w st1 with
  | none => rw [h] at af; exact af.elim
  | some u =>
   rw [h] at af
   cases u with
   | int y =>
    have af : eI Γ φ st H (match lT o x y with | some z => .ok (.nx, ρ.set i (some (.d (.int z)))) st1 | none => .bad) D := af
    cases hz : lT o x y with
    | none => rw [hz] at af; exact af.elim
    | some z => rw [hz] at af; exact ⟨x, y, z, rfl, rfl, hz, af⟩
   | _ => exact af.elim
 | _ => exact af.elim
theorem FA (G : Gd Γ n C X) {i : Nat} {x : Str} {p pos : Pos} {y : Expr} {op : Operator} {o : kQ} {e : E} (hi : ni C i x = true) (ho : kI op = some o) (h : PE X y (tE Γ F e)) : PS X (.AugAssign (.Name x p) op y pos) (tS Γ F (.aug i o e)) := by
 obtain ⟨a, b, c⟩ := ia G hi
 by_cases hx : o = .add ∨ o = .sub ∨ o = .mul
 · obtain ⟨Cc, g, hp, hg, hc⟩ := BB (X := X) ho hx
   refine L2.PS.imp (Az (by rw [G.N]; exact G.nd) a b h hp c) ?_
   rintro D σ H ⟨φ, st, ρ, en, rl, af⟩
   obtain ⟨t, h1, af⟩ := uv af
   obtain ⟨v, ev, rv⟩ := en.at_ i _ h1
   refine ⟨v, ev, φ, st, ρ, en, rl, af.bind.mono fun u H1 hh => ?_⟩
   obtain ⟨w, st1, φ1, rw1, pt, af1⟩ := hh
   obtain ⟨i0, j0, z, rfl, h2, hz, af1⟩ := oG af1
   cases (show v = .int i0 from rv)
   have dy : D.nx (σ.set i (some (.int z))) H1 := af1 _ H1 φ1 ((en.step pt).set (w := .d (.int z)) rfl) (Pt.refl pt.rl)
   rcases hg with ⟨rfl, rfl⟩ | ⟨rfl, rfl⟩ | ⟨rfl, rfl⟩
   · cases hz; exact ⟨i0, j0, rfl, rw1.int pt.rl h2, hc i0 j0 (.inl nofun), dy⟩
   · cases hz; exact ⟨i0, j0, rfl, rw1.int pt.rl h2, hc i0 j0 (.inl nofun), dy⟩
   · obtain ⟨hs, rfl⟩ := aE (show (if (aI i0 || aI j0) = true then some _ else none) = some z from hz)
     exact ⟨i0, j0, rfl, rw1.int pt.rl h2, hc i0 j0 (.inr ((Bool.or_eq_true _ _).mp hs)), dy⟩
 · rintro pins s σ H D I ⟨φ, st, ρ, en, rl, af⟩
   exfalso
   obtain ⟨t, h1, af⟩ := uv af
   cases h2 : aj F Γ.G e ρ st with
   | ok w st1 =>
    rw [h2] at af
    obtain ⟨i0, j0, z, rfl, h2, hz, af1⟩ := oG (show eI Γ φ st H (qZ i o ρ t w st1) D from af)
    cases o <;> first | (cases hz; done) | exact hx (.inl rfl) | exact hx (.inr (.inl rfl)) | exact hx (.inr (.inr rfl))
   | _ => rw [h2] at af; exact af
theorem uF (hF : Fk Γ S n F) (G : Gd Γ n C X) {i : Nat} {y : Str} {py pos spos : Pos} {elt : Expr} {gs : List Comprehension} {scope : Scope} {N' : List Str} {ix : List (Option Nat)} {t : Tg} {k : Ik} {src ifs : List E} {el e : E} (hi : ni C i y = true) (he : ∀ σ H Q, tE Γ F e σ H Q → tE Γ F (.comp N' ix t k src ifs el) σ H Q)
 (h : dk S (.comp N' ix t k src ifs el) C (.ListComp elt gs scope pos) = true) : PS X (.Assign [.Name y py] (.ListComp elt gs scope pos) spos) (tS Γ F (.asg (.nm i) e)) := by
 obtain ⟨a, b, c⟩ := ia G hi
 rcases gs with _ | ⟨⟨tg, it, fs, m⟩, _ | ⟨_, _⟩⟩ <;> try exact az h
 · replace h := be h
   simp only [Bool.and_eq_true, beq_iff_eq] at h
   obtain ⟨⟨⟨⟨⟨⟨⟨⟨h0, hb⟩, h2⟩, h3⟩, h4⟩, h5⟩, h6⟩, h7⟩, h8⟩ := h
   subst h0
   obtain ⟨b1, b2, b3, hs, b4⟩ := iJ hb
   have hI : PI X tg it (tI Γ F k src) := iH G hF h3 h4 h5 fun ys h => bn hF src C ys X h G
   have imp : ∀ D σ H, tS Γ F (.asg (.nm i) e) D σ H → wN (lI ix (tI Γ F k src) (ma Γ t) (tF Γ F ifs) (tE Γ F el)) (lE i) D σ H := by
    rintro D σ H ⟨φ, st, ρ, en, rl, af⟩
    simp only [dB] at af
    refine lM (N' := N') hs b4 σ H _ (he σ H _ ⟨φ, st, ρ, en, rl, af.bind.mono fun v H1 ⟨w, st1, φ1, rw1, pt, af1⟩ => ?_⟩)
    cases hbd : aS (.nm i) w ρ with
    | none => rw [hbd] at af1; exact af1.elim
    | some ρ' =>
     rw [hbd] at af1
     unfold aS at hbd
     obtain ⟨_, rfl⟩ := aE hbd
     exact af1 _ H1 φ1 ((en.step pt).set rw1) (Pt.refl pt.rl)
   have nd : X.N.Nodup := by rw [G.N]; exact G.nd
   have hok : aO X.env.scope X.N scope N' ix = true := by rw [G.sc, G.N]; exact b1
   have pg := fun cl D ex s H => ff (G.comp (scope := scope) b2 b3 cl D ex s H) h6
   have pf := fun cl D ex s H => (bn hF ifs _ fs _ h7 (G.comp (scope := scope) b2 b3 cl D ex s H)).2.2.1
   have pe := fun cl D ex s H => (aN hF el _ elt _ h8 (G.comp (scope := scope) b2 b3 cl D ex s H)).1
   have hsw : swapsWith (.ListComp elt [⟨tg, it, fs, 0⟩] scope pos) (some (.Name y py)) spos.line X.env = pure (X.env.blockKind == .function && X.env.kindOf y == some .local && py.line == (Expr.ListComp elt [⟨tg, it, fs, 0⟩] scope pos).pos.line
    && !(scope.names.any fun (n, k) => n == y && (k == .local || k == .cell))) := rfl
   refine L2.PS.imp (t := wN (lI ix (tI Γ F k src) (ma Γ t) (tF Γ F ifs) (tE Γ F el)) (lE i)) ?_ imp
   cases hq : (X.env.blockKind == .function && X.env.kindOf y == some .local && py.line == (Expr.ListComp elt [⟨tg, it, fs, 0⟩] scope pos).pos.line
    && !(scope.names.any fun (n, k) => n == y && (k == .local || k == .cell))) with
   | true =>
    rw [hq] at hsw
    simp only [Bool.and_eq_true, beq_iff_eq] at hq
    exact xG nd a hq.1.1.2 G.calm hI pg pf pe hok hsw (cw h2)
   | false =>
    rw [hq] at hsw
    exact nO (oP G.calm hI pg pf pe hok (cw h2)) (gE nd a b c) hsw rfl rfl
theorem ie : ∀ {is} {t} {ts}, dF C is (t :: ts) = true → ∃ i is' x p, is = i :: is' ∧ t = .Name x p ∧ dF C is' ts = true
 | [], t, ts, h => by cases t <;> cases h
 | i :: is, t, ts, h => by
  cases t <;> first | (cases h) | skip
  have h := Bool.and_eq_true_iff.mp h
  exact ⟨i, is, _, _, rfl, rfl, h.2⟩
theorem pc : ∀ {is}, dF C is [] = true → is = []
 | [], _ => rfl
 | _ :: _, h => by cases h
theorem pV {ts vs : List Expr} (h1 : (ts.length == 2 || ts.length == 3) = true) (h2 : vs.length = ts.length) (ht : dF C is ts = true) : (∃ x px y py i j a b, ts = [.Name x px, .Name y py] ∧ is = [i, j] ∧ vs = [a, b]) ∨ ∃ x px y py z pz i j k a b c, ts = [.Name x px, .Name y py, .Name z pz] ∧ is = [i, j, k] ∧ vs = [a, b, c] := by
 cases ts with
 | nil => simp at h1
 | cons t1 ts =>
  obtain ⟨i, is1, x, px, rfl, rfl, ht1⟩ := ie ht
  cases ts with
  | nil => simp at h1
  | cons t2 ts =>
   obtain ⟨j, is2, y, py, rfl, rfl, ht2⟩ := ie ht1
   cases ts with
   | nil =>
    cases pc ht2
    match vs, h2 with
    | [a, b], _ => exact .inl ⟨x, px, y, py, i, j, a, b, rfl, rfl, rfl⟩
   | cons t3 ts =>
    obtain ⟨k, is3, z, pz, rfl, rfl, ht3⟩ := ie ht2
    cases ts with
    | nil =>
     cases pc ht3
     match vs, h2 with
     | [a, b, c], _ => exact .inr ⟨x, px, y, py, z, pz, i, j, k, a, b, c, rfl, rfl, rfl⟩
    | cons _ _ => simp at h1
theorem zQ (hF : Fk Γ S n F) (G : Gd Γ n C X) {is : List Nat} {ts vs : List Expr} {kt k2 : Nat} {pt pt2 pos : Pos} {es : List E} (hp : oi C ts vs = true) (hd : is.Nodup) (ht : dF C is ts = true) (h : cN S es C vs = true) : PS X (.Assign [.Tuple ts kt pt] (.Tuple vs k2 pt2) pos) (tS Γ F (.asg (.tp is) (.tup es))) := by
 have hs := bn hF es C vs X h G
 have nd : X.N.Nodup := by rw [G.N]; exact G.nd
 have nm := jP G ht
 unfold oi at hp
 simp only [Bool.and_eq_true, Bool.not_eq_true', beq_iff_eq] at hp
 obtain ⟨⟨⟨⟨h1, h2⟩, h3⟩, h4⟩, h5⟩ := hp
 have h3 := List.all_eq_true.mp h3
 have hstar : (vs.any fun | .Starred .. => true | _ => false) = false := by
  rw [List.any_eq_false]
  intro v hv
  have := List.all_eq_true.mp hs.2.2.2.1 v hv
  cases v <;> first | (intro z; cases z; done) | cases this
 intro pins s σ H D I q
 have hk : X.env.blockKind = .function := by unfold Env.blockKind; rw [I.ok.kind]; rfl
 obtain ⟨φ, st, ρ, en, rl, af⟩ := q
 have body : ∀ {Q : List V → Hp → Prop}, (∀ vs' H1, (∃ ts st1 φ1, aA Γ.K (aq φ1 st1) H1 ts vs' ∧ Pt Γ φ st H φ1 st1 H1 ∧ ts.length = is.length ∧ eI Γ φ1 st1 H1 (.ok (.nx, (is.zip ts).foldl (fun ρ p => ρ.set p.1 (some (.d p.2))) ρ) st1) D) → Q vs' H1) → tD Γ F es σ H Q := by
  intro Q hQ
  refine ⟨φ, st, ρ, en, rl, ?_⟩
  simp only [dB, aj] at af
  cases e1 : cT F Γ.G es ρ st with
  | ok ts st1 =>
   rw [e1] at af
   intro vs' H1 φ1 rs pt
   simp only [ak.bind] at af
   refine hQ vs' H1 ⟨ts, st1, φ1, rs, pt, ?_⟩
   split at af
   · rename_i w st2 hw
     split at hw
     · cases hw
       have af := eI.re af pt
       cases hb : aS (.tp is) (.d (.tup ts)) ρ with
       | none => rw [hb] at af; exact af.elim
       | some ρ' =>
        rw [hb] at af
        obtain ⟨⟨g1, g2⟩, rfl⟩ := aE (show (if is.length = ts.length ∧ is.all (· < ρ.length) = true then some _ else none) = some ρ' from hb)
        exact ⟨g1.symm, af⟩
     · cases hw
   · exact af.elim
   · exact af.elim
  | _ => rw [e1] at af; exact af.elim
 rcases pV h1 h2 ht with ⟨x, px, y, py, i, j, a, b, rfl, rfl, rfl⟩ | ⟨x, px, y, py, z, pz, i, j, k, a, b, c, rfl, rfl, rfl⟩
 ·
  have lx := h3 (.Name x px) (by simp)
  have ly := h3 (.Name y py) (by simp)
  simp only [Bool.and_eq_true, beq_iff_eq] at lx ly
  have hij : i ≠ j := fun z => by subst z; simp at hd
  have hxy : x ≠ y := fun z => hij (cU nd nm.1.1 (z ▸ nm.2.1.1))
  refine A3 (i := i) (j := j) G.calm nd nm.1.1 nm.2.1.1 hij (by rw [G.sc]; exact lx.1) (by rw [G.sc]; exact ly.1) hs.2.1 ?_ rfl pins s σ H D I (body ?_)
  · unfold swappedStores
    have kx : X.env.kindOf x = some .local := by unfold Env.kindOf; rw [G.sc]; exact lx.1
    have ky : X.env.kindOf y = some .local := by unfold Env.kindOf; rw [G.sc]; exact ly.1
    have lxy : py.line = px.line := by simpa [Expr.pos] using ly.2
    simp only [List.length_cons, List.length_nil, hk, hstar]
    have hne : ([x, y] : List Str).eraseDups.length = 2 := by
     rw [List.eraseDups_cons]
     have : (!y == x) = true := by simpa using Ne.symm hxy
     simp [this, List.eraseDups_cons]
    have ns := hs.2.2.2.1
    simp only [List.all_cons, List.all_nil, Bool.and_true, Bool.and_eq_true] at ns
    simp [kx, ky, lxy, Expr.pos, h4, h5, hne]
    intro q
    exfalso
    rcases q with q | q
    · have na := ns.1
      revert q na
      cases a <;> intro q na <;> first | (cases na; done) | exact Bool.noConfusion q
    · have na := ns.2
      revert q na
      cases b <;> intro q na <;> first | (cases na; done) | exact Bool.noConfusion q
  · rintro vs' H1 ⟨us, st1, φ1, rs, pt, hl, af1⟩
    match us, hl with
    | [u1, u2], _ =>
     obtain ⟨v, r, rfl, rv, w, r', rfl, rw', rn⟩ := rs
     cases (show r' = [] from rn)
     exact ⟨v, w, rfl, af1 _ H1 φ1 (((en.step pt).set (w := .d u1) rv).set (w := .d u2) rw') (Pt.refl pt.rl)⟩
 ·
  have lx := h3 (.Name x px) (by simp)
  have ly := h3 (.Name y py) (by simp)
  have lz := h3 (.Name z pz) (by simp)
  simp only [Bool.and_eq_true, beq_iff_eq] at lx ly lz
  have hij : i ≠ j := fun z => by subst z; simp at hd
  have hik : i ≠ k := fun z => by subst z; simp at hd
  have hjk : j ≠ k := fun z => by subst z; simp at hd
  have hxy : x ≠ y := fun z => hij (cU nd nm.1.1 (z ▸ nm.2.1.1))
  have hxz : x ≠ z := fun q => hik (cU nd nm.1.1 (q ▸ nm.2.2.1.1))
  have hyz : y ≠ z := fun q => hjk (cU nd nm.2.1.1 (q ▸ nm.2.2.1.1))
  refine xQ (i := i) (j := j) (k := k) G.calm nd nm.1.1 nm.2.1.1 nm.2.2.1.1 hij hik hjk (by rw [G.sc]; exact lx.1) (by rw [G.sc]; exact ly.1) (by rw [G.sc]; exact lz.1) hs.2.1 ?_ rfl pins s σ H D I (body ?_)
  · unfold swappedStores
    have kx : X.env.kindOf x = some .local := by unfold Env.kindOf; rw [G.sc]; exact lx.1
    have ky : X.env.kindOf y = some .local := by unfold Env.kindOf; rw [G.sc]; exact ly.1
    have kz : X.env.kindOf z = some .local := by unfold Env.kindOf; rw [G.sc]; exact lz.1
    have lxy : py.line = px.line := by simpa [Expr.pos] using ly.2
    have lxz : pz.line = px.line := by simpa [Expr.pos] using lz.2
    simp only [List.length_cons, List.length_nil, hk, hstar]
    have hne : ([x, y, z] : List Str).eraseDups.length = 3 := by
     rw [List.eraseDups_cons]
     have e1 : (!y == x) = true := by simpa using Ne.symm hxy
     have e2 : (!z == x) = true := by simpa using Ne.symm hxz
     have e3 : (!z == y) = true := by simpa using Ne.symm hyz
     simp [e1, e2, e3, List.eraseDups_cons]
    have ns := hs.2.2.2.1
    simp only [List.all_cons, List.all_nil, Bool.and_true, Bool.and_eq_true] at ns
    simp [kx, ky, kz, lxy, lxz, Expr.pos, h4, h5, hne]
    intro q
    exfalso
    rcases q with q | q | q
    · have na := ns.1
      revert q na
      cases a <;> intro q na <;> first | (cases na; done) | exact Bool.noConfusion q
    · have na := ns.2.1
      revert q na
      cases b <;> intro q na <;> first | (cases na; done) | exact Bool.noConfusion q
    · have na := ns.2.2
      revert q na
      cases c <;> intro q na <;> first | (cases na; done) | exact Bool.noConfusion q
  · rintro vs' H1 ⟨us, st1, φ1, rs, pt, hl, af1⟩
    match us, hl with
    | [u1, u2, u3], _ =>
     obtain ⟨v, r, rfl, rv, w, r', rfl, rw', u, r'', rfl, ru, rn⟩ := rs
     cases (show r'' = [] from rn)
     exact ⟨v, w, u, rfl, af1 _ H1 φ1 ((((en.step pt).set (w := .d u1) rv).set (w := .d u2) rw').set (w := .d u3) ru) (Pt.refl pt.rl)⟩
end
mutual
theorem IG {Γ : Gm} {sg : Sg} {n : Nat} {F : FT} (hF : Fk Γ sg n F) : ∀ (s : I.S) (C : Ck) (x : Stmt) (X : Cx), IV sg s C x = true → Gd Γ n C X → PS X x (tS Γ F s)
 | .asg t e, C, x, X, h, G => by
  cases x <;> try exact az h
  rename_i tgs v pos
  rcases tgs with _ | ⟨tg, _ | ⟨_, _⟩⟩ <;> try exact az h
  · replace h := be h
    simp only [Bool.and_eq_true] at h
    obtain ⟨⟨h1, h2⟩, h3⟩ := h
    cases tg <;> try exact az h1
    · -- a name
      rename_i y py
      cases t with
      | tp is => cases h2
      | nt i is => cases h2
      | nm i =>
       by_cases hl : G5 v = true
       · cases v <;> first | (cases hl; done) | skip
         cases e <;> try exact az h1
         · rename_i e'
           cases e' <;> try exact az h1
           exact uF hF G h2 (fun σ H Q ⟨φ, st, ρ, en, rl, af⟩ => ⟨φ, st, ρ, en, rl, by simp only [aj] at af; exact af.frz rl⟩) h3
         · exact uF hF G h2 (fun _ _ _ q => q) h3
       · have hn : dP v = true := by
          cases v <;> first | (exact h1) | (exact absurd rfl hl)
         exact zf (aN hF e C v X h3 G).1 (sX G h2) (dH hn) rfl rfl
    · -- a tuple
      rename_i ts kt p
      by_cases hl : nK v = true
      · cases v <;> first | (cases hl; done) | skip
        cases e <;> try exact az h1
        have h1 : (oi C ts _ && decide t.slots.Nodup) = true := h1
        simp only [Bool.and_eq_true, decide_eq_true_eq] at h1
        cases t with
        | nm i => cases h2
        | tp is => exact zQ hF G h1.1 h1.2 h2 h3
        | nt i is => cases h2
      · have hn : dP v = true := by
         cases v <;> first | (exact h1) | (exact absurd rfl hl)
        have hw : swappedStores [.Tuple ts kt p] v X.env = pure none := by
         cases v <;> first | rfl | exact absurd rfl hl
        exact zf (aN hF e C v X h3 G).1 (sX G h2) (dH hn) hw rfl
 | .setx o i e, C, x, X, h, G => by
  cases x <;> try exact az h
  rename_i tgs v pos
  rcases tgs with _ | ⟨tg, _ | ⟨_, _⟩⟩ <;> try exact az h
  rotate_left
  · cases tg <;> exact az h
  cases tg <;> try exact az h
  rename_i a b p
  · replace h := be h
    simp only [Bool.and_eq_true] at h
    obtain ⟨⟨⟨⟨h1, h2⟩, h3⟩, h4⟩, h5⟩ := h
    refine Bx (aN hF o C a X h3 G).1 (aN hF i C b X h4 G).1 (aN hF e C v X h5 G).1 (fun w => ?_) (dH h1) (by rfl) rfl
    cases b <;> first | rfl | (cases h2; done)
 | .aug i o e, C, x, X, h, G => by
  cases x <;> try exact az h
  rename_i tg op v pos
  cases tg <;> try exact az h
  replace h := be h
  simp only [Bool.and_eq_true, beq_iff_eq] at h
  exact FA G h.1.1 h.1.2 (aN hF e C v X h.2 G).1
 | .ex e, C, x, X, h, G => by
  cases x <;> try exact az h
  replace h := be h
  exact Hr (aN hF e C _ X h.2 G).1 (i8 h.1)
 | .ret e, C, x, X, h, G => by
  cases x <;> try exact az h
  rename_i v pos
  cases v with
  | none => exact az h
  | some v => exact Et (aN hF e C v X h G).1
 | .retN, C, x, X, h, G => by
  cases x <;> try exact az h
  rename_i v pos
  cases v with
  | none => exact zV
  | some v => exact az h
 | .pass, C, x, X, h, G => by
  cases x <;> first | exact az h | exact As | skip
  rename_i v pos
  cases v <;> try exact az h
  rename_i c k p
  cases c <;> first | exact az h | exact F9
 | .brk, C, x, X, h, G => by
  cases x <;> first | exact az h | exact FM
 | .cnt, C, x, X, h, G => by
  cases x <;> first | exact az h | exact DB
 | .ifs c a b, C, x, X, h, G => by
  cases x <;> try exact az h
  replace h := be h
  simp only [Bool.and_eq_true] at h
  exact G1 (aN hF c C _ X h.1.1 G).2 (mr hF a C _ X h.1.2 G) (mr hF b C _ X h.2 G)
 | .for t k src body, C, x, X, h, G => by
  cases x <;> try exact az h
  rename_i tg it bd el pos
  cases el with
  | cons => exact az h
  | nil =>
   replace h := be h
   simp only [Bool.and_eq_true] at h
   obtain ⟨⟨⟨⟨⟨h1, h2⟩, h3⟩, h4⟩, h5⟩, h6⟩ := h
   exact EX (by rw [G.xe]; exact PassesOwn.never) G.calm (iH G hF h2 h3 h4 fun ys h => bn hF src C ys X h G) (sX G h5) (mr hF body C bd X h6 G) (cw h1)
theorem mr {Γ : Gm} {sg : Sg} {n : Nat} {F : FT} (hF : Fk Γ sg n F) : ∀ (ss : List I.S) (C : Ck) (xs : List Stmt) (X : Cx), nP sg ss C xs = true → Gd Γ n C X → fV X xs (B2 Γ F ss)
 | [], C, xs, X, h, G => by
  cases xs with
  | nil => exact C1
  | cons => exact az h
 | s :: ss, C, xs, X, h, G => by
  cases xs with
  | nil => exact az h
  | cons x xs =>
   replace h := be h
   exact AJ (IG hF s C x X h.1 G) (mr hF ss C xs X h.2 G)
end
end I
end
section
namespace I
open PySem L2 PySem.Spec PyProof.Rows
structure Fd (Γ : Gm) (sg : Sg) (D : ce) (x : Str) (ps : List Str) (st : Stmt) (N : List Str) (gx : Bool) : Prop where
 df : Df Γ.K Γ.mg x st
 sc : cL N ps (ai st)
 hb : ∀ (kV doc pm : Value) (an : Option Addr) (cdv ct : Value) (us : List Value), us.length = ps.length → bindArgs (PySem.W.fnOf x x (aV st) (aF st) (ai st) .none kV doc pm an cdv ct) ⟨us, []⟩ = pure (ps.zip us)
 nm : namesOk N = true
 ar : D.ar = ps.length
 sl : D.sl = N.length
 ok : nP sg D.body ⟨N, ai st, true, gx⟩ (aF st) = true
 tb : gx = true → ∃ P ∈ Γ.tabs, Tb Γ.K Γ.mg Γ.base x P
section
variable {Γ : Gm} {sg : Sg} {n : Nat} {F : FT}
theorem r9 {st} {H} {ws} {vs} {N} {k} (r : sd Γ φ st H ws vs) (hk : k = N.length - ws.length) (hl : ws.length ≤ N.length) : En Γ φ st H (ws.map some ++ List.replicate k none) (start N vs) := by
 have hv := r.length
 unfold L2.start
 refine ⟨by simp; omega, fun i w h => ?_⟩
 by_cases hi : i < ws.length
 · rw [List.getElem?_append_left (by simpa using hi), List.getElem?_map, List.getElem?_eq_getElem hi] at h
   simp only [Option.map_some, Option.some.injEq] at h
   subst h
   obtain ⟨v, e, rv⟩ := r.get (List.getElem?_eq_getElem hi)
   exact ⟨v, by rw [List.getElem?_append_left (by simpa [hv] using hi), List.getElem?_map, e]; rfl, rv⟩
 · rw [List.getElem?_append_right (by simpa using hi), List.getElem?_replicate] at h
   split at h <;> cases h
theorem Cj {st} {H} {Q} {r} (rl : Rl Γ φ st H) (af : Af Γ φ st H (dy st.length r) Q) : eI Γ φ st H r { nx := fun _ H' => Q .non H', rt := Q } := by
 cases r with
 | ok p st1 =>
  obtain ⟨f, ρ'⟩ := p
  intro σ' H' φ' en pt
  cases f with
  | nx => exact af _ H' _ rfl (pt.cut rl.len)
  | bk => exact af.elim
  | ct => exact af.elim
  | rt w =>
   intro v rv
   have af : Af Γ φ st H (ci _ w _) Q := af
   cases h : ci _ w _ with
   | ok w' st2 =>
    rw [h] at af
    obtain ⟨φ2, p2, r2⟩ := ve rl.len pt rv h
    exact af v H' _ r2 p2
   | _ => rw [h] at af; exact af.elim
 | _ => exact af
theorem jy (hF : Fk Γ sg n F) {D} {x} {ps} {st} {N} {gx} (d : Fd Γ sg D x ps st N gx) {j} (f : Addr) (cdv : Value) (hcd : gx = true → Bm Γ.mg Γ.base ∧ ∃ c P, cdv = .ref c ∧ PySem.W.CodeHd Γ.base c P ∧ P ∈ Γ.tabs) (A : Around) (outer : List _) (s : Shared) (H : Hp) (vs : List V) (Q : VK) (E : XK)
 (hr : bv (2 * n + 1) (A.deeper (envOfC x (ai st) s.heap.objs.size f cdv))) (h : yE Γ (fun _ ws st => aC F Γ.G D ws st) j ps.length vs H Q E) :
 ∃ t, fV (iV nk Γ.P Γ.w Γ.K Γ.mg Γ.base N x (ai st) f cdv A outer s H E).nox (aF st) t ∧ t { nx := fun _ H' => Q .non H', rt := Q } (start N vs) H := by
 refine ⟨_, mr hF _ _ _ _ d.ok ⟨rfl, rfl, rfl, rfl, rfl, rfl, rfl, rfl, hr.mono (Nat.le_succ _), d.sc.nd, d.nm, fun _ _ => rfl, rfl, fun h => ⟨(hcd h).1, hr, (hcd h).2⟩⟩, ?_⟩
 obtain ⟨φ, st0, ws, rl, rws, hl, af⟩ := h
 unfold aC at af
 have hn := by
  have := congrArg List.length d.sc.pre
  rw [List.length_take] at this
  omega
 simp only at af
 rw [if_pos (by rw [hl, d.ar])] at af
 exact ⟨φ, st0, _, r9 rws (by rw [d.sl, d.ar, hl]) (by omega), rl, Cj rl af⟩
end
structure Tx (Γ : Gm) (sg : Sg) (Ds : Nat → Option ce) : Prop where
 fd : ∀ (j : Nat) (x : Str) (ps : List Str), sg.fns j = some (x, ps) → ∃ D st N gx, Ds j = some D ∧ Fd Γ sg D x ps st N gx
 gn : sg.gn = Γ.gn
 g : FC Γ
 blt : ∀ x ∈ ([("len" : Str), "tuple", "list", "int", "str", "min", "max", "all", "range", "enumerate", "zip", "any", "sum", "sorted", "set", "isinstance", "bool", "reversed"] : List Str), Γ.mg x = none
section
variable {Γ : Gm} {sg : Sg} {Ds : Nat → Option ce}
theorem mG (T : Tx Γ sg Ds) : ∀ n, Fk Γ sg n (run Γ.G Ds n)
 | 0 => ⟨T.gn, fun j x ps h => by
  obtain ⟨D, st, N, gx, _, d⟩ := T.fd j x ps h
  obtain ⟨f, fd, F, m⟩ := d.df.ex
  exact ⟨⟨f, fd, ⟨fun vs H Q E h => by obtain ⟨_, _, _, _, _, _, af⟩ := h; exact af.elim, fun A outer s H args us vs Q E _ _ _ _ h => by obtain ⟨_, _, _, _, _, _, af⟩ := h; exact af.elim⟩, m, F.kp, F.binds d.hb⟩⟩, T.g, T.blt⟩
 | n + 1 => ⟨T.gn, fun j x ps h => by
  obtain ⟨D, st, N, gx, hD, d⟩ := T.fd j x ps h
  have len : ∀ vs H Q E, yE Γ (run Γ.G Ds (n + 1)) j _ vs H Q E → vs.length = ps.length := fun vs H Q E h => by
   obtain ⟨_, _, ws, _, rws, hl, _⟩ := h
   rw [rws.length, hl]
  have go : ∀ {vs} {H} {Q} {E}, yE Γ (run Γ.G Ds (n + 1)) j ps.length vs H Q E → yE Γ (fun _ ws st => aC _ _ D ws st) j _ vs H Q E := fun h => by
   obtain ⟨φ, st0, ws, rl, rws, hl, af⟩ := h
   refine ⟨φ, st0, ws, rl, rws, hl, ?_⟩
   simp only [run, hD] at af
   exact af
  cases gx with
  | false => exact d.df.has d.sc d.hb len (fun f cdv A outer s H vs Q E hr h => jy (mG T n) d f _ nofun A _ s H vs Q E hr (go h))
  | true =>
   obtain ⟨P, hP, tb⟩ := d.tb rfl
   exact d.df.hasT tb d.sc d.hb len (fun f c A outer s H vs Q E hcd bm hr h => jy (mG T n) d f _ (fun _ => ⟨bm, c, P, rfl, hcd, hP⟩) A _ s H vs Q E hr (go h)), T.g, T.blt⟩
theorem AA (T : Tx Γ sg Ds) {n} {D} {st} {N} {x} {f} {fd} (F : vG Γ.K x x st f fd) (p : Str) (d : Fd Γ sg D x [p] st N false) (sp : Sp) (hsp : ∀ vs H Q E, sp vs H Q E → vs.length = 1 ∧ yE Γ (fun _ ws st => aC (run Γ.G Ds n) Γ.G D ws st) 0 1 vs H Q E) :
 f7 Γ.P Γ.w Γ.K Γ.mg Γ.base nk (2 * n + 2) f fd [p] sp :=
 F.ok d.sc (fun vs H Q E h => (hsp vs H Q E h).1) fun cdv A outer s H vs Q E hr h => jy (mG T n) d f _ nofun A _ s H vs Q E hr (hsp vs H Q E h).2
theorem BI {a} {ns : List _} {H} {Q} {E} (hS : cF Γ.K H a (ns.map V.int)) (ht : ∀ P ∈ Γ.tabs, H P = some (cP P)) (hr : ∃ st', aC (run Γ.G Ds n) Γ.G D [.d (.lst (ns.map T.int))] [] = .ok (.d (.bl true)) st')
 (hq : ∀ H', (∀ P ∈ Γ.tabs, H' P = some (cP P)) → Q (.bl true) H') : yE Γ (fun _ ws st => aC (run Γ.G Ds n) Γ.G D ws st) 0 1 [.ref a] H Q E := by
 obtain ⟨st', hr⟩ := hr
 have nl : ∀ b, ¬ aq [] [] b := by rintro b ⟨k, xs, e, _⟩; simp at e
 refine ⟨[], [], [.d (.lst _)], ⟨rfl, fun i j a xs ys e => by simp at e, fun k xs a e => by simp at e, ht⟩, ⟨_, [], rfl, ⟨a, _, rfl, hS.elim (fun x => .inl ⟨x, nl a⟩) .inr, aA.ofInts ns⟩, rfl⟩, rfl, ?_⟩
 show Af Γ [] [] H (aC _ _ D _ []) Q
 rw [hr]
 intro v H' φ' rv pt
 cases rv
 exact hq H' pt.rl.tab
end
end I
end
section
namespace I
open PySem L2 PySem.Spec PyProof.Rows
theorem sQ {α β : Type} {f g : α → Option β} : ∀ {l : List α}, (∀ x ∈ l, f x = g x) → l.filterMap f = l.filterMap g
 | [], _ => rfl
 | x :: l, h => by rw [List.filterMap_cons, List.filterMap_cons, h x List.mem_cons_self, sQ fun y hy => h y (List.mem_cons_of_mem _ hy)]
theorem li {α : Type} : ∀ {ps : List Str} {us : List α}, us.length = ps.length → ∀ n ∈ ps, ((ps.zip us).lookup n).isSome = true
 | [], _, _, n, h => by cases h
 | p :: ps, [], hl, n, h => by cases hl
 | p :: ps, u :: us, hl, n, h => by
  rw [List.zip_cons_cons, List.lookup_cons]
  cases e : n == p with
  | true => rfl
  | false =>
   rcases List.mem_cons.mp h with z | z
   · rw [z] at e; simp at e
   · exact li (by simpa using hl) n z
theorem lB {α : Type} : ∀ {ps : List Str} {us : List α}, us.length = ps.length → ps.Nodup → (ps.filterMap fun n => ((ps.zip us).lookup n).map fun v => (n, v)) = ps.zip us
 | [], us, _, _ => rfl
 | p :: ps, [], hl, _ => by cases hl
 | p :: ps, u :: us, hl, nd => by
  rw [List.nodup_cons] at nd
  simp
  refine Eq.trans (sQ fun n hn => ?_) (lB (by simpa using hl) nd.2)
  rw [List.lookup_cons]
  have : (n == p) = false := by
   cases e : n == p with
   | false => rfl
   | true => grind
  rw [this]
theorem mR (x y : Str) (as : List Arg) (body : List Stmt) (sc : Scope) (kV doc pm : Value) (an : Option Addr) (cdv ct : Value) (us : List Value) (hl : us.length = as.length) (nd : (as.map Arg.arg).Nodup) : bindArgs (PySem.W.fnOf x y ⟨[], as, none, [], [], none, []⟩ body sc .none kV doc pm an cdv ct) ⟨us, []⟩ = pure ((as.map Arg.arg).zip us) := by
 have hl' : us.length = (as.map Arg.arg).length := by simp_all
 have key : ∃ (A B : Sem (List (Str × Value))) (g : Str × Value → List (Str × Value) → Sem (ForInStep (List (Str × Value)))), bindArgs (PySem.W.fnOf x y ⟨[], as, none, [], [], none, []⟩ body sc .none kV doc pm an cdv ct) ⟨us, []⟩ =
  (if (decide (us.length > (as.map Arg.arg).length) && true) = true then A else if (!(((as.map Arg.arg).take ((as.map Arg.arg).length - (([] : List Value).drop (([] : List Value).length - (as.map Arg.arg).length)).length)).filter (fun n => (((as.map Arg.arg).zip us).lookup n).isNone)).isEmpty) = true then B
   else (forIn (((as.map Arg.arg).drop ((as.map Arg.arg).length - (([] : List Value).drop (([] : List Value).length - (as.map Arg.arg).length)).length)).zip (([]).drop (([]).length - (as.map Arg.arg).length))) ((as.map _).zip us) g >>= fun sl => pure ((as.map Arg.arg ++ []).filterMap fun n => (sl.lookup n).map fun v => (n, v)))) := ⟨_, _, _, rfl⟩
 obtain ⟨A, B, g, e⟩ := key
 rw [e]
 generalize as.map _ = ps at *
 have h1 : (ps.take ps.length).filter (fun n => ((ps.zip us).lookup n).isNone) = [] := by
  rw [List.take_length, List.filter_eq_nil_iff]
  intro n hn
  have := li hl' n hn
  simp_all
 have h3 : (decide (us.length > ps.length) && true) = true ↔ False := by simp; omega
 rw [if_neg fun z => h3.mp z, List.drop_nil, List.length_nil, Nat.sub_zero, h1, List.zip_nil_right, List.append_nil]
 show (pure _ : Sem _) = _
 rw [lB hl' nd]
set_option genInjectivity false in
structure Rw where
 j : Nat
 x : Str
 ps : List Str
 D : ce
 st : Stmt
 N : List Str
 gx : Bool
 c : Option (Str × Str) := none
abbrev c8 (j : Nat) (x : Str) (D : ce) (st : Stmt) (N : List Str) (gx : Bool := false) (c : Option (Str × Str) := none) : Rw := ⟨j, x, N.take D.ar, D, st, N, gx, c⟩
def cE {α : Type} (P : α → Prop) : List α → Prop
 | [] => True
 | r :: l => P r ∧ cE P l
theorem cE.mem : ∀ {l}, cE P l → ∀ r ∈ l, P r
 | [], _, r, h => by cases h
 | x :: l, a, r, h => by
  rcases List.mem_cons.mp h with z | z
  · rw [z]; exact a.1
  · exact cE.mem a.2 r z
def uS (r : Rw) : Option (Str × List Str) := match r.c with
 | none => some (r.x, r.ps)
 | some _ => none
def Cp (gn : Nat → Option Str) (tb : List Rw) (cs : List Str) (sb : List (Str × Str × Bool)) : Sg := ⟨gn, fun j => (tb.find? fun r => r.j == j).bind uS⟩
def eU (tb : List Rw) (j : Nat) : Option ce := (tb.find? fun r => r.j == j).map (·.D)
def nZ (a : Arguments) : Bool := a.posonlyargs.isEmpty && a.vararg.isNone && a.kwonlyargs.isEmpty && a.kw_defaults.isEmpty && a.kwarg.isNone && a.defaults.isEmpty
def BD (N ps : List Str) (sc : Scope) : Bool := sc.kind == .function && !sc.isCoroutine && !sc.isGenerator && decide N.Nodup && N.take ps.length == ps && ps.all (fun x => sc.names.lookup x == some .local || sc.names.lookup x == some .cell) && sc.names.all fun y => !(y.2 == .free)
theorem oI (h : BD N ps sc = true) : cL N ps sc := by
 unfold BD at h
 simp only [Bool.and_eq_true, beq_iff_eq, Bool.not_eq_true', decide_eq_true_eq, List.all_eq_true, Bool.or_eq_true] at h
 obtain ⟨⟨⟨⟨⟨⟨h1, h2⟩, h3⟩, h4⟩, h5⟩, h6⟩, h7⟩ := h
 exact ⟨h1, h2, h3, h4, h5, h6, fun y hy z => by have := h7 y hy; grind⟩
def AI (S : Sg) (r : Rw) : Bool := BD r.N r.ps (ai r.st) && nZ (aV r.st) && (aV r.st).args.map Arg.arg == r.ps && namesOk r.N && r.D.ar == r.ps.length && r.D.sl == r.N.length && nP S r.D.body ⟨r.N, ai r.st, true, r.gx⟩ (aF r.st)
theorem sY {S} {r} (h : AI S r = true) (y : Str) (kV doc pm : Value) (an : Option _) (cdv ct : Value) (us : List _) (hl : us.length = r.ps.length) : bindArgs (PySem.W.fnOf r.x y (aV r.st) (aF r.st) (ai r.st) .none kV doc pm an cdv ct) ⟨us, []⟩ = pure (r.ps.zip us) := by
 unfold AI at h
 simp only [Bool.and_eq_true, beq_iff_eq] at h
 obtain ⟨⟨⟨⟨⟨⟨h1, h2⟩, h3⟩, h4⟩, h5⟩, h6⟩, h7⟩ := h
 have sc := oI h1
 have nd : r.ps.Nodup := by rw [← sc.pre]; exact sc.nd.sublist (List.take_sublist _ _)
 generalize aV _ = a at *
 obtain ⟨a1, as, a3, a4, a5, a6, a7⟩ := a
 unfold nZ at h2
 simp only [Bool.and_eq_true, List.isEmpty_iff, Option.isNone_iff_eq_none] at h2
 obtain ⟨⟨⟨⟨⟨rfl, rfl⟩, rfl⟩, rfl⟩, rfl⟩, rfl⟩ := h2
 rw [← h3] at hl nd ⊢
 exact mR _ _ _ _ _ _ _ _ _ _ _ _ (by simpa using hl) nd
theorem vC {S} {r} (h : AI S r = true) (d : Df Γ.K Γ.mg r.x r.st) (ht : r.gx = true → ∃ P ∈ Γ.tabs, Tb Γ.K Γ.mg Γ.base r.x P) : Fd Γ S r.D r.x r.ps r.st r.N r.gx := by
 have hb := sY h r.x
 unfold AI at h
 simp only [Bool.and_eq_true, beq_iff_eq] at h
 obtain ⟨⟨⟨⟨⟨⟨h1, h2⟩, h3⟩, h4⟩, h5⟩, h6⟩, h7⟩ := h
 exact ⟨d, oI h1, hb, h4, h5, h6, h7, ht⟩
def uC (Γ : Gm) (r : Rw) : Prop := match r.c with
 | none => Df Γ.K Γ.mg r.x r.st
 | some _ => False
theorem D3 {Γ : Gm} {tb : List Rw} {gn : Nat → Option Str} {cs : List Str} {sb : List (Str × Str × Bool)} (hc : tb.all (AI (Cp gn tb cs sb)) = true) (hd : cE (uC Γ) tb) (ht : ∀ r ∈ tb, r.gx = true → ∃ P ∈ Γ.tabs, Tb Γ.K Γ.mg Γ.base r.x P)
 (hn : gn = Γ.gn) (g : FC Γ) (hb : ∀ x ∈ ([("len" : Str), "tuple", "list", "int", "str", "min", "max", "all", "range", "enumerate", "zip", "any", "sum", "sorted", "set", "isinstance", "bool", "reversed"] : List Str), Γ.mg x = none) : Tx Γ (Cp gn tb cs sb) (eU tb) where
 fd := fun j x ps h => by
  have h : (tb.find? fun r => r.j == j).bind uS = some (x, ps) := h
  cases e : tb.find? fun r => r.j == j with
  | none => rw [e] at h; cases h
  | some r =>
   rw [e, Option.bind_some] at h
   have hm := List.mem_of_find?_eq_some e
   have ok := hd.mem r hm
   unfold uS at h
   unfold uC at ok
   cases q : r.c with
   | none =>
    simp only [q] at h ok
    cases h
    exact ⟨r.D, r.st, r.N, r.gx, by unfold eU; rw [e]; rfl, vC (List.all_eq_true.mp hc r hm) ok (ht r hm)⟩
   | some _ => simp_all
 gn := hn
 g := g
 blt := hb
def nF (gs : List (Nat × Str × Int)) (j : Nat) : Option Str := (gs.find? fun r => r.1 == j).map (·.2.1)
theorem zP {gs} (hg : Γ.gn = nF gs) (h : cE (fun r => Γ.G[r.1]? = some (.int r.2.2) ∧ ∃ t, Γ.mg r.2.1 = some (.int r.2.2 t)) gs) : FC Γ :=
 ⟨fun j x e => by
  rw [hg] at e
  unfold nF at e
  cases q : gs.find? fun r => r.1 == j with
  | none => rw [q] at e; cases e
  | some r =>
   rw [q] at e
   cases e
   have hj := by have := List.find?_some q; simpa using this
   obtain ⟨h1, t, h2⟩ := h.mem r (List.mem_of_find?_eq_some q)
   subst hj
   exact ⟨_, .int _, _, h2, ⟨t, rfl⟩, h1, fun _ _ => rfl⟩⟩
end I
end
section
namespace I
open PySem L2 PySem.Spec PyProof.Rows
structure Kf (K : PySem.W.Frag) (x : Str) (st : Stmt) : Prop where
 ex : ∃ (f : Addr) (od an : Option Addr) (sl : Array (Option Value)) (oc kV dc pm cd ct : Value), PySem.W.nsIn K mainGlobals x = some (some (.ref f)) ∧ K.lookup f = some ⟨oc, od, .func (PySem.W.fnOf x x (aV st) (aF st) (ai st) .none kV dc pm an cd ct), sl⟩ ∧ PySem.W.codeIn K cd x = true ∧ PySem.W.keepIn K (.ref f) = true
theorem aw {K} {x} {st} {f} {od an} {sl} {oc kV dc pm cd ct} (a : PySem.W.nsIn K mainGlobals x = some (some (.ref f))) (l : K.lookup f = some ⟨oc, od, .func (PySem.W.fnOf x x (aV st) (aF st) (ai st) .none kV dc pm an cd ct), sl⟩) (c : PySem.W.codeIn K cd x = true) (k : PySem.W.keepIn K (.ref f) = true) : Kf K x st :=
 ⟨f, od, an, sl, oc, kV, dc, pm, cd, ct, a, l, c, k⟩
theorem Kf.df {K} {x} {st} {h} {mg} (d : Kf K x st) (X : K.In h) (G : h.Ns mainGlobals mg) : Df K mg x st := by
 obtain ⟨f, od, an, sl, oc, kV, dc, pm, cd, ct, a, l, c, k⟩ := d.ex
 exact ⟨⟨f, _, sw l c k, PySem.W.mg_of X G a⟩⟩
def wP (P : Program) (w : World) (K : PySem.W.Frag) (mg : Str → Option Value) (base : Heap) (ts : List Addr) (gn : Nat → Option Str) (G : List T) : Gm := ⟨P, w, K, mg, base, ts, gn, G⟩
abbrev CV : List Str := ["len", "tuple", "list", "int", "str", "min", "max", "all", "range", "enumerate", "zip", "any", "sum", "sorted", "set", "isinstance", "bool", "reversed"]
theorem DX {G : List T} {gs : List (Nat × Str × Int)} {K} {h} {mg} (hG : gs.all (fun r => match G[r.1]? with | some (.int i) => i == r.2.2 | _ => false) = true) (hc : cE (fun r => ∃ t, PySem.W.nsIn K mainGlobals r.2.1 = some (some (.int r.2.2 t))) gs) (X : K.In h) (N : h.Ns mainGlobals mg) : cE (fun r => G[r.1]? = some (.int r.2.2) ∧ ∃ t, mg r.2.1 = some (.int r.2.2 t)) gs := by
 induction gs with
 | nil => trivial
 | cons r l ih =>
  rw [List.all_cons, Bool.and_eq_true] at hG
  obtain ⟨⟨t, e⟩, h2⟩ := hc
  refine ⟨⟨?_, t, PySem.W.mg_of X N e⟩, ih hG.2 h2⟩
  have h1 := hG.1
  split at h1
  · simp_all
  · cases h1
theorem bJ {K} {x} (h : PySem.W.nsIn K mainGlobals x = some none) : PySem.W.nsIn K mainGlobals x = some none := h
theorem fI {K} {x} {v} {t} (h : PySem.W.nsIn K mainGlobals x = some (some (.int v t))) : ∃ t, PySem.W.nsIn K mainGlobals x = some (some (.int v t)) := ⟨t, h⟩
def rD (K : PySem.W.Frag) (tabs : List (Addr × Addr)) (r : Rw) : Prop := r.gx = true → ∃ q ∈ tabs, PySem.W.tabIn K r.x = some q
def mY (K : PySem.W.Frag) (tabs : List (Addr × Addr)) : Sp := fun vs H Q _ => ∃ (a : Addr) (ns : List Int), vs = [.ref a] ∧ cF K H a (ns.map V.int) ∧ ns.length ≤ 63 ∧ (∀ q ∈ tabs, H q.2 = some (cP q.2)) ∧ ∀ H', (∀ q ∈ tabs, H' q.2 = some (cP q.2)) → Q (.bl true) H'
def m9 (l : PySem.W.OpenLaw) (w : World) (K : PySem.W.Frag) (mg : Str → Option Value) (fa : Addr) (h : Heap) (n : Nat) : Prop :=
 ∃ (fd : FuncData) (tabs : List (Addr × Addr)) (sp : Sp), (∀ (s : Shared) (u : Value), BindsTo s fd ⟨[u], []⟩ [("_law_script", u)]) ∧ PySem.W.TabsAt tabs h ∧
  (∀ base : Heap, K.In base → base.Ns mainGlobals mg → Bm mg base → (∀ q ∈ tabs, PySem.W.CodeHd base q.1 q.2) → f7 l.prog w K mg base nk n fa fd ["_law_script"] sp) ∧
  ∀ (H : Hp) (a : Addr) (ns : List Int), ns.length ≤ 63 → cF K H a (ns.map V.int) → (∀ q ∈ tabs, H q.2 = some (cP q.2)) → sp [.ref a] H (fun v H' => v = .bl true ∧ ∀ q ∈ tabs, H' q.2 = some (cP q.2)) fun _ _ _ => False
theorem qU {l : PySem.W.OpenLaw} {w : World} {K : PySem.W.Frag} {h : Heap} {mg : Str → Option _} {fa} {n} {st} {tabs} (X : K.In h) (G : h.Ns mainGlobals mg) (hfa : mg "law" = some (.ref fa)) (hT : cE (fun q => PySem.W.CodeHd h q.1 q.2 ∧ h.get? q.2 = some (PySem.W.tabObj #[])) tabs) (hl : Kf K "law" st)
 (hb : ∀ (kV doc pm : Value) (an : Option _) (cdv ct : Value) (us : List _), us.length = 1 → bindArgs (PySem.W.fnOf "law" "law" (aV st) (aF st) (ai st) .none kV doc pm an cdv ct) ⟨us, []⟩ = pure ([("_law_script" : Str)].zip us))
 (F : ∀ (base : Heap) (f : Addr) (fd : FuncData), K.In base → base.Ns mainGlobals mg → Bm mg base → (∀ q ∈ tabs, PySem.W.CodeHd base q.1 q.2) → vG K "law" "law" st f fd → Df K mg "law" st → f7 l.prog w K mg base nk n f fd ["_law_script"] (mY K tabs)) : m9 l w K mg fa h n := by
 have d := hl.df X G
 obtain ⟨f, od, an, sl, oc, kV, dc, pm, cd, ct, a, e, c, k⟩ := hl.ex
 have e2 := hfa.symm.trans (PySem.W.mg_of X G a)
 cases e2
 exact ⟨_, _, _, fun s v => .of_eq (hb _ _ _ _ _ _ _ rfl), fun q hq => hT.mem q hq, fun base kb nb bm hcd => F _ fa _ kb nb bm hcd (sw e c k) d, fun H a ns hn hS hTb => ⟨a, ns, rfl, hS, hn, hTb, fun H' h' => ⟨rfl, h'⟩⟩⟩
theorem DH {K} {mg} {base} {tabs} (ht : cE (rD K tabs) tb) (kb : K.In base) (nb : base.Ns mainGlobals mg) (bm : Bm mg base) (hcd : ∀ q ∈ tabs, PySem.W.CodeHd base q.1 q.2) : ∀ r ∈ tb, r.gx = true → ∃ P ∈ tabs.map Prod.snd, Tb K mg base r.x P := fun r hr z => by
 obtain ⟨q, hq, e⟩ := ht.mem r hr z
 exact ⟨q.2, List.mem_map_of_mem hq, ⟨⟨q.1, e, hcd q hq⟩, kb, nb, bm⟩⟩
theorem Fg {q} {loose} {XP} {YP} {d} {K : Params → PySem.W.Frag} {n} (hn : l.most = some 63) (hdf : d.params.defaults = []) (hr : n ≤ 130)
 (hY : ∀ (w : World) (h : Heap), YP w h → (K w.params).In h) (hnt : ∀ w : World, PySem.W.noTabs (K w.params) = true)
 (F : ∀ (w : World) (mg mb : Str → Option _) (fa : Addr) (h : Heap) (s₀ : Shared), PySem.W.Ground q loose [] XP w s₀ mg mb h → (K w.params).In h → h.Ns mainGlobals mg → mg d.name = some (.ref fa) → m9 l w (K w.params) mg fa h n) :
 PySem.W.WalkO q loose XP YP l.row.toRowW d [] fun f vs => PySem.call f vs :=
 L2.uN hn (by decide) hdf ((⟨rfl, by decide, by decide⟩ : bv _ _).mono hr) hY hnt F
def Ht (K : PySem.W.Frag) (r : Rw) : Prop := match r.c with
 | none => Kf K r.x r.st
 | some _ => False
section
variable {K : PySem.W.Frag} {h : Heap} {mg : Str → Option Value} {tb : List Rw} {cs news : List Str} {sb : List (Str × Str × Bool)}
theorem zZ {Γ : Gm} {h : Heap} {r : Rw} (X : Γ.K.In h) (G : h.Ns mainGlobals Γ.mg) (a : Ht Γ.K r) : uC Γ r := by
 unfold Ht at a
 unfold uC
 cases e : r.c with
 | none => simp only [e] at a ⊢; exact a.df X G
 | some q => simp only [e] at a
theorem cE.of_mem : ∀ {l}, (∀ r ∈ l, P r) → cE P l
 | [], _ => trivial
 | x :: l, h => ⟨h x List.mem_cons_self, cE.of_mem fun r hr => h r (List.mem_cons_of_mem _ hr)⟩
end
end I
end
section
namespace I
open PySem L2
@[inline] def ws (s : String) : Array Lean.Name := ((s.splitOn " ").map String.toName).toArray
section
variable {F : FT} {G : List T} {st : ae} {ρ : aG}
theorem Jr {i : Nat} : aj F G (.v i) ρ st = (match ρ[i]? with
 | some (some w) => .ok w st
 | _ => .bad) := rfl
theorem JY {t : T} : aj F G (.c t) ρ st = (.ok (.d t) st) := rfl
theorem JC {j : Nat} : aj F G (.g j) ρ st = (match G[j]? with
 | some t => .ok (.d t) st
 | none => .bad) := rfl
theorem AT  : dB F G (.retN) ρ st = (.ok (.rt (.d .non), ρ) st) := rfl
theorem An  : dB F G (.pass) ρ st = (.ok (.nx, ρ) st) := rfl
theorem E5  : dB F G (.brk) ρ st = (.ok (.bk, ρ) st) := rfl
theorem EE  : dB F G (.cnt) ρ st = (.ok (.ct, ρ) st) := rfl
end
section
variable {F : FT} {G : List T} {st st' st1 : ae} {ρ : aG}
theorem fA {f : α → ae → ak β} : (ak.ok a st).bind f = f a st := rfl
theorem zM {t : T} : look (.d t) st = some t := rfl
theorem bq (h : st[k]? = some (some xs)) : look (.ref k) st = some (.lst xs) := by simp [look, h]
theorem CS {n : Nat} {t : T} : aJ n (.d t) st = .ok t (st.take n) := rfl
theorem D6 {n : Nat} {t : T} : ci n (.d t) st = .ok (.d t) (st.take n) := rfl
theorem vd (h : st.length = n) : st.take n = st := by subst h; exact List.take_length
theorem qB {xs : List T} : fresh (.lst xs) st = .ok (.ref st.length) (st ++ [some xs]) := rfl
theorem qr {xs : List T} : fresh (.tup xs) st = .ok (.d (.tup xs)) st := rfl
theorem qm {i : Int} : fresh (.int i) st = .ok (.d (.int i)) st := rfl
theorem qv {i : Str} : fresh (.str i) st = .ok (.d (.str i)) st := rfl
theorem rA {i : Bool} : fresh (.bl i) st = .ok (.d (.bl i)) st := rfl
theorem EK {x y} {a b t} (hx : look x st = some a) (hy : look y st = some b) (h : I.eW o a b = some t) : bh o x y st = I.fresh t st := by simp [bh, hx, hy, h]
theorem iz (h : I.eW o a b = some t) : bh o (.d a) (.d b) st = I.fresh t st := EK rfl rfl h
theorem Di (h : aI a = true) : I.eW .mul (.int a) (.int b) = some (.int (a * b)) := by
 show (if (aI a || aI b) = true then some _ else none) = _
 simp_all
theorem El {a b} (h : aI b = true) : I.eW .mul (.int a) (.int b) = some (.int (a * b)) := by
 show (if (aI a || aI b) = true then some _ else none) = _
 simp_all
theorem AQ {a b} (h : 0 < b) (h' : b < 2 ^ 1000) : I.eW .fdiv (.int a) (.int b) = some (.int (a / b)) := by show (if 0 < b ∧ b < 2 ^ 1000 then some _ else none) = _; rw [if_pos ⟨h, h'⟩]
theorem FX {a b} (h : 0 < b) : I.eW .mod (.int a) (.int b) = some (.int (a % b)) := by show (if 0 < b then some _ else none) = _; rw [if_pos h]
theorem CC (h : a.length + b.length ≤ aZ) : I.eW .add (.str a) (.str b) = some (.str (a ++ b)) := by show (if a.length + b.length ≤ aZ then some _ else none) = _; rw [if_pos h]
theorem EF (h : a.length + b.length ≤ aZ) : I.eW .add (.tup a) (.tup b) = some (.tup (a ++ b)) := by show (if a.length + b.length ≤ aZ then some _ else none) = _; rw [if_pos h]
theorem gu {x y} {a b} {t} (hx : look x st = some a) (hy : look y st = some b) (h : eK o a b = some t) : bg o x y st = .ok (.d (.bl t)) st := by simp [bg, hx, hy, h]
theorem cV (h : eK o a b = some t) : bg o (.d a) (.d b) st = .ok (.d (.bl t)) st := gu rfl rfl h
theorem HD : eK .lt (.int a) (.int b) = some (decide (a < b)) := rfl
theorem G3 {a b : Int} : eK .le (.int a) (.int b) = some (decide (a ≤ b)) := rfl
theorem HX : eK .gt (.int a) (.int b) = some (decide (b < a)) := rfl
theorem HL {a b : Int} : eK .ge (.int a) (.int b) = some (decide (b ≤ a)) := rfl
theorem Hl : eK .eq (.int a) (.int b) = some (decide (a = b)) := rfl
theorem GR : eK .eq (.str a) (.str b) = some (decide (a = b)) := rfl
theorem Iy : eK .ne (.int a) (.int b) = some !decide (a = b) := rfl
theorem GJ {a b : Str} : eK .ne (.str a) (.str b) = some (!decide (a = b)) := by
 show (if cS (.str a) ≤ 60 ∧ cS (.str b) ≤ 60 then some (!eqT (.str a) (.str b)) else none) = _
 rw [if_pos (by simp only [cS]; omega)]; show some (!(a == b)) = _; rw [Bool.beq_eq_decide_eq]
theorem cj {i} {t} (h0 : 0 ≤ i) (h : xs[i.toNat]? = some t) : dj xs i = some t := by
 have hl := (List.getElem?_eq_some_iff.mp h).1
 unfold dj pi
 grind
theorem B4 {b : Bool} : aT (.d (.bl b)) st = some b := rfl
end
section
variable {F : FT} {G : List T} {st : ae} {ρ : aG}
def GH (o : Option T) (st : ae) : ak W := match o with
 | some t => .ok (.d t) st
 | none => .bad
theorem si {t : T} : GH (some t) st = .ok (.d t) st := rfl
theorem Fw {xs : List T} {i : Int} : fN (.d (.tup xs)) (.d (.int i)) st = GH (dj xs i) st := rfl
theorem E3 {xs : List T} {i : Int} : fN (.d (.lst xs)) (.d (.int i)) st = GH (dj xs i) st := rfl
theorem Gg : fN (.ref k) (.d (.int i)) st = match st[k]? with | some (some xs) => GH (dj xs i) st | _ => .bad := by
 cases h : st[k]? with
 | none => simp [fN, look, h]
 | some o =>
  cases o with
  | none => simp [fN, look, h]
  | some xs => simp only [fN, look, h]; rfl
theorem AR {k : Nat} : look (.ref k) st = (match st[k]? with | some (some xs) => some (.lst xs) | _ => none) := rfl
theorem Ib : dj (x :: r) 0 = some x := cj (by decide) rfl
theorem Ij : dj (x :: y :: r) 1 = some y := cj (by decide) rfl
theorem Ha {α : Type} {x y z : α} {r : List α} : dj (x :: y :: z :: r) 2 = some z := cj (by decide) rfl
theorem G7 {α : Type} {x y z u : α} {r : List α} : dj (x :: y :: z :: u :: r) 3 = some u := cj (by decide) rfl
theorem HQ {α : Type} {x y z u v : α} {r : List α} : dj (x :: y :: z :: u :: v :: r) 4 = some v := cj (by decide) rfl
theorem Hx {α : Type} {x y z u v w : α} {r : List α} : dj (x :: y :: z :: u :: v :: w :: r) 5 = some w := cj (by decide) rfl
theorem Iu : pi 2 0 = some 0 := rfl
theorem Ia : pi 2 1 = some 1 := rfl
theorem w_add {a b : Int} : bh .add (.d (.int a)) (.d (.int b)) st = .ok (.d (.int (a + b))) st := rfl
theorem w_sub {a b : Int} : bh .sub (.d (.int a)) (.d (.int b)) st = .ok (.d (.int (a - b))) st := rfl
theorem BJ (h : aI a = true) : bh .mul (.d (.int a)) (.d (.int b)) st = .ok (.d (.int (a * b))) st := iz (Di h)
theorem BL {a b} (h : aI b = true) : bh .mul (.d (.int a)) (.d (.int b)) st = .ok (.d (.int (a * b))) st := iz (El h)
theorem AZ {a b} (h : 0 < b) (h' : b < 2 ^ 1000) : bh .fdiv (.d (.int a)) (.d (.int b)) st = .ok (.d (.int (a / b))) st := iz (AQ h h')
theorem w_mod {a b} (h : 0 < b) : bh .mod (.d (.int a)) (.d (.int b)) st = .ok (.d (.int (a % b))) st := iz (FX h)
theorem DW {a b} (h : 0 ≤ b ∧ b ≤ 1000000 ∧ a.natAbs < 2 ^ 64) : I.eW .pow (.int a) (.int b) = some (.int (a ^ b.toNat)) := by show (if 0 ≤ b ∧ b ≤ 1000000 ∧ a.natAbs < 2 ^ 64 then some _ else none) = _; rw [if_pos h]
theorem w_pow {a b} (h : 0 ≤ b ∧ b ≤ 1000000 ∧ a.natAbs < 2 ^ 64) : bh .pow (.d (.int a)) (.d (.int b)) st = .ok (.d (.int (a ^ b.toNat))) st := iz (DW h)
theorem Io : bh .pow (.d (.int 10)) (.d (.int 6)) st = .ok (.d (.int (10 ^ 6))) st := w_pow (by decide)
theorem Iz : bh .pow (.d (.int 10)) (.d (.int 9)) st = .ok (.d (.int (10 ^ 9))) st := w_pow (by decide)
theorem Dt : bh .pow (.d (.int 10)) (.d (.int 10)) st = .ok (.d (.int (10 ^ 10))) st := w_pow (by decide)
theorem Eh : bh .pow (.d (.int 10)) (.d (.int 18)) st = .ok (.d (.int (10 ^ 18))) st := w_pow (by decide)
theorem DD : bh .pow (.d (.int 10)) (.d (.int 60)) st = .ok (.d (.int (10 ^ 60))) st := w_pow (by decide)
theorem sM (h : a.length + b.length ≤ aZ) : bh .add (.d (.str a)) (.d (.str b)) st = .ok (.d (.str (a ++ b))) st := iz (CC h)
theorem AB (h : a.length + b.length ≤ aZ) : bh .add (.d (.tup a)) (.d (.tup b)) st = .ok (.d (.tup (a ++ b))) st := iz (EF h)
theorem w_lt : bg .lt (.d (.int a)) (.d (.int b)) st = .ok (.d (.bl (decide (a < b)))) st := cV HD
theorem IA {a b : Int} : bg .le (.d (.int a)) (.d (.int b)) st = .ok (.d (.bl (decide (a ≤ b)))) st := cV G3
theorem Im : bg .gt (.d (.int a)) (.d (.int b)) st = .ok (.d (.bl (decide (b < a)))) st := cV HX
theorem Ix {a b : Int} : bg .ge (.d (.int a)) (.d (.int b)) st = .ok (.d (.bl (decide (b ≤ a)))) st := cV HL
theorem w_eq : bg .eq (.d (.int a)) (.d (.int b)) st = .ok (.d (.bl (decide (a = b)))) st := cV Hl
theorem FN : bg .eq (.d (.str a)) (.d (.str b)) st = .ok (.d (.bl (decide (a = b)))) st := cV GR
theorem IK : bg .ne (.d (.int a)) (.d (.int b)) st = .ok (.d (.bl !decide (a = b))) st := cV Iy
theorem E9 {a b : Str} : bg .ne (.d (.str a)) (.d (.str b)) st = .ok (.d (.bl (!decide (a = b)))) st := cV GJ
theorem Aq {x y : Int} : lT .add x y = some (x + y) := rfl
theorem Bt {x y : Int} : lT .sub x y = some (x - y) := rfl
theorem F5 {b : Bool} : gq .int [.d (.bl b)] st = .ok (.d (.int (if b then 1 else 0))) st := rfl
theorem AX {xs : List T} : gq .len [.d (.tup xs)] st = .ok (.d (.int xs.length)) st := rfl
theorem A4 {xs : List T} : gq .len [.d (.lst xs)] st = .ok (.d (.int xs.length)) st := rfl
theorem AV : gq .len [.ref k] st = match st[k]? with | some (some xs) => .ok (.d (.int xs.length)) st | _ => .bad := by
 cases h : st[k]? with
 | none => simp [gq, bY, look, h]
 | some o =>
  cases o with
  | none => simp [gq, bY, look, h]
  | some xs => simp only [gq, bY, look, h]; rfl
theorem B7 {xs : List T} : gq .tuple [.d (.tup xs)] st = .ok (.d (.tup xs)) st := rfl
theorem Br {xs : List T} : gq .tuple [.d (.lst xs)] st = .ok (.d (.tup xs)) st := rfl
theorem Be : gq .tuple [.ref k] st = match st[k]? with | some (some xs) => .ok (.d (.tup xs)) st | _ => .bad := by
 cases h : st[k]? with
 | none => simp [gq, bY, look, h]
 | some o =>
  cases o with
  | none => simp [gq, bY, look, h]
  | some xs => simp only [gq, bY, look, h]; rfl
theorem Cr {xs : List T} : gq .list [.d (.tup xs)] st = .ok (.ref st.length) (st ++ [some xs]) := rfl
theorem D1 {a b : Int} : gq .min2 [.d (.int a), .d (.int b)] st = .ok (.d (.int (if b < a then b else a))) st := rfl
theorem DI {a b : Int} : gq .max2 [.d (.int a), .d (.int b)] st = .ok (.d (.int (if b > a then b else a))) st := rfl
theorem wI (h : n ≤ 1000) : n ≤ aZ := Nat.le_trans h (by decide)
end
theorem aQ (h0 : -2 ^ 64 < i) (h1 : i < 2 ^ 64) : aI i = true := by rw [oq]; simp_all
theorem fk {st : ae} : dK [] st = true := rfl
def dv (F : FT) (G : List T) (t : Tg) (body : List S) : T → aG → ae → ak (Fl × aG) := fun x ρ st => match aS t (.d x) ρ with
 | some ρ' => bI F G body ρ' st
 | none => .bad
theorem gM {t} {body} {x} {ρ ρ'} {st} (h : aS t (.d x) ρ = some ρ') : dv F G t body x ρ st = bI F G body ρ' st := by unfold dv; rw [h]
theorem BX {ix} {t} {ifs} {el} {x} {ρ ρ'} {st} (h : aS t (.d x) (bo ix ρ) = some ρ') :
 aW F G ix t ifs el ρ x st = (bA F G ifs ρ' st).bind fun b st' => if b then (aj F G el ρ' st').bind fun w st' => (aJ st.length w st').bind fun t st => .ok (some t) st else .ok none (st'.take st.length) := by
 unfold aW; rw [h]
theorem E2 {F : FT} {G : List T} {st : ae} {ρ : aG} {N : List Str} {ix ix2 : List (Option Nat)} {t t2 : Tg} {k k2 : Ik} {src ifs src2 ifs2 : List E} {el : E} {ws : List W} {st1 : ae} {xs : List T} {gs : List (Nat × List T)} (h1 : a8 F G src ρ st = .ok ws st1) (h2 : items k ws st1 = some (xs, gs)) (hz : xs.length ≤ aZ) :
 aj F G (.cp2 N ix ix2 t k src ifs t2 k2 src2 ifs2 el) ρ st = (bF gs (jr F G ix ix2 t ifs t2 k2 src2 ifs2 el ρ) xs [] st1).bind fun ys st => if ys.length ≤ aZ then fresh (.lst ys) st else .bad := by
 have e : aj F G (.cp2 N ix ix2 t k src ifs t2 k2 src2 ifs2 el) ρ st = ((a8 F G src ρ st).bind fun ws st => match items k ws st with
  | some (xs, gs) => if xs.length ≤ aZ then (bF gs (jr F G ix ix2 t ifs t2 k2 src2 ifs2 el ρ) xs [] st).bind fun ys st => if ys.length ≤ aZ then fresh (.lst ys) st else .bad else .bad
  | none => .bad) := rfl
 rw [e, h1, fA, h2]
 show (if xs.length ≤ aZ then _ else _) = _
 rw [if_pos hz]
section
variable {st : ae} {k : Nat} {x y : Option (List T)} {l : ae} {xs : List T}
theorem take_set : (st.set k x).take st.length = st.set k x := vd (by rw [List.length_set])
theorem jv : (st.set k x ++ l).take st.length = st.set k x := by simp
theorem k0 : (st ++ l).take st.length = st := List.take_left
theorem cr {lo : Int} {n : Nat} : (rng lo n).length = n := by simp [rng]
theorem Cy (h0 : 0 ≤ n) (h : n ≤ 1000) : items .rng1 [.d (.int n)] st = some (rng 0 n.toNat, []) := by
 have e : aZ = 1000000 := rfl
 show (if -aZ ≤ n ∧ n ≤ aZ then some _ else none) = _
 rw [if_pos ⟨by omega, by omega⟩]
end
end I
end
section
namespace I
open PySem L2
section
variable {F : FT} {G : List T} {st : ae} {ρ : aG}
def nV (o : kQ) (x : W) (y : W) (s : ae) : ak W := bh o x y s
def tR (F : FT) (G : List T) (o : kQ) (b : E) (ρ : aG) (x : W) (s : ae) : ak W := (aj F G b ρ s).bind (nV o x)
theorem yP {o : kQ} {a b : E} : aj F G (.bin o a b) ρ st = (aj F G a ρ st).bind (tR F G o b ρ) := rfl
def zB (o : rb) (x : W) (y : W) (s : ae) : ak W := bg o x y s
def yG (F : FT) (G : List T) (o : rb) (b : E) (ρ : aG) (x : W) (s : ae) : ak W := (aj F G b ρ s).bind (zB o x)
theorem Ek {o : rb} {a b : E} : aj F G (.cmp o a b) ρ st = (aj F G a ρ st).bind (yG F G o b ρ) := rfl
def uH (p : rb) (y : W) (u : W) (s : ae) : ak W := bg p y u s
def zz (F : FT) (G : List T) (p : rb) (c : E) (ρ : aG) (y : W) : W → ae → ak W := fun r s => match r with | .d (.bl true) => (aj F G c ρ s).bind (uH p y) | .d (.bl false) => .ok (.d (.bl false)) s | _ => .bad
theorem vK {F : FT} {G : List T} {p : rb} {c : E} {ρ : aG} {y : W} {z : W} {st1 : ae} : zz F G p c ρ y z st1 = (match z with | .d (.bl true) => (aj F G c ρ st1).bind (uH p y) | .d (.bl false) => .ok (.d (.bl false)) st1 | _ => .bad) := rfl
def yW (F : FT) (G : List T) (o p : rb) (c : E) (ρ : aG) (x : W) (y : W) (s : ae) : ak W := (bg o x y s).bind (zz F G p c ρ y)
def DG (F : FT) (G : List T) (o p : rb) (b c : E) (ρ : aG) (x : W) (s : ae) : ak W := (aj F G b ρ s).bind (yW F G o p c ρ x)
def Dj (F : FT) (G : List T) (b : E) (ρ : aG) (x : W) (s : ae) : ak W := match aT x s with | some true => aj F G b ρ s | some false => .ok x s | none => .bad
theorem FL {a b : E} : aj F G (.and a b) ρ st = (aj F G a ρ st).bind (Dj F G b ρ) := rfl
def IX (F : FT) (G : List T) (b : E) (ρ : aG) (x : W) (s : ae) : ak W := match aT x s with | some false => aj F G b ρ s | some true => .ok x s | none => .bad
theorem Il {a b : E} : aj F G (.or a b) ρ st = (aj F G a ρ st).bind (IX F G b ρ) := rfl
def wa (x : W) (s : ae) : ak W := match aT x s with | some b => .ok (.d (.bl (!b))) s | none => .bad
theorem Eo {a : E} : aj F G (.not a) ρ st = (aj F G a ρ st).bind wa := rfl
def JJ (x : W) (s : ae) : ak W := match look x s with | some (.tup xs) => .ok (.d (.tup xs.reverse)) s | _ => .bad
def Fo (x : W) (s : ae) : ak W := Gz x s
theorem FK {a : E} : aj F G (.ss a) ρ st = (aj F G a ρ st).bind Fo := rfl
def Fx (x : W) (s : ae) : ak W := nh x s
theorem Ge {a : E} : aj F G (.srv a) ρ st = (aj F G a ρ st).bind Fx := rfl
def zm (x : W) (y : W) (s : ae) : ak W := ql x y s
def yR (F : FT) (G : List T) (e : E) (ρ : aG) (x : W) (s : ae) : ak W := if (look x s).isNone then .bad else (aj F G e ρ s).bind (zm x)
theorem CM {o e : E} : aj F G (.ext o e) ρ st = (aj F G o ρ st).bind (yR F G e ρ) := rfl
def DZ (x : W) (s : ae) : ak W := .ok (.d (.bl (match x with | .d .non => true | _ => false))) s
theorem Dp {a : E} : aj F G (.isN a) ρ st = (aj F G a ρ st).bind DZ := rfl
def y8 (x : W) (s : ae) : ak W := .ok (.d (.bl (match x with | .d .non => false | _ => true))) s
theorem Ar {a : E} : aj F G (.notN a) ρ st = (aj F G a ρ st).bind y8 := rfl
def G6 (F : FT) (G : List T) (a b : E) (ρ : aG) (x : W) (s : ae) : ak W := match aT x s with | some true => aj F G a ρ s | some false => aj F G b ρ s | none => .bad
def Dy (ts : List T) (s : ae) : ak W := if ts.length ≤ aZ then .ok (.d (.tup ts)) s else .bad
theorem Fi {es : List E} : aj F G (.tup es) ρ st = (cT F G es ρ st).bind Dy := rfl
def DF (ts : List T) (s : ae) : ak W := if ts.length ≤ aZ then fresh (.lst ts) s else .bad
theorem Ex {es : List E} : aj F G (.lst es) ρ st = (cT F G es ρ st).bind DF := rfl
def Da (x : W) (y : W) (s : ae) : ak W := fN x y s
def DA (F : FT) (G : List T) (b : E) (ρ : aG) (x : W) (s : ae) : ak W := (aj F G b ρ s).bind (Da x)
theorem HN {a b : E} : aj F G (.ix a b) ρ st = (aj F G a ρ st).bind (DA F G b ρ) := rfl
def Dr (x : W) (l : Option Int) (h : Option Int) (s : ae) : ak W := CK x l h s
def DR (F : FT) (G : List T) (hi : Option E) (ρ : aG) (x : W) (l : Option Int) (s : ae) : ak W := (vH F G hi ρ s).bind (Dr x l)
def Fj (F : FT) (G : List T) (lo hi : Option E) (ρ : aG) (x : W) (s : ae) : ak W := (vH F G lo ρ s).bind (DR F G hi ρ x)
theorem Hz {a : E} {lo hi : Option E} : aj F G (.sl a lo hi) ρ st = (aj F G a ρ st).bind (Fj F G lo hi ρ) := rfl
def yA (F : FT) (f : Nat) (ws : List W) (s : ae) : ak W := F f ws s
theorem zW {f : Nat} {es : List E} : aj F G (.call f es) ρ st = (a8 F G es ρ st).bind (yA F f) := rfl
def Jg (f : Bf) (ws : List W) (s : ae) : ak W := gq f ws s
theorem GV {f : Bf} {es : List E} : aj F G (.bf f es) ρ st = (a8 F G es ρ st).bind (Jg f) := rfl
def Gu (m : Mt) (x : W) (ts : List T) (s : ae) : ak W := match x with
 | .ref k => match s[k]? with
  | some (some xs) => match vM m xs ts with
   | some (ys, t) => .ok (.d t) (s.set k (some ys))
   | none => .bad
  | _ => .bad
 | .d t => match xU m t ts with
  | some u => fresh u s
  | none => .bad
theorem FR {m : Mt} {k : Nat} {ts : List T} {s : ae} : Gu m (.ref k) ts s = (match s[k]? with
 | some (some xs) => match vM m xs ts with
  | some (ys, t) => .ok (.d t) (s.set k (some ys))
  | none => .bad
 | _ => .bad) := rfl
theorem CU {m : Mt} {t : T} {ts : List T} {s : ae} : Gu m (.d t) ts s = (match xU m t ts with
 | some u => fresh u s
 | none => .bad) := rfl
def Ga (m : Mt) (x : W) (ts : List T) (s : ae) : ak W := Gu m x ts s
def EQ (F : FT) (G : List T) (m : Mt) (es : List E) (ρ : aG) (x : W) (s : ae) : ak W := if (look x s).isNone then .bad else (cT F G es ρ s).bind (Ga m x)
theorem Ca {m : Mt} {o : E} {es : List E} : aj F G (.meth m o es) ρ st = (aj F G o ρ st).bind (EQ F G m es ρ) := rfl
def Gb (n : Ty) (x : W) (s : ae) : ak W := match look x s with | some t => if fG t then .ok (.d (.bl (rY n t))) s else .bad | none => .bad
theorem CT {n : Ty} {a : E} : aj F G (.isi n a) ρ st = (aj F G a ρ st).bind (Gb n) := rfl
def Dl (x : W) (y : W) (s : ae) : ak W := Ic x y s
def Ig (F : FT) (G : List T) (b : E) (ρ : aG) (x : W) (s : ae) : ak W := (aj F G b ρ s).bind (Dl x)
def Fp (x : W) (y : W) (s : ae) : ak W := G2 x y s
def Hf (F : FT) (G : List T) (b : E) (ρ : aG) (x : W) (s : ae) : ak W := (aj F G b ρ s).bind (Fp x)
def CN (t : T) (s : ae) : ak W := .ok (.d t) s
def F7 (n : Nat) (x : W) (s : ae) : ak W := (aJ n x s).bind CN
theorem FY {e : E} : aj F G (.frz e) ρ st = (aj F G e ρ st).bind (F7 st.length) := rfl
def IW (n : Nat) (x : W) (s : ae) : ak W := ci n x s
theorem HP {e : E} : aj F G (.tr e) ρ st = (aj F G e ρ st).bind (IW st.length) := rfl
def C3 (w : W) (ws : List W) (s : ae) : ak (List W) := .ok (w :: ws) s
def Fy (F : FT) (G : List T) (es : List E) (ρ : aG) (w : W) (s : ae) : ak (List W) := (a8 F G es ρ s).bind (C3 w)
theorem Ie {e : E} {es : List E} : a8 F G (e :: es) ρ st = (aj F G e ρ st).bind (Fy F G es ρ) := rfl
theorem EL  : a8 F G [] ρ st = .ok [] st := rfl
def FZ (t : T) (ts : List T) (s : ae) : ak (List T) := .ok (t :: ts) s
def FH (F : FT) (G : List T) (es : List E) (ρ : aG) (t : T) (s : ae) : ak (List T) := (cT F G es ρ s).bind (FZ t)
def Fc (F : FT) (G : List T) (es : List E) (ρ : aG) (n : Nat) (w : W) (s : ae) : ak (List T) := (aJ n w s).bind (FH F G es ρ)
theorem HK {e : E} {es : List E} : cT F G (e :: es) ρ st = (aj F G e ρ st).bind (Fc F G es ρ st.length) := rfl
theorem Fs  : cT F G [] ρ st = .ok [] st := rfl
def Jc (F : FT) (G : List T) (es : List E) (ρ : aG) (w : W) (s : ae) : ak Bool := match aT w s with | some true => bA F G es ρ s | some false => .ok false s | none => .bad
theorem GX {e : E} {es : List E} : bA F G (e :: es) ρ st = (aj F G e ρ st).bind (Jc F G es ρ) := rfl
theorem F2  : bA F G [] ρ st = .ok true st := rfl
def kO (w : W) (s : ae) : ak (Option Int) := match look w s with | some (.int i) => .ok (some i) s | _ => .bad
theorem JQ {e : E} : vH F G (some e) ρ st = (aj F G e ρ st).bind kO := rfl
theorem IF  : vH F G none ρ st = .ok none st := rfl
def Ez (t : Tg) (ρ : aG) (w : W) (s : ae) : ak (Fl × aG) := match aS t w ρ with | some ρ1 => .ok (.nx, ρ1) s | none => .bad
theorem EA {t : Tg} {e : E} : dB F G (.asg t e) ρ st = (aj F G e ρ st).bind (Ez t ρ) := rfl
def EY (ρ : aG) (t : T) (x : W) (y : W) (s : ae) : ak (Fl × aG) := match x, look y s with | .ref k, some (.int n) => (match s[k]? with | some (some xs) => (match pi xs.length n with | some j => .ok (.nx, ρ) (s.set k (some (xs.set j t))) | none => .bad) | _ => .bad) | _, _ => .bad
def Gh (F : FT) (G : List T) (i : E) (ρ : aG) (t : T) (x : W) (s : ae) : ak (Fl × aG) := (aj F G i ρ s).bind (EY ρ t x)
def Dg (F : FT) (G : List T) (o i : E) (ρ : aG) (t : T) (s : ae) : ak (Fl × aG) := (aj F G o ρ s).bind (Gh F G i ρ t)
def FS (F : FT) (G : List T) (o i : E) (ρ : aG) (n : Nat) (w : W) (s : ae) : ak (Fl × aG) := (aJ n w s).bind (Dg F G o i ρ)
theorem z6 {o i e : E} : dB F G (.setx o i e) ρ st = (aj F G e ρ st).bind (FS F G o i ρ st.length) := rfl
def Dk (i : Nat) (o : kQ) (ρ : aG) (a : T) (w : W) (s : ae) : ak (Fl × aG) := match a, look w s with | .int x, some (.int y) => (match lT o x y with | some z => .ok (.nx, ρ.set i (some (.d (.int z)))) s | none => .bad) | _, _ => .bad
theorem EB {i : Nat} {o : kQ} {e : E} : dB F G (.aug i o e) ρ st = (match ρ[i]? with | some (some (.d a)) => (aj F G e ρ st).bind (Dk i o ρ a) | _ => .bad) := rfl
def Ja (ρ : aG) (n : Nat) (_w : W) (s : ae) : ak (Fl × aG) := .ok (.nx, ρ) (s.take n)
theorem Hb {e : E} : dB F G (.ex e) ρ st = (aj F G e ρ st).bind (Ja ρ st.length) := rfl
def FJ (ρ : aG) (w : W) (s : ae) : ak (Fl × aG) := .ok (.rt w, ρ) s
theorem Dq {e : E} : dB F G (.ret e) ρ st = (aj F G e ρ st).bind (FJ ρ) := rfl
def F6 (F : FT) (G : List T) (a b : List S) (ρ : aG) (n : Nat) (w : W) (s : ae) : ak (Fl × aG) := match aT w s with | some true => bI F G a ρ (s.take n) | some false => bI F G b ρ (s.take n) | none => .bad
theorem Dh {c : E} {a b : List S} : dB F G (.ifs c a b) ρ st = (aj F G c ρ st).bind (F6 F G a b ρ st.length) := rfl
def Dz (F : FT) (G : List T) (ss : List S) (p : Fl × aG) (s : ae) : ak (Fl × aG) := match p.1 with | .nx => bI F G ss p.2 s | f => .ok (f, p.2) s
theorem B1 {F : FT} {G : List T} {ss : List S} {ρ : aG} {s : ae} : Dz F G ss (.nx, ρ) s = bI F G ss ρ s := rfl
theorem Ag {F : FT} {G : List T} {ss : List S} {ρ : aG} {s : ae} {w : W} : Dz F G ss (.rt w, ρ) s = .ok (.rt w, ρ) s := rfl
theorem CF {F : FT} {G : List T} {ss : List S} {ρ : aG} {s : ae} : Dz F G ss (.bk, ρ) s = .ok (.bk, ρ) s := rfl
theorem BQ {F : FT} {G : List T} {ss : List S} {ρ : aG} {s : ae} : Dz F G ss (.ct, ρ) s = .ok (.ct, ρ) s := rfl
def uD (n : Nat) : (Fl × aG) → ae → ak W := fun p st => match p.1 with
 | .rt w => ci n w st
 | .nx => .ok (.d .non) (st.take n)
 | _ => .bad
theorem xJ {n : Nat} {w : W} {ρ : aG} {st : ae} : uD n (.rt w, ρ) st = ci n w st := rfl
theorem xI {n : Nat} {ρ : aG} {st : ae} : uD n (.nx, ρ) st = .ok (.d .non) (st.take n) := rfl
theorem aL {ws} {st} (h : ws.length = D.ar) : aC F G D ws st = (bI F G D.body (ws.map some ++ List.replicate (D.sl - D.ar) none) st).bind (uD st.length) := by
 unfold aC; rw [if_pos h]; rfl
theorem GP {s : S} {ss : List S} : bI F G (s :: ss) ρ st = (dB F G s ρ st).bind (Dz F G ss) := rfl
theorem C6  : bI F G [] ρ st = .ok (.nx, ρ) st := rfl
def Jo (t : T) (s : ae) : ak (Option T) := .ok (some t) s
def Jp (n : Nat) (w : W) (s : ae) : ak (Option T) := (aJ n w s).bind Jo
def HM (F : FT) (G : List T) (el : E) (ρ : aG) (n : Nat) (b : Bool) (s : ae) : ak (Option T) := if b then (aj F G el ρ s).bind (Jp n) else .ok none (s.take n)
theorem r8 {t} {ifs} {el} {x} {ρ ρ'} {st} (h : aS t (.d x) (bo ix ρ) = some ρ') :
 aW F G ix t ifs el ρ x st = (bA F G ifs ρ' st).bind (HM F G el ρ' st.length) := BX h
section
variable {st : ae} {k n : Nat}
theorem Hq : aJ n (.ref k) st = (match st[k]? with | some (some xs) => .ok (.lst xs) ((st.set k none).take n) | _ => .bad) := rfl
theorem He : ci n (.ref k) st = (if k < n then .ok (.ref k) (st.take n) else match st[k]? with | some (some xs) => .ok (.ref (st.take n).length) (st.take n ++ [some xs]) | _ => .bad) := rfl
end
end
end I
end
section
namespace I
open PySem L2
theorem on {step} : ∀ {xs} {ρ} {st} (P : Nat → aG → ae → Prop), P 0 ρ st → (∀ i ρ st, i ≤ xs.length → P i ρ st → dK gs st = true) → (∀ (i : Nat) x ρ st, xs[i]? = some x → P i ρ st → ∃ ρ' st', step x ρ st = .ok (.nx, ρ') st' ∧ P (i + 1) ρ' st') →
 ∃ ρ' st', aM gs step xs ρ st = .ok (.nx, ρ') st' ∧ P xs.length ρ' st'
 | [], ρ, st, P, h0, hs, _ => ⟨ρ, st, by simp only [aM]; rw [if_pos (hs 0 ρ st (Nat.le_refl _) h0)], h0⟩
 | x :: xs, ρ, st, P, h0, hs, h => by
  obtain ⟨ρ1, st1, e1, p1⟩ := h 0 x ρ st rfl h0
  simp only [aM]
  rw [if_pos (hs 0 ρ st (Nat.zero_le _) h0), e1]
  exact on (fun i => P (i + 1)) p1 (fun i ρ st hi => hs _ ρ st (by simpa using hi)) fun i y ρ st hy => h _ y ρ st (by simpa using hy)
end I
end
section
namespace Hd
open PySem L2
structure R where
 r : Int
 c : Int
def Jb (r c : Int) : Int :=
 let n := (r * 48271 + 7919 * c * c + 11) % 2147483629
 (n * n + 69621 * c + 7) % 2147483587
def take (b : Int) (s : R) : Int × R :=
 if s.r > 10 ^ 18 then ((s.r - 10 ^ 18) % b, ⟨10 ^ 18 + (s.r - 10 ^ 18) / b, s.c + 1⟩) else (Jb s.r (s.c + 1) / 5 % b, ⟨s.r, s.c + 1⟩)
def Bc : Nat → Int → R → Int × R
 | 0, t, s => (t, s)
 | n + 1, t, s => Bc n (t * 10 ^ 9 + (take (10 ^ 9) s).1) (take (10 ^ 9) s).2
def Iv (m : Int) (s : R) : Int × R := ((Bc 7 0 s).1 % m, (Bc 7 0 s).2)
def u6 (s : R) : Int × R :=
 if (take 4 s).1 = 3 then Iv (10 ^ 60) (take 4 s).2
 else take (if (take 4 s).1 = 0 then 5 else if (take 4 s).1 = 1 then 100 else 1000) (take 4 s).2
def cell (ns : List Int) (k : Nat) : Int := ns.getD k 0
end Hd
end
section
namespace Hd
open PySem L2
def st {α : Type} (f : Nat → R → α × R) (s : R) : Nat → R
 | 0 => s
 | i + 1 => (f i (st f s i)).2
def wR {α : Type} (f : Nat → R → α × R) (s : R) (n : Nat) : List α := (List.range n).map fun i => (f i (st f s i)).1
def kept (f : Nat → R → Bool × R) (s : R) (n : Nat) : List Nat := (List.range n).filter fun i => (f i (st f s i)).1
def db : Str := "abcdefghijklmnopqrstuvwxyz"
def jQ (c : Nat) : Str := ⟨#[c]⟩
def bU (i : Int) : Nat := db.cps.toList.getD i.toNat 0
def FE (i : Int) : Int := if i = 0 then 1 else if i = 1 then 3 else if i = 2 then 5 else 7
def B8 (n : Nat) (s : R) : Str := Txt.join "" ((wR (fun _ => take 26) s n).map fun i => jQ (bU i))
def names (many : Nat) (s : R) : List Str × R :=
 let x1 := take 8 s
 let size := 1 + x1.1
 let base := B8 size.toNat x1.2
 let s2 := st (fun _ => take 26) x1.2 size.toNat
 let x3 := take 4 s2
 if x3.1 = 0 then ((List.range many).map fun (k : Nat) => Txt.slice (eA base 8) none (some ((k : Int) + 1)), x3.2)
 else
  let x4 := take size x3.2
  let x5 := take 26 x4.2
  let x6 := take 4 x5.2
  ((List.range many).map fun (k : Nat) => Txt.slice base none (some x4.1) ++ jQ (bU ((x5.1 + FE x6.1 * (k : Int)) % 26)) ++ Txt.slice base (some (x4.1 + 1)) none, x6.2)
set_option genInjectivity false in
structure Place where
 name : Str
 rent : Int
 shut : List Int
set_option genInjectivity false in
structure ao where
 name : Str
 pay : Int
 hold : Int
 run : Int
 away : List Int
set_option genInjectivity false in
structure ab where
 name : Str
 place : Str
 length : Int
 word : Str
 cast : List Str
set_option genInjectivity false in
structure aH where
 crew : Int
 move : Int
 days : List (Int × Int)
 places : List Place
 players : List ao
 scenes : List ab
def iW (d : Int × Int) : T := .tup [.int d.1, .int d.2]
def Place.t (p : Place) : T := .tup [.str p.name, .int p.rent, .tup (p.shut.map T.int)]
def ao.t (p : ao) : T := .tup [.str p.name, .int p.pay, .int p.hold, .int p.run, .tup (p.away.map T.int)]
def ab.t (p : ab) : T := .tup [.str p.name, .str p.place, .int p.length, .str p.word, .tup (p.cast.map T.str)]
def aH.t (b : aH) : T := .tup [.int b.crew, .int b.move, .tup (b.days.map iW), .tup (b.places.map Place.t), .tup (b.players.map ao.t), .tup (b.scenes.map ab.t)]
def zq (unit : Int) (s : R) : (Int × Int) × R :=
 let x1 := take 14 s
 let x2 := take 8 x1.2
 let x3 := take 3 x2.2
 let x4 := take 5 x3.2
 let hours := unit * (if x4.1 / 2 = 0 then 4 + x1.1 else if x4.1 / 2 = 1 then 12 + x2.1 else x3.1)
 let x5 := take 12 x4.2
 let x6 := take (hours + 1) x5.2
 let x7 := take 3 x6.2
 ((hours, if x7.1 = 0 then hours else if x7.1 = 1 then (if unit * x5.1 < hours then unit * x5.1 else hours) else x6.1), x7.2)
def days (many : Nat) (unit : Int) (s : R) : List (Int × Int) × R := (wR (fun _ => zq unit) s many, st (fun _ => zq unit) s many)
def GC (b : Int) (s : R) : Bool × R := (decide ((take b s).1 = 0), (take b s).2)
def lV (many : Nat) (s : R) : List Int × R :=
 let x := take 8 s
 ((kept (fun _ => GC (3 + x.1)) x.2 many).map fun (i : Nat) => (i : Int), st (fun _ => GC (3 + x.1)) x.2 many)
def placeOf (many : Nat) (nm : Str) (s : R) : Place × R :=
 let x := u6 s
 let y := lV many x.2
 (⟨nm, x.1, y.1⟩, y.2)
def places (many : Nat) (s : R) : List Place × R :=
 let x1 := take 3 s
 let x2 := take 7 x1.2
 let x3 := take 4 x2.2
 let count := if x3.1 = 0 then x2.1 else 1 + x1.1
 let ns := names count.toNat x3.2
 (wR (fun i => placeOf many (ns.1.getD i Str.empty)) ns.2 count.toNat, st (fun i => placeOf many (ns.1.getD i Str.empty)) ns.2 count.toNat)
def ln (many : Nat) (nm : Str) (s : R) : ao × R :=
 let x := u6 s
 let y := Iv (x.1 + 1) x.2
 let z := take 3 y.2
 let hold := if z.1 = 0 then 0 else if z.1 = 1 then x.1 else y.1
 let u := take 2 z.2
 let v := take (if u.1 = 0 then 2 else 8) u.2
 let d := lV many v.2
 (⟨nm, x.1, hold, 1 + v.1, d.1⟩, d.2)
def players (many : Nat) (s : R) : List ao × R :=
 let x1 := take 4 s
 let x2 := take 7 x1.2
 let x3 := take 3 x2.2
 let count := if x3.1 = 0 then x2.1 else x1.1
 let ns := names count.toNat x3.2
 (wR (fun i => ln many (ns.1.getD i Str.empty)) ns.2 count.toNat, st (fun i => ln many (ns.1.getD i Str.empty)) ns.2 count.toNat)
def CD (i : Int) : Str := if i = 1 then "sun" else if i = 2 then "moon" else "any"
def yr (nm : Str) (pl : List Place) (qs : List ao) (unit : Int) (s : R) : ab × R :=
 let x1 := take pl.length s
 let x2 := take 6 x1.2
 let x3 := take 4 x2.2
 let cs := (kept (fun _ => GC 3) x3.2 qs.length).map fun i => (qs.map (·.name)).getD i Str.empty
 let x4 := take 2 (st (fun _ => GC 3) x3.2 qs.length)
 (⟨nm, (pl.map (·.name)).getD x1.1.toNat Str.empty, unit * (1 + x2.1), CD x3.1, if x4.1 = 1 then cs.reverse else cs⟩, x4.2)
def JH (ns : List Int) (mostDays mostScenes : Int) : aH :=
 let h0 : R := ⟨cell ns 0, 0⟩
 let x1 := take mostDays h0
 let many := (1 + x1.1).toNat
 let x2 := Iv (10 ^ 10) x1.2
 let x3 := take 4 x2.2
 let unit := if x3.1 = 2 then 10 ^ 6 else if x3.1 = 3 then 1 + x2.1 else 1
 let crew := u6 x3.2
 let x4 := take 3 crew.2
 let ds := (days many unit ⟨cell ns 1, 1⟩).1
 let ps := (places many ⟨cell ns 2, 2⟩).1
 let qs := (players many ⟨cell ns 3, 3⟩).1
 let x5 := take (mostScenes + 1) x4.2
 let count := if ps.length = 0 then 0 else x5.1.toNat
 let nms := (names count x5.2).1
 ⟨crew.1, unit * x4.1, ds, ps, qs, (List.range count).map fun k => (yr (nms.getD k Str.empty) ps qs unit ⟨cell ns (4 + k), 4 + k⟩).1⟩
end Hd
end
section
namespace Hd
open PySem L2
mutual
def plain : T → Bool
 | .tup xs => iC xs && decide (xs.length ≤ 1000)
 | .lst _ => false
 | .bl _ => false
 | _ => true
def iC : List T → Bool
 | [] => true
 | x :: xs => plain x && iC xs
end
theorem iG : ∀ {xs} {i : Nat} {x}, iC xs = true → xs[i]? = some x → plain x = true
 | [], _, _, _, e => by simp at e
 | t :: ts, 0, x, h, e => by
  simp only [iC] at h
  grind
 | t :: ts, i + 1, x, h, e => by
  simp only [iC, Bool.and_eq_true] at h
  exact iG h.2 (by simpa using e)
theorem lU : ∀ {xs} {i : Nat} {x}, xs[i]? = some x → cS x ≤ cB xs
 | [], _, _, e => by simp at e
 | t :: ts, 0, x, e => by
  have e' := by simpa using e
  rw [← e']
  simp only [cB]
  omega
 | t :: ts, i + 1, x, e => by
  have := lU (by simpa using e)
  simp only [cB]
  omega
def bX : Option Int → T
 | none => .non
 | some i => .int i
def ag (os : List (Option Int)) : T := .tup (os.map bX)
theorem fh {α : Type} (f : α → T) (k : Nat) (h : ∀ x, cS (f x) ≤ k) : ∀ xs : List α, cB (xs.map f) ≤ k
 | [] => Nat.zero_le _
 | x :: xs => by
  have a := h x
  have b := fh f k h xs
  simp only [List.map_cons, cB]
  omega
theorem dQ (ts : List T) : eqT (.lst ts) (.lst []) = decide (ts.length = 0) := by cases ts <;> rfl
end Hd
end
section
namespace Hd
open PySem L2 I
def G0 : List T := [.int 4, .int 0, .int 2, .int 1, .int 12, .int 2, .int 8, .int 8, .int 60, .int 8, .int 5, .int 6, .int 6, .int 8, .int 1, .int 0, .int 1, .int 3, .int 4, .int 1, .int 5, .int 3, .int 1000, .int 3]
def ca : ce := ⟨2, 2, [.ifs (.cmp .lt (.v 1) (.bf .len [(.v 0)])) [.ret (.ix (.v 0) (.v 1))] [], .ret (.c (.int 0))]⟩
def dI : ce := ⟨2, 4, [.setx (.v 0) (.c (.int 1)) (.bin .add (.ix (.v 0) (.c (.int 1))) (.c (.int 1))), .ifs (.cmp .gt (.ix (.v 0) (.c (.int 0))) (.bin .pow (.c (.int 10)) (.c (.int 18)))) [.asg (.nm 2) (.bin .sub (.ix (.v 0) (.c (.int 0))) (.bin .pow (.c (.int 10)) (.c (.int 18)))), .setx (.v 0) (.c (.int 0)) (.bin .add (.bin .pow (.c (.int 10)) (.c (.int 18))) (.bin .fdiv (.v 2) (.v 1))), .ret (.bin .mod (.v 2) (.v 1))] [], .asg (.nm 3) (.bin .mod (.bin .add (.bin .add (.bin .mul (.ix (.v 0) (.c (.int 0))) (.c (.int 48271))) (.bin .mul (.bin .mul (.c (.int 7919)) (.ix (.v 0) (.c (.int 1)))) (.ix (.v 0) (.c (.int 1))))) (.c (.int 11))) (.c (.int 2147483629))), .asg (.nm 3) (.bin .mod (.bin .add (.bin .add (.bin .mul (.v 3) (.v 3)) (.bin .mul (.c (.int 69621)) (.ix (.v 0) (.c (.int 1))))) (.c (.int 7))) (.c (.int 2147483587))), .ret (.bin .mod (.bin .fdiv (.v 3) (.c (.int 5))) (.v 1))]⟩
def bW : ce := ⟨2, 3, [.asg (.nm 2) (.bin .add (.c (.int 3)) (.call 1 [(.v 0), (.c (.int 8))])), .ret (.frz (.tr (.bf .tuple [(.comp ["_law_row", "_law_share", "_law_day"] [some 0, some 2, none] (.nm 2) .rng1 [(.v 1)] [(.cmp .eq (.call 1 [(.v 0), (.v 1)]) (.c (.int 0)))] (.v 2))])))]⟩
def gH : ce := ⟨2, 4, [.asg (.nm 2) (.c (.int 0)), .for (.nm 3) .rng1 [(.c (.int 7))] [.asg (.nm 2) (.bin .add (.bin .mul (.v 2) (.bin .pow (.c (.int 10)) (.c (.int 9)))) (.call 1 [(.v 0), (.bin .pow (.c (.int 10)) (.c (.int 9)))]))], .ret (.bin .mod (.v 2) (.v 1))]⟩
def fF : ce := ⟨3, 7, [.asg (.nm 3) (.lst []), .for (.nm 4) .rng1 [(.v 1)] [.asg (.nm 5) (.frz (.bin .mul (.v 2) (.tr (.ix (.lst [(.bin .add (.c (.int 4)) (.call 1 [(.v 0), (.c (.int 14))])), (.bin .add (.c (.int 12)) (.call 1 [(.v 0), (.c (.int 8))])), (.call 1 [(.v 0), (.c (.int 3))])]) (.bin .fdiv (.call 1 [(.v 0), (.c (.int 5))]) (.c (.int 2))))))), .asg (.nm 6) (.frz (.lst [(.v 5), (.bf .min2 [(.v 5), (.bin .mul (.v 2) (.call 1 [(.v 0), (.c (.int 12))]))]), (.call 1 [(.v 0), (.frz (.bin .add (.v 5) (.c (.int 1))))])])), .ex (.meth .append (.v 3) [(.tup [(.v 5), (.ix (.v 6) (.call 1 [(.v 0), (.c (.int 3))]))])])], .ret (.bf .tuple [(.v 3)])]⟩
def ez : ce := ⟨1, 2, [.asg (.nm 1) (.call 1 [(.v 0), (.c (.int 4))]), .ifs (.cmp .eq (.v 1) (.c (.int 3))) [.ret (.call 3 [(.v 0), (.bin .pow (.c (.int 10)) (.c (.int 60)))])] [], .ret (.frz (.call 1 [(.v 0), (.frz (.tr (.ix (.lst [(.c (.int 5)), (.c (.int 100)), (.c (.int 1000))]) (.v 1))))]))]⟩
def dY : ce := ⟨2, 8, [.asg (.nm 2) (.c (.str "abcdefghijklmnopqrstuvwxyz")), .asg (.nm 3) (.bin .add (.c (.int 1)) (.call 1 [(.v 0), (.c (.int 8))])), .asg (.nm 4) (.frz (.tr (.meth .join (.c (.str "")) [(.comp ["_law_letters", "_law_row", "_law_k"] [some 2, some 0, none] (.nm 2) .rng1 [(.v 3)] [] (.ix (.v 0) (.call 1 [(.v 1), (.c (.int 26))])))]))), .ifs (.cmp .eq (.call 1 [(.v 0), (.c (.int 4))]) (.c (.int 0))) [.ret (.comp ["_law_base", "_law_k"] [some 4, none] (.nm 1) .rng1 [(.v 1)] [] (.frz (.sl (.bin .mul (.v 0) (.c (.int 8))) none (some (.bin .add (.v 1) (.c (.int 1)))))))] [], .asg (.nm 5) (.call 1 [(.v 0), (.v 3)]), .asg (.nm 6) (.call 1 [(.v 0), (.c (.int 26))]), .asg (.nm 7) (.frz (.tr (.ix (.lst [(.c (.int 1)), (.c (.int 3)), (.c (.int 5)), (.c (.int 7))]) (.call 1 [(.v 0), (.c (.int 4))])))), .ret (.comp ["_law_base", "_law_at", "_law_letters", "_law_first", "_law_step", "_law_k"] [some 4, some 5, some 2, some 6, some 7, none] (.nm 5) .rng1 [(.v 1)] [] (.frz (.bin .add (.bin .add (.sl (.v 0) none (some (.v 1))) (.ix (.v 2) (.bin .mod (.bin .add (.v 3) (.bin .mul (.v 4) (.v 5))) (.c (.int 26))))) (.sl (.v 0) (some (.bin .add (.v 1) (.c (.int 1)))) none))))]⟩
def dg : ce := ⟨2, 3, [.asg (.nm 2) (.frz (.tr (.ix (.lst [(.bin .add (.c (.int 1)) (.call 1 [(.v 0), (.c (.int 3))])), (.call 1 [(.v 0), (.c (.int 7))])]) (.bf .int [(.cmp .eq (.call 1 [(.v 0), (.c (.int 4))]) (.c (.int 0)))])))), .ret (.frz (.tr (.bf .tuple [(.comp ["_law_row", "_law_many", "_law_name"] [some 0, some 1, none] (.nm 2) .seq [(.frz (.call 6 [(.v 0), (.v 2)]))] [] (.tup [(.v 2), (.call 5 [(.v 0)]), (.call 2 [(.v 0), (.v 1)])]))])))]⟩
def cJ : ce := ⟨2, 8, [.asg (.nm 2) (.frz (.tr (.ix (.lst [(.call 1 [(.v 0), (.c (.int 4))]), (.call 1 [(.v 0), (.c (.int 7))])]) (.bf .int [(.cmp .eq (.call 1 [(.v 0), (.c (.int 3))]) (.c (.int 0)))])))), .asg (.nm 3) (.lst []), .for (.nm 4) .seq [(.frz (.call 6 [(.v 0), (.v 2)]))] [.asg (.nm 5) (.call 5 [(.v 0)]), .asg (.nm 6) (.frz (.tr (.ix (.lst [(.c (.int 0)), (.v 5), (.call 3 [(.v 0), (.frz (.bin .add (.v 5) (.c (.int 1))))])]) (.call 1 [(.v 0), (.c (.int 3))])))), .asg (.nm 7) (.frz (.bin .add (.c (.int 1)) (.call 1 [(.v 0), (.frz (.tr (.ix (.lst [(.c (.int 2)), (.c (.int 8))]) (.call 1 [(.v 0), (.c (.int 2))]))))]))), .ex (.meth .append (.v 3) [(.tup [(.v 4), (.v 5), (.v 6), (.v 7), (.call 2 [(.v 0), (.v 1)])])])], .ret (.bf .tuple [(.v 3)])]⟩
def dZ : ce := ⟨5, 9, [.asg (.nm 5) (.ix (.ix (.v 2) (.call 1 [(.v 0), (.bf .len [(.v 2)])])) (.c (.int 0))), .asg (.nm 6) (.bin .mul (.v 4) (.bin .add (.c (.int 1)) (.call 1 [(.v 0), (.c (.int 6))]))), .asg (.nm 7) (.frz (.tr (.ix (.lst [(.c (.str "any")), (.c (.str "sun")), (.c (.str "moon")), (.c (.str "any"))]) (.call 1 [(.v 0), (.c (.int 4))])))), .asg (.nm 8) (.comp ["_law_row", "_law_player"] [some 0, none] (.nm 1) .seq [(.v 3)] [(.cmp .eq (.call 1 [(.v 0), (.c (.int 3))]) (.c (.int 0)))] (.ix (.v 1) (.c (.int 0)))), .ifs (.cmp .eq (.call 1 [(.v 0), (.c (.int 2))]) (.c (.int 1))) [.ex (.meth .reverse (.v 8) [])] [], .ret (.tup [(.v 1), (.v 5), (.v 6), (.v 7), (.bf .tuple [(.v 8)])])]⟩
def dM : ce := ⟨2, 4, [.for (.tp [2, 3]) .enm [(.v 0)] [.ifs (.cmp .eq (.ix (.v 3) (.c (.int 0))) (.v 1)) [.ret (.v 2)] []], .ret (.c .non)]⟩
def dL : ce := ⟨3, 15, [.asg (.nm 3) (.lst [(.call 0 [(.v 0), (.c (.int 0))]), (.c (.int 0))]), .asg (.nm 4) (.bin .add (.c (.int 1)) (.call 1 [(.v 3), (.v 1)])), .asg (.nm 5) (.frz (.tr (.ix (.lst [(.c (.int 1)), (.c (.int 1)), (.bin .pow (.c (.int 10)) (.c (.int 6))), (.bin .add (.c (.int 1)) (.call 3 [(.v 3), (.bin .pow (.c (.int 10)) (.c (.int 10)))]))]) (.call 1 [(.v 3), (.c (.int 4))])))), .asg (.nm 6) (.call 5 [(.v 3)]), .asg (.nm 7) (.bin .mul (.v 5) (.call 1 [(.v 3), (.c (.int 3))])), .asg (.nm 8) (.frz (.call 4 [(.lst [(.call 0 [(.v 0), (.c (.int 1))]), (.c (.int 1))]), (.v 4), (.v 5)])), .asg (.nm 9) (.frz (.call 7 [(.lst [(.call 0 [(.v 0), (.c (.int 2))]), (.c (.int 2))]), (.v 4)])), .asg (.nm 10) (.frz (.call 8 [(.lst [(.call 0 [(.v 0), (.c (.int 3))]), (.c (.int 3))]), (.v 4)])), .asg (.nm 11) (.bin .mul (.call 1 [(.v 3), (.frz (.bin .add (.v 2) (.c (.int 1))))]) (.bf .int [(.cmp .gt (.bf .len [(.v 9)]) (.c (.int 0)))])), .asg (.nm 12) (.lst []), .for (.tp [13, 14]) .enm [(.frz (.call 6 [(.v 3), (.v 11)]))] [.ex (.meth .append (.v 12) [(.call 9 [(.lst [(.call 0 [(.v 0), (.frz (.bin .add (.c (.int 4)) (.v 13)))]), (.bin .add (.c (.int 4)) (.v 13))]), (.v 14), (.v 9), (.v 10), (.v 5)])])], .ret (.tup [(.v 6), (.v 7), (.v 8), (.v 9), (.v 10), (.bf .tuple [(.v 12)])])]⟩
def ip : ce := ⟨3, 4, [.asg (.nm 3) (.frz (.comp ["player", "scene", "day"] [some 2, none, none] (.tp [1, 2]) .zp [(.ix (.v 0) (.g 20)), (.v 1)] [(.and (.notN (.v 2)) (.cmp .mem (.v 0) (.ix (.v 1) (.g 0))))] (.v 2))), .ret (.frz (.tr (.bf .tuple [(.ss (.v 3))])))]⟩
def fe : ce := ⟨2, 2, [.ret (.call 10 [(.ix (.v 0) (.g 17)), (.v 1)])]⟩
def cO : ce := ⟨2, 2, [.ret (.ix (.ix (.v 0) (.g 17)) (.call 16 [(.v 0), (.v 1)]))]⟩
def dJ : ce := ⟨2, 2, [.ret (.call 10 [(.ix (.v 0) (.g 18)), (.v 1)])]⟩
def io : ce := ⟨3, 13, [.asg (.nm 3) (.call 15 [(.v 0), (.v 1), (.v 2)]), .ifs (.not (.v 3)) [.ret (.c .non)] [], .asg (.tp [4, 5, 6, 7, 8]) (.call 24 [(.v 0), (.v 2)]), .asg (.tp [9, 10, 11]) (.tup [(.ix (.v 3) (.c (.int 0))), (.ix (.v 3) (.c (.int (-1)))), (.bf .len [(.v 3)])]), .asg (.nm 12) (.bin .sub (.bin .add (.bin .sub (.v 10) (.v 9)) (.c (.int 1))) (.v 11)), .ret (.tup [(.v 9), (.v 10), (.v 11), (.v 12), (.bin .add (.bin .mul (.v 5) (.v 11)) (.bin .mul (.v 6) (.v 12)))])]⟩
def cC : ce := ⟨2, 2, [.ret (.ix (.ix (.v 0) (.g 18)) (.call 19 [(.v 0), (.v 1)]))]⟩
def fQ : ce := ⟨3, 7, [.asg (.tp [3, 4, 5]) (.call 17 [(.v 0), (.v 2)]), .asg (.nm 6) (.lsc ["place", "scene", "day"] [some 2, none, none] (.tp [1, 2]) .zp [(.ix (.v 0) (.g 20)), (.v 1)] [(.and (.notN (.v 2)) (.cmp .eq (.ix (.v 1) (.g 16)) (.v 0)))] (.v 2)), .ret (.tup [(.v 6), (.bin .mul (.v 6) (.v 4))])]⟩
def dO : ce := ⟨1, 1, [.ret (.lsc ["day"] [none] (.nm 0) .seq [(.v 0)] [(.notN (.v 0))] (.v 0))]⟩
def dh : ce := ⟨3, 3, [.ret (.bin .add (.tup [(.c (.str "place")), (.v 2)]) (.call 25 [(.v 0), (.v 1), (.v 2)]))]⟩
def cR : ce := ⟨3, 9, [.asg (.nm 3) (.call 23 [(.v 0), (.v 1), (.v 2)]), .ifs (.isN (.v 3)) [.ret (.tup [(.c (.str "player")), (.v 2), (.c (.int 0)), (.c (.int 0)), (.c (.int 0))])] [], .asg (.tp [4, 5, 6, 7, 8]) (.v 3), .ret (.tup [(.c (.str "player")), (.v 2), (.v 6), (.v 7), (.v 8)])]⟩
def nu : ce := ⟨2, 4, [.asg (.nm 2) (.call 28 [(.v 1)]), .asg (.nm 3) (.lst [(.tup [(.c (.str "crew")), (.v 2), (.bin .mul (.v 2) (.ix (.v 0) (.g 1)))])]), .ex (.ext (.v 3) (.comp ["book", "case", "place"] [some 0, some 1, none] (.nm 2) .seq [(.ix (.v 0) (.g 17))] [] (.call 29 [(.v 0), (.v 1), (.ix (.v 2) (.g 15))]))), .ex (.ext (.v 3) (.comp ["book", "case", "player"] [some 0, some 1, none] (.nm 2) .seq [(.ix (.v 0) (.g 18))] [] (.call 30 [(.v 0), (.v 1), (.ix (.v 2) (.g 15))]))), .ret (.v 3)]⟩
def iI : ce := ⟨3, 6, [.asg (.nm 3) (.lst []), .for (.nm 4) .seq [(.ix (.v 1) (.c (.int 5)))] [.asg (.nm 5) (.call 1 [(.v 0), (.bf .len [(.ix (.v 1) (.c (.int 2)))])]), .ifs (.cmp .eq (.call 1 [(.v 0), (.v 2)]) (.c (.int 0))) [.asg (.nm 5) (.c .non)] [], .ex (.meth .append (.v 3) [(.v 5)])], .ret (.bf .tuple [(.v 3)])]⟩
def mK : ce := ⟨2, 2, [.ret (.gen .sum ["line"] [none] (.nm 0) .seq [(.frz (.call 31 [(.v 0), (.v 1)]))] [] (.ix (.v 0) (.c (.int (-1)))))]⟩
def ee : ce := ⟨1, 1, [.ret (.and (.isi .int (.v 0)) (.not (.isi .bool (.v 0))))]⟩
def eY : ce := ⟨1, 6, [.asg (.nm 1) (.gen .sum ["scene"] [none] (.nm 0) .seq [(.ix (.v 0) (.g 20))] [] (.ix (.v 0) (.g 5))), .asg (.nm 2) (.c (.int 0)), .for (.nm 3) .seq [(.frz (.srv (.ix (.v 0) (.g 2))))] [.ifs (.cmp .le (.v 1) (.c (.int 0))) [.brk] [], .asg (.tp [4, 5]) (.v 3), .aug 1 .sub (.v 4), .aug 2 .add (.c (.int 1))], .ret (.v 2)]⟩
def bw : ce := ⟨1, 1, [.ret (.frz (.comp ["scene"] [none] (.nm 0) .seq [(.v 0)] [] (.ix (.v 0) (.g 16))))]⟩
def bi : ce := ⟨1, 1, [.ret (.frz (.cp2 ["scene", "player"] [none, none] [some 0, none] (.nm 0) .seq [(.v 0)] [] (.nm 1) .seq [(.ix (.v 0) (.g 0))] [] (.v 1)))]⟩
def ck : ce := ⟨3, 3, [.ret (.gen .tuple ["first", "second", "row"] [some 1, some 2, none] (.nm 2) .seq [(.v 0)] [(.and (.cmp .mem (.ix (.v 2) (.c (.int 0))) (.v 0)) (.cmp .nmem (.ix (.v 2) (.c (.int 0))) (.v 1)))] (.ix (.v 2) (.c (.int 0))))]⟩
def fO : ce := ⟨2, 6, [.asg (.nm 2) (.frz (.comp ["scene", "day"] [none, none] (.tp [0, 1]) .zp [(.ix (.v 0) (.g 20)), (.v 1)] [(.isN (.v 1))] (.v 0))), .asg (.nm 3) (.frz (.comp ["scene", "day"] [none, none] (.tp [0, 1]) .zp [(.ix (.v 0) (.g 20)), (.v 1)] [(.notN (.v 1))] (.v 0))), .asg (.nm 4) (.call 51 [(.ix (.v 0) (.g 17)), (.call 49 [(.v 2)]), (.call 49 [(.v 3)])]), .asg (.nm 5) (.call 51 [(.ix (.v 0) (.g 18)), (.call 50 [(.v 2)]), (.call 50 [(.v 3)])]), .ret (.tup [(.v 4), (.v 5)])]⟩
def bR : ce := ⟨2, 5, [.asg (.tp [2, 3, 4]) (.call 17 [(.v 0), (.v 1)]), .ret (.v 3)]⟩
def cf : ce := ⟨2, 7, [.asg (.tp [2, 3, 4, 5, 6]) (.call 24 [(.v 0), (.v 1)]), .ret (.v 3)]⟩
def jT : ce := ⟨2, 7, [.asg (.tp [2, 3]) (.call 52 [(.v 0), (.v 1)]), .asg (.nm 4) (.bf .max2 [(.c (.int 0)), (.bin .sub (.call 48 [(.v 0)]) (.call 28 [(.v 1)]))]), .asg (.nm 5) (.gen .sum ["book", "place"] [some 0, none] (.nm 1) .seq [(.v 2)] [] (.call 53 [(.v 0), (.v 1)])), .asg (.nm 6) (.gen .sum ["book", "player"] [some 0, none] (.nm 1) .seq [(.v 3)] [] (.call 54 [(.v 0), (.v 1)])), .ret (.frz (.bin .add (.bin .add (.bin .add (.call 42 [(.v 0), (.v 1)]) (.bin .mul (.v 4) (.ix (.v 0) (.g 1)))) (.v 5)) (.v 6)))]⟩
def dU : ce := ⟨2, 2, [.ifs (.isi .tuple (.v 1)) [.ifs (.or (.not (.isi .tuple (.v 0))) (.cmp .ne (.bf .len [(.v 0)]) (.bf .len [(.v 1)]))) [.ret (.c (.bl false))] [], .ret (.frz (.tr (.bf .all [(.comp ["_law_found", "_law_due", "_law_k"] [some 0, some 1, none] (.nm 2) .rng1 [(.bf .len [(.v 1)])] [] (.call 57 [(.ix (.v 0) (.v 2)), (.ix (.v 1) (.v 2))]))])))] [], .ifs (.isN (.v 1)) [.ret (.isN (.v 0))] [], .ifs (.isi .str (.v 1)) [.ret (.and (.isi .str (.v 0)) (.cmp .eq (.v 0) (.v 1)))] [], .ret (.and (.call 45 [(.v 0)]) (.cmp .eq (.v 0) (.v 1)))]⟩
def eL : ce := ⟨2, 10, [.asg (.nm 2) (.call 1 [(.v 0), (.c (.int 3))]), .ifs (.cmp .eq (.v 2) (.c (.int 0))) [.ret (.frz (.call 33 [(.v 0), (.v 1), (.frz (.tr (.ix (.lst [(.c (.int 9)), (.c (.int 3)), (.c (.int 99))]) (.call 1 [(.v 0), (.c (.int 3))]))))]))] [], .asg (.nm 3) (.bf .len [(.ix (.v 1) (.c (.int 2)))]), .asg (.nm 4) (.call 1 [(.v 0), (.v 3)]), .asg (.nm 5) (.call 1 [(.v 0), (.v 3)]), .asg (.nm 6) (.frz (.tr (.ix (.lst [(.c (.int 4)), (.c (.int 99))]) (.call 1 [(.v 0), (.c (.int 2))])))), .asg (.nm 7) (.lst []), .for (.nm 8) .rng1 [(.bf .len [(.ix (.v 1) (.c (.int 5)))])] [.asg (.nm 9) (.frz (.tr (.ix (.lst [(.bin .mod (.bin .add (.v 4) (.v 8)) (.v 3)), (.tr (.ix (.lst [(.v 4), (.v 5)]) (.call 1 [(.v 0), (.c (.int 2))])))]) (.bin .sub (.v 2) (.c (.int 1)))))), .ifs (.cmp .eq (.call 1 [(.v 0), (.v 6)]) (.c (.int 0))) [.asg (.nm 9) (.c .non)] [], .ex (.meth .append (.v 7) [(.v 9)])], .ret (.bf .tuple [(.v 7)])]⟩
def gf : ce := ⟨3, 3, [.ret (.frz (.comp ["_law_day", "_law_scene_here", "_law_at"] [some 2, none, none] (.tp [1, 2]) .zp [(.ix (.v 0) (.c (.int 5))), (.v 1)] [(.cmp .eq (.v 2) (.v 0))] (.v 1)))]⟩
def dN : ce := ⟨3, 5, [.asg (.nm 3) (.lst []), .for (.nm 4) .rng1 [(.bf .len [(.ix (.v 0) (.c (.int 2)))])] [.ifs (.tr (.cmp .ne (.comp ["_law_player", "_law_scene_here"] [some 2, none] (.nm 1) .seq [(.call 70 [(.v 0), (.v 1), (.v 4)])] [(.cmp .mem (.v 0) (.ix (.v 1) (.c (.int 4))))] (.v 1)) (.lst []))) [.ex (.meth .append (.v 3) [(.v 4)])] []], .ret (.v 3)]⟩
def eO : ce := ⟨2, 15, [.asg (.nm 2) (.frz (.comp ["_law_case_here", "_law_day"] [some 1, none] (.nm 1) .rng1 [(.bf .len [(.ix (.v 0) (.c (.int 2)))])] [(.cmp .mem (.v 1) (.v 0))] (.v 1))), .asg (.nm 3) (.bin .mul (.ix (.v 0) (.c (.int 0))) (.bf .len [(.v 2)])), .for (.tp [4, 5, 6]) .seq [(.ix (.v 0) (.c (.int 3)))] [.for (.nm 7) .seq [(.v 2)] [.asg (.nm 8) (.frz (.comp ["_law_name", "_law_scene_here"] [some 4, none] (.nm 1) .seq [(.call 70 [(.v 0), (.v 1), (.v 7)])] [(.cmp .eq (.ix (.v 1) (.c (.int 1))) (.v 0))] (.v 1))), .asg (.nm 3) (.frz (.bin .add (.v 3) (.bin .mul (.v 5) (.tr (.bf .int [(.tr (.cmp .ne (.v 8) (.lst [])))])))))]], .for (.tp [4, 9, 10, 11, 12]) .seq [(.ix (.v 0) (.c (.int 4)))] [.asg (.nm 13) (.call 85 [(.v 0), (.v 1), (.v 4)]), .ifs (.tr (.cmp .ne (.v 13) (.lst []))) [.asg (.nm 14) (.bin .sub (.bin .add (.bin .sub (.ix (.v 13) (.c (.int (-1)))) (.ix (.v 13) (.c (.int 0)))) (.c (.int 1))) (.bf .len [(.v 13)])), .asg (.nm 3) (.frz (.bin .add (.bin .add (.v 3) (.bin .mul (.v 9) (.bf .len [(.v 13)]))) (.bin .mul (.v 10) (.v 14))))] []], .ret (.v 3)]⟩
def dE : ce := ⟨2, 17, [.asg (.nm 2) (.frz (.tr (.bf .sum [(.comp ["_law_scene_here"] [none] (.nm 0) .seq [(.ix (.v 0) (.c (.int 5)))] [] (.ix (.v 0) (.c (.int 2))))]))), .asg (.nm 3) (.c (.int 0)), .for (.nm 4) .seq [(.frz (.tr (.srv (.comp ["_law_day"] [none] (.nm 0) .seq [(.ix (.v 0) (.c (.int 2)))] [] (.ix (.v 0) (.c (.int 0)))))))] [.ifs (.cmp .gt (.v 2) (.c (.int 0))) [.asg (.nm 3) (.frz (.bin .add (.v 3) (.c (.int 1)))), .asg (.nm 2) (.bin .sub (.v 2) (.v 4))] []], .asg (.nm 5) (.frz (.tr (.bf .len [(.comp ["_law_case_here", "_law_day"] [some 1, none] (.nm 1) .rng1 [(.bf .len [(.ix (.v 0) (.c (.int 2)))])] [(.cmp .mem (.v 1) (.v 0))] (.v 1))]))), .asg (.nm 6) (.bin .add (.call 134 [(.v 0), (.v 1)]) (.bin .mul (.ix (.v 0) (.c (.int 0))) (.bf .max2 [(.c (.int 0)), (.bin .sub (.v 3) (.v 5))]))), .asg (.nm 7) (.frz (.comp ["_law_scene_here", "_law_day"] [none, none] (.tp [0, 1]) .zp [(.ix (.v 0) (.c (.int 5))), (.v 1)] [(.isN (.v 1))] (.v 0))), .asg (.nm 8) (.frz (.comp ["_law_scene_here", "_law_day"] [none, none] (.tp [0, 1]) .zp [(.ix (.v 0) (.c (.int 5))), (.v 1)] [(.notN (.v 1))] (.v 0))), .for (.tp [9, 10, 11]) .seq [(.ix (.v 0) (.c (.int 3)))] [.ifs (.and (.tr (.cmp .mem (.v 9) (.comp ["_law_scene_here"] [none] (.nm 0) .seq [(.v 7)] [] (.ix (.v 0) (.c (.int 1)))))) (.tr (.cmp .nmem (.v 9) (.comp ["_law_scene_here"] [none] (.nm 0) .seq [(.v 8)] [] (.ix (.v 0) (.c (.int 1))))))) [.asg (.nm 6) (.frz (.bin .add (.v 6) (.v 10)))] []], .for (.tp [9, 12, 13, 14, 15]) .seq [(.ix (.v 0) (.c (.int 4)))] [.asg (.nm 16) (.frz (.comp ["_law_name", "_law_scene_here"] [some 9, none] (.nm 1) .seq [(.v 7)] [(.cmp .mem (.v 0) (.ix (.v 1) (.c (.int 4))))] (.ix (.v 1) (.c (.int 4))))), .ifs (.and (.tr (.cmp .ne (.v 16) (.lst []))) (.tr (.cmp .eq (.comp ["_law_name", "_law_scene_here"] [some 9, none] (.nm 1) .seq [(.v 8)] [(.cmp .mem (.v 0) (.ix (.v 1) (.c (.int 4))))] (.v 1)) (.lst [])))) [.asg (.nm 6) (.frz (.bin .add (.v 6) (.v 12)))] []], .ret (.v 6)]⟩
end Hd
end
section
namespace Hd
open PySem L2 I PySem.Spec PyProof.Rows
def oH : ce := ⟨1, 5, [.asg (.nm 1) (.call 11 [(.v 0), (.c (.int 8)), (.c (.int 8))]), .asg (.nm 2) (.lst [(.call 0 [(.v 0), (.c (.int 12))]), (.c (.int 0))]), .asg (.nm 3) (.frz (.lst [(.call 62 [(.v 2), (.v 1)]), (.call 33 [(.v 2), (.v 1), (.c (.int 2))]), (.call 33 [(.v 2), (.v 1), (.c (.int 1))]), (.call 33 [(.v 2), (.v 1), (.c (.int 3))])])), .for (.nm 4) .seq [(.frz (.bin .add (.v 3) (.sl (.v 3) none (some (.c (.int 1))))))] [.ifs (.not (.call 57 [(.call 55 [(.v 1), (.v 4)]), (.call 152 [(.v 1), (.v 4)])])) [.ret (.c (.bl false))] []], .ret (.c (.bl true))]⟩
def AW : List (Nat × Str × Int) := [(0, "CAST", 4), (1, "CREW", 0), (2, "DAYS", 2), (5, "LENGTH", 2), (15, "NAME", 0), (16, "PLACE", 1), (17, "PLACES", 3), (18, "PLAYERS", 4), (20, "SCENES", 5)]
def tbl : List Rw := [
c8 10 "number_at" dM (au 10) ["rows", "name", "at", "row"],
c8 16 "place_at" fe (au 11) ["book", "name"],
c8 19 "player_at" dJ (au 12) ["book", "name"],
c8 17 "place_named" cO (au 13) ["book", "name"],
c8 24 "player_named" cC (au 14) ["book", "name"],
c8 15 "called" ip (au 16) ["book", "case", "player", "days"],
c8 23 "pay_of" io (au 18) ["book", "case", "player", "days", "name", "pay", "hold", "run", "away", "first", "last", "worked", "waited"],
c8 25 "rent_of" fQ (au 19) ["book", "case", "place", "name", "rent", "shut", "days"],
c8 28 "days_shot" dO (au 20) ["case"],
c8 29 "place_line" dh (au 21) ["book", "case", "place"],
c8 30 "player_line" cR (au 22) ["book", "case", "player", "paid", "first", "last", "worked", "waited", "total"],
c8 31 "bill" nu (au 23) ["book", "case", "days", "lines"],
c8 42 "cost" mK (au 24) ["book", "case"] true,
c8 48 "days_due" eY (au 26) ["book", "needed", "many", "day", "hours", "light"] true,
c8 49 "places_of_scenes" bw (au 27) ["scenes"],
c8 50 "players_of_scenes" bi (au 28) ["scenes"],
c8 51 "only_in_first" ck (au 29) ["rows", "first", "second"] true,
c8 52 "missing" fO (au 30) ["book", "case", "waiting", "done", "places", "players"],
c8 53 "rent_for_a_day" bR (au 31) ["book", "place", "name", "rent", "shut"],
c8 54 "pay_for_a_day" cf (au 32) ["book", "player", "name", "pay", "hold", "run", "away"],
c8 55 "bound" jT (au 33) ["book", "case", "places", "players", "days", "rents", "pays"] true,
c8 0 "_law_cell_at" ca (au 35) ["_law_script", "_law_k"],
c8 1 "_law_take" dI (au 36) ["_law_row", "_law_base", "_law_rest", "_law_number"],
c8 3 "_law_far" gH (au 37) ["_law_row", "_law_most", "_law_total", "_law_k"],
c8 5 "_law_money" ez (au 38) ["_law_row", "_law_way"],
c8 6 "_law_names" dY (au 39) ["_law_row", "_law_many", "_law_letters", "_law_size", "_law_base", "_law_at", "_law_first", "_law_step"],
c8 4 "_law_days" fF (au 40) ["_law_row", "_law_many", "_law_unit", "_law_found", "_law_k", "_law_hours", "_law_lights"],
c8 2 "_law_some_days" bW (au 41) ["_law_row", "_law_many", "_law_share"],
c8 7 "_law_places" dg (au 42) ["_law_row", "_law_many", "_law_count"],
c8 8 "_law_players" cJ (au 43) ["_law_row", "_law_many", "_law_count", "_law_found", "_law_name", "_law_pay", "_law_hold", "_law_run"],
c8 9 "_law_scene" dZ (au 44) ["_law_row", "_law_name", "_law_places_here", "_law_players_here", "_law_unit", "_law_place", "_law_length", "_law_word", "_law_cast"],
c8 11 "_law_book" dL (au 45) ["_law_script", "_law_most_days", "_law_most_scenes", "_law_head", "_law_many", "_law_unit", "_law_crew", "_law_move", "_law_days_here", "_law_places_here", "_law_players_here", "_law_count", "_law_scenes", "_law_k", "_law_name"],
c8 33 "_law_case" iI (au 46) ["_law_row", "_law_book_here", "_law_share", "_law_found", "_law_scene_here", "_law_day"],
c8 70 "_law_there" gf (au 47) ["_law_book_here", "_law_case_here", "_law_day"],
c8 85 "_law_calls" dN (au 48) ["_law_book_here", "_law_case_here", "_law_player", "_law_found", "_law_day"],
c8 134 "_law_cost" eO (au 49) ["_law_book_here", "_law_case_here", "_law_used", "_law_total", "_law_name", "_law_rent", "_law_shut", "_law_day", "_law_there_here", "_law_pay", "_law_hold", "_law_run", "_law_away", "_law_own_days", "_law_waited"],
c8 152 "_law_bound" dE (au 50) ["_law_book_here", "_law_case_here", "_law_left", "_law_due", "_law_hours", "_law_used", "_law_total", "_law_some", "_law_there_here", "_law_name", "_law_rent", "_law_shut", "_law_pay", "_law_hold", "_law_run", "_law_away", "_law_casts"],
c8 45 "_law_whole" ee (au 51) ["_law_found"],
c8 57 "_law_alike" dU (au 52) ["_law_found", "_law_due"],
c8 62 "_law_laying" eL (au 53) ["_law_row", "_law_book_here", "_law_way", "_law_many", "_law_first", "_law_other", "_law_share", "_law_found", "_law_k", "_law_day"]]
def JN : List Str := []
def Jq : List (Str × Str × Bool) := []
def sg : Sg := Cp (nF AW) tbl JN Jq
def Ds : Nat → Option ce := eU tbl
def vI : Rw := ⟨0, "law", ["_law_script"], oH, au 54, ["_law_script", "_law_book_here", "_law_row", "_law_some", "_law_case_here"], false, none⟩
theorem BG : tbl.all (AI sg) = true := by decide +kernel
theorem i3 : AI sg vI = true := by decide +kernel
end Hd
end
section
namespace I
open PySem L2
def Wl {α : Type} (r : ak α) (Q : α → ae → Prop) : Prop := ∃ v st, r = .ok v st ∧ Q v st
def kFor (F : FT) (G : List T) (t : Tg) (k : Ik) (body : List S) (ρ : aG) (ws : List W) (st : ae) : ak (Fl × aG) := match items k ws st with
 | some (xs, gs) => aM gs (dv F G t body) xs ρ st
 | none => .bad
def CQ (ys : List T) (st : ae) : ak W := fresh (.lst ys) st
def Jh (F : FT) (G : List T) (ix : List (Option Nat)) (t : Tg) (k : Ik) (ifs : List E) (el : E) (ρ : aG) (ws : List W) (st : ae) : ak W := match items k ws st with
 | some (xs, gs) => if xs.length ≤ aZ then (aa gs (aW F G ix t ifs el ρ) xs [] st).bind CQ else .bad
 | none => .bad
section
variable {F : FT} {G : List T} {st : ae} {ρ : aG} {t : Tg} {k : Ik} {src ifs : List E} {body : List S} {gs : List (Nat × List T)} {xs acc : List T}
theorem zn : dB F G (.for t k src body) ρ st = (a8 F G src ρ st).bind (kFor F G t k body ρ) := rfl
theorem IQ : aj F G (.comp N ix t k src ifs el) ρ st = (a8 F G src ρ st).bind (Jh F G ix t k ifs el ρ) := rfl
theorem Ad {α : Type} {a b : α} (h : xs.length ≤ 1000) : (if xs.length ≤ aZ then a else b) = a := if_pos (wI h)
theorem Iw (h0 : 0 ≤ n) (h : n ≤ 1000) : items .rng1 [.d (.int n)] st = some (rng 0 n.toNat, []) := Cy h0 h
theorem HF : vM .append xs [x] = if xs.length < aZ then some (xs ++ [x], .non) else none := rfl
theorem Iq : vM .reverse xs [] = some (xs.reverse, .non) := rfl
theorem GU : vM .insert xs [.int i, x] = if 0 ≤ i ∧ i ≤ xs.length ∧ xs.length < aZ then some (xs.take i.toNat ++ x :: xs.drop i.toNat, .non) else none := rfl
theorem Hy : aS (.nm i) w ρ = if i < ρ.length then some (ρ.set i (some w)) else none := rfl
theorem HH : aS (.tp is) (.d (.tup xs)) ρ = if is.length = xs.length ∧ is.all (· < ρ.length) then some ((is.zip xs).foldl (fun ρ p => ρ.set p.1 (some (.d p.2))) ρ) else none := rfl
theorem DL : items .seq [.d (.lst xs)] st = some (xs, []) := rfl
theorem GZ : items .seq [.d (.tup xs)] st = some (xs, []) := rfl
theorem GO : items .enm [.d (.lst xs)] st = some (xs.zipIdx.map fun q => .tup [.int q.2, q.1], []) := rfl
theorem IE : bo [] ρ = [] := rfl
theorem Ii : bo (none :: ix) ρ = none :: bo ix ρ := rfl
theorem HI {j} : bo (some j :: ix) ρ = ρ[j]?.getD none :: bo ix ρ := rfl
theorem bP {step} {X} (h : aM [] step xs ρ st = X) (P : Nat → aG → ae → Prop) (h0 : P 0 ρ st) (hp : ∀ i x ρ σ, xs[i]? = some x → P i ρ σ → Wl (step x ρ σ) fun o σ' => o.1 = .nx ∧ P (i + 1) o.2 σ') :
 ∃ ρ' σ', P xs.length ρ' σ' ∧ X = .ok (.nx, ρ') σ' := by
 obtain ⟨ρ', σ', e, p⟩ := on (gs := []) P h0 (fun _ _ _ _ _ => rfl) fun i x ρ σ hx p => by
  obtain ⟨⟨f, ρ'⟩, σ', e, h1, h2⟩ := hp i x ρ σ hx p
  cases h1
  exact ⟨ρ', σ', e, h2⟩
 exact ⟨ρ', σ', p, h.symm.trans e⟩
theorem cq {step} : ∀ {xs acc} {st} {X}, aa [] step xs acc st = X → ∀ P : Nat → List T → ae → Prop, P 0 acc st → (∀ i x a σ, xs[i]? = some x → P i a σ → Wl (step x σ) fun o σ' => P (i + 1) (a ++ o.toList) σ') →
 ∃ ys σ', P xs.length ys σ' ∧ X = .ok ys σ'
 | [], acc, st, _, h, P, h0, _ => ⟨acc, st, h0, h.symm⟩
 | x :: xs, acc, st, _, h, P, h0, hp => by
  obtain ⟨o, σ, e, h1⟩ := hp 0 x _ st rfl h0
  simp only [aa] at h
  rw [e] at h
  refine cq h (fun i => P (i + 1)) ?_ fun i y a σ hy => hp _ y a σ (by simpa using hy)
  cases o with
  | none => simpa using h1
  | some t => exact h1
theorem ba (hb : aS t (.d x) ρ = some ρ') (h : Wl (bI F G body ρ' st) Q) : Wl (dv F G t body x ρ st) Q := by rw [gM hb]; exact h
theorem ah {x} {ρ'} {Q} (hb : aS t (.d x) (bo ix ρ) = some ρ') (h : Wl ((bA F G ifs ρ' st).bind (HM F G el ρ' st.length)) Q) : Wl (aW F G ix t ifs el ρ x st) Q := by rw [r8 hb]; exact h
theorem bL {ws} {Q} (hw : ws.length = D.ar) (h : Wl ((bI F G D.body (ws.map some ++ List.replicate (D.sl - D.ar) none) st).bind (uD st.length)) Q) : Wl (aC F G D ws st) Q := by rw [aL hw]; exact h
end
theorem GW : fG .non = true := rfl
theorem HZ : fG (.bl b) = true := rfl
theorem Hw : fG (.int i) = true := rfl
theorem GK : fG (.str z) = true := rfl
theorem HB : fG (.tup xs) = true := rfl
theorem II : fG (.lst xs) = true := rfl
abbrev FW : Type := List W → ae → ak W
theorem up {D} {P : FW → Prop} (h : Ds f = some D) (hp : P (aC (run G Ds n) G D)) : P (run G Ds (n + 1) f) := by
 have e : run G Ds (n + 1) f = aC (run G Ds n) G D := by
  funext ws st
  show (match Ds f with | some D => aC _ G D ws st | none => .bad) = _
  rw [h]
 rw [e]
 exact hp
end I
end
section
namespace Hd
open PySem L2 I
theorem xh : aI 48271 = true := aQ (by decide) (by decide)
theorem CA : aI 7919 = true := aQ (by decide) (by decide)
theorem yb : aI 69621 = true := aQ (by decide) (by decide)
theorem Hu : aI (10 ^ 9) = true := aQ (by decide) (by decide)
theorem va : (2 : Int) < 2 ^ 1000 := by decide +kernel
theorem sf : (5 : Int) < 2 ^ 1000 := by decide +kernel
theorem uG {b : Int} (h : b ≤ 10 ^ 60) : b < 2 ^ 1000 := Int.lt_of_le_of_lt h (by decide +kernel)
section
variable {α : Type} {a b c d : Int} {i : Int} {x y z : Option (List T)} {st l : ae} {k n : Nat}
theorem JK (h0 : 0 ≤ i) (h : i < 2) : dj [T.int a, .int b] i = some (.int (if i = 0 then a else b)) := by
 have : i = 0 ∨ i = 1 := by omega
 rcases this with e | e <;> subst e <;> rfl
theorem Jt (h0 : 0 ≤ i) (h : i < 3) : dj [T.int a, .int b, .int c] i = some (.int (if i = 0 then a else if i = 1 then b else c)) := by
 have : i = 0 ∨ i = 1 ∨ i = 2 := by omega
 rcases this with e | e | e <;> subst e <;> rfl
theorem Jz (h0 : 0 ≤ i) (h : i < 4) : dj [T.int a, .int b, .int c, .int d] i = some (.int (if i = 0 then a else if i = 1 then b else if i = 2 then c else d)) := by
 have : i = 0 ∨ i = 1 ∨ i = 2 ∨ i = 3 := by omega
 rcases this with e | e | e | e <;> subst e <;> rfl
theorem JU {a b c d} (h0 : 0 ≤ i) (h : i < 4) : dj [T.str a, .str b, .str c, .str d] i = some (.str (if i = 0 then a else if i = 1 then b else if i = 2 then c else d)) := by
 have : i = 0 ∨ i = 1 ∨ i = 2 ∨ i = 3 := by omega
 rcases this with e | e | e | e <;> subst e <;> rfl
theorem JL : 3 ≤ aZ := by decide
theorem Js : 0 ≤ aZ := by decide
theorem JD : 1 ≤ aZ := by decide
theorem JT : 2 ≤ aZ := by decide
theorem Jx : 4 ≤ aZ := by decide
theorem JM : 5 ≤ aZ := by decide
theorem JZ : 6 ≤ aZ := by decide
theorem bK : (st ++ x :: l)[st.length]? = some x := by simp
theorem iD : (st ++ x :: l).set st.length y = st ++ y :: l := by simp
theorem cH : (st ++ l)[st.length + n]? = l[n]? := by grind
theorem yo : (st ++ l).set (st.length + n) y = st ++ l.set n y := by simp
theorem lJ : (st ++ l).take (st.length + n) = st ++ l.take n := by
 rw [List.take_append, List.take_of_length_le (by omega)]; congr 2; omega
theorem BF : (st.set k y ++ x :: l)[st.length]? = some x := by simp
theorem zJ : (st.set k y ++ x :: l).set st.length z = st.set k y ++ z :: l := by simp
theorem wo : (st.set k y ++ l)[st.length + n]? = l[n]? := by
 have := cH (st := st.set k y) (l := l) (n := n); simp_all
theorem wQ : (st.set k y ++ l).set (st.length + n) z = st.set k y ++ l.set n z := by simp
theorem tN : (st.set k y ++ l).take (st.length + n) = st.set k y ++ l.take n := by
 have := lJ (st := st.set k y) (l := l) (n := n); simp_all
theorem bV (h : st[k]? = some y) : st.set k y = st := by
 refine List.ext_getElem? fun i => ?_
 by_cases hi : k = i
 · subst hi; rw [List.getElem?_set_self (List.getElem?_eq_some_iff.mp h).1, h]
 simp_all
theorem dw (h : st[k]? = some y) : k < st.length := (List.getElem?_eq_some_iff.mp h).1
theorem E4 {n m : Nat} : (n + m < n) = False := by simp
theorem nJ (hk : k < st.length) : (st.set k y ++ l)[k]? = some y := by rw [List.getElem?_append_left (by simp_all)]; simp_all
theorem m7 (hk : k < st.length) : (st.set k y ++ l).set k z = st.set k z ++ l := by simp_all
end
def aB (s : R) : Option (List T) := some [.int s.r, .int s.c]
def de (f : FW) (args : List W) (s : R) (Q : T → R → Prop) : Prop := ∀ (k : Nat) (st : ae), st[k]? = some (aB s) → Wl (f (.ref k :: args) st) fun w σ => ∃ v s', w = .d v ∧ σ = st.set k (aB s') ∧ Q v s'
section
variable {f : FW} {args : List W} {s : R} {Q : T → R → Prop}
theorem de.b (h : de f args s Q) {k} {st : ae} (hk : k < st.length) (l : ae) : ∃ v s', Q v s' ∧ f (.ref k :: args) (st.set k (aB s) ++ l) = .ok (.d v) (st.set k (aB s') ++ l) := by
 obtain ⟨_, _, e, v, s', rfl, rfl, q⟩ := h k _ (nJ hk)
 rw [m7 hk] at e
 exact ⟨v, s', q, e⟩
theorem de.a (h : de f args s Q) {k} {st : ae} (hk : k < st.length) : ∃ v s', Q v s' ∧ f (.ref k :: args) (st.set k (aB s)) = .ok (.d v) (st.set k (aB s')) := by simpa using h.b hk []
theorem de.c (h : de f args s Q) (st l : ae) : ∃ v s', Q v s' ∧ f (.ref st.length :: args) (st ++ aB s :: l) = .ok (.d v) (st ++ aB s' :: l) := by
 obtain ⟨_, _, e, v, s', rfl, rfl, q⟩ := h _ _ bK
 rw [iD] at e
 exact ⟨v, s', q, e⟩
theorem de.d (h : de f args s Q) (st : ae) (x : Option _) : ∃ v s', Q v s' ∧ f (.ref (st.length + 1) :: args) (st ++ [x, aB s]) = .ok (.d v) (st ++ [x, aB s']) := by
 simpa using h.c (st ++ [x]) []
theorem de.e (h : de f args s Q) (st : ae) (x y : Option _) : ∃ v s', Q v s' ∧ f (.ref (st.length + 1 + 1) :: args) (st ++ [x, y, aB s]) = .ok (.d v) (st ++ [x, y, aB s']) := by
 simpa using h.c (st ++ [x, y]) []
end
def Fu (n : Nat) (s : R) : Prop := 0 ≤ s.c ∧ s.c + n ≤ 10 ^ 6
theorem Fu.le {s} (h : Fu n s) (hm : m ≤ n) : Fu m s := ⟨h.1, by have := h.2; omega⟩
theorem Fu.it (h : Fu (k * (N - i) + m) s) (hi : i < N) : Fu (k * (N - (i + 1)) + m + k) s := by
 rw [show N - i = N - (i + 1) + 1 by omega, Nat.mul_succ] at h
 exact h.le (by omega)
theorem Fu.nd (h : Fu (k * (N - N) + m) s) : Fu m s := h.le (by omega)
def cm (f : FW) : Prop := ∀ (s : R) (b : Int) (n : Nat), Fu (n + 1) s → 0 < b → b ≤ 10 ^ 60 → ∃ v s', 0 ≤ v ∧ v < b ∧ Fu n s' ∧ ∀ k st, st[k]? = some (aB s) → f [.ref k, .d (.int b)] st = .ok (.d (.int v)) (st.set k (aB s'))
section
variable {f : FW} (hT : cm f) (s : R) (m : Int)
include hT
theorem cm.b {k : Nat} {st : ae} (hk : k < st.length) {n : Nat} (hn : Fu (n + 1) s) (h0 : 0 < m := by first | decide | omega) (h1 : m ≤ 10 ^ 60 := by first | decide | omega) :
 ∃ v s', 0 ≤ v ∧ v < m ∧ Fu n s' ∧ (∀ l, f [.ref k, .d (.int m)] (st.set k (aB s) ++ l) = .ok (.d (.int v)) (st.set k (aB s') ++ l)) ∧ f [.ref k, .d (.int m)] (st.set k (aB s)) = .ok (.d (.int v)) (st.set k (aB s')) := by
 obtain ⟨v, s', a1, a2, a3, e⟩ := hT s m n hn h0 h1
 exact ⟨v, s', a1, a2, a3, fun l => by rw [e _ _ (nJ hk), m7 hk], by rw [e _ _ (List.getElem?_set_self hk), List.set_set]⟩
theorem cm.c (st : ae) {n : Nat} (hn : Fu (n + 1) s) (h0 : 0 < m := by first | decide | omega) (h1 : m ≤ 10 ^ 60 := by first | decide | omega) :
 ∃ v s', 0 ≤ v ∧ v < m ∧ Fu n s' ∧ ∀ l, f [.ref st.length, .d (.int m)] (st ++ aB s :: l) = .ok (.d (.int v)) (st ++ aB s' :: l) := by
 obtain ⟨v, s', a1, a2, a3, e⟩ := hT s m n hn h0 h1
 exact ⟨v, s', a1, a2, a3, fun l => by rw [e _ _ bK, iD]⟩
end
local macro_rules | `(tactic| walk_at "dq") => `(tactic| first | assumption | omega | (simp only [cr, List.length_map, List.length_zipIdx, List.length_set, List.length_append, List.length_cons, List.length_nil]; omega) | exact aQ (by omega) (by omega) | exact uG (by omega))
def CI : String := "Jr JY JC AT An E5 EE fA tR zB yG Ek Dj FL IX Il wa Eo Fo FK Fx Ge zm yR CM DZ Dp y8 Ar Dy Fi DF Ex Da DA HN Dr DR Fj Hz yA zW Jg GV FR CU Ga EQ Ca Gb GW HZ Hw GK HB II CT Dl Ig Fp Hf CN F7 FY IW HP C3 Fy Ie EL FZ FH Fc HK Fs Jc GX F2 kO JQ IF Ez EA EY Gh Dg FS z6 Dk EB Ja Hb FJ Dq F6 Dh B1 Ag CF BQ xJ xI GP C6 Jo Jp HM List.length_cons List.length_nil List.length_append List.map_cons List.map_nil List.getElem?_cons_zero List.getElem?_cons_succ List.cons_append List.nil_append List.append_assoc List.replicate_succ List.replicate_zero List.append_nil List.set_cons_zero List.set_cons_succ List.length_set List.set_set zn kFor IQ Jh CQ Ad Iw DL GZ GO Int.toNat_natCast IE Ii HI Option.getD_some List.zip_cons_cons List.zip_nil_left List.foldl_cons List.foldl_nil take_set jv k0 bK iD cH yo lJ BF zJ wo wQ tN Hq He E4 Nat.lt_irrefl List.take_succ_cons List.take_zero Nat.reduceAdd Nat.reduceSub Nat.reduceLT Nat.zero_add Nat.add_zero if_true if_false ite_true ite_false reduceIte Fw E3 Gg si Ib Ij Ha G7 HQ Hx JK Jt Jz JU Iu Ia w_add w_sub BJ BL AZ w_mod Io Iz Dt Eh DD sM AB w_lt IA Im Ix w_eq FN IK E9 Aq Bt F5 AX A4 AV B7 Br Be D1 DI I.qm I.qr I.qB I.qv I.rA CS D6 B4 zM AR Option.isNone_some Option.isNone_none Bool.false_eq_true HF Iq GU List.take_length Hy HH decide_true decide_false Bool.not_true Bool.not_false Int.reduceLT Int.reduceLE xh CA yb Hu va sf Js JD JT JL Jx JM JZ"
local macro_rules | `(tactic| walk_at "wq") => do { let ls ← ((I.ws (Hd.CI ++ " nV yP")).mapM fun n => `(Lean.Parser.Tactic.simpLemma| $(Lean.mkIdent n):term)); `(tactic| simp (disch := walk_at "dq") only [$[$ls:simpLemma],*, *]) }
theorem Ac : cm (aC F G0 dI) := by
 intro s b n ⟨hc0, hc1⟩ hb0 hb1
 have hb2 := uG hb1
 have fu : ∀ x, Fu n ⟨x, _⟩ := fun x => ⟨by show 0 ≤ s.c + 1; omega, by show s.c + 1 + n ≤ _; omega⟩
 by_cases hc : 10 ^ 18 < s.r
 · refine ⟨(s.r - 10 ^ 18) % b, ⟨10 ^ 18 + (s.r - 10 ^ 18) / b, _⟩, Int.emod_nonneg _ (by omega), Int.emod_lt_of_pos _ hb0, fu _, fun k st h => ?_⟩
   have h2 : ∀ x, (st.set k x)[k]? = some x := fun x => List.getElem?_set_self (dw h)
   unfold aB at h ⊢
   rw [aL rfl]
   unfold dI
   walk_at "wq"
 · refine ⟨_, ⟨s.r, _⟩, Int.emod_nonneg (Jb s.r (s.c + 1) / 5) (by omega), Int.emod_lt_of_pos _ hb0, fu _, fun k st h => ?_⟩
   have h2 : ∀ x, (st.set k x)[k]? = some x := fun x => List.getElem?_set_self (dw h)
   unfold aB at h ⊢
   rw [aL rfl]
   unfold dI
   walk_at "wq"
   rfl
def vm (f : FW) : Prop := ∀ (s : R) (m : Int) (n : Nat), 0 < m → Fu (n + 7) s → de f [.d (.int m)] s fun v s' => ∃ i, v = .int i ∧ 0 ≤ i ∧ i < m ∧ Fu n s'
theorem C2 (hT : cm (F 1)) : vm (aC F G0 gH) := by
 intro s m n hm hf k st h
 have hk := dw h
 rw [← bV h]
 refine bL rfl ?_
 unfold gH
 walk_at "wq"
 generalize hX : aM _ _ _ _ _ = X
 obtain ⟨_, _, ⟨t, r, x3, rfl, rfl, hr⟩, rfl⟩ := bP hX (fun i ρ σ => ∃ t r x3, ρ = [some _, some _, some (.d (.int t)), x3] ∧ σ = st.set k (aB r) ∧ Fu (1 * (7 - i) + n) r) ⟨0, s, _, rfl, rfl, hf.le (by omega)⟩ (by
  rintro i x ρ σ hx ⟨t, r, x3, rfl, rfl, hr⟩
  have hi := (List.getElem?_eq_some_iff.mp hx).1
  obtain ⟨v, r', _, _, hc, _, e⟩ := hT.b r (10 ^ 9) hk (hr.it hi) (by decide) (by decide)
  refine ba rfl ?_
  walk_at "wq"
  exact ⟨_, _, rfl, rfl, _, _, _, rfl, rfl, hc⟩)
 walk_at "wq"
 exact ⟨_, _, rfl, _, r, rfl, rfl, _, rfl, Int.emod_nonneg _ (by omega), Int.emod_lt_of_pos _ hm, hr.nd⟩
def ii (f : FW) : Prop := ∀ (s : R) (n : Nat), Fu (n + 8) s → de f [] s fun v s' => ∃ i, v = .int i ∧ 0 ≤ i ∧ i < 10 ^ 60 ∧ Fu n s'
theorem wA {F : FT} (hT : cm (F 1)) (hF : vm (F 3)) : ii (aC F G0 ez) := by
 intro s n hf k st h
 have hk := dw h
 rw [← bV h]
 refine bL rfl ?_
 unfold ez
 obtain ⟨w, r, w0, w1, wc, e1, e2⟩ := hT.b s 4 hk hf
 by_cases hc : w = 3
 · obtain ⟨_, r', ⟨i, rfl, i0, i1, hr⟩, e3⟩ := (hF r (10 ^ 60) n (by decide) wc).a hk
   walk_at "wq"
   exact ⟨_, _, rfl, _, r', rfl, rfl, i, rfl, i0, i1, hr⟩
 · obtain ⟨b, b0, b1, hb⟩ : ∃ b : Int, 0 < b ∧ b ≤ 1000 ∧ (if w = 0 then 5 else if w = 1 then 100 else 1000) = b := ⟨_, by split <;> (try split) <;> decide, by split <;> (try split) <;> decide, rfl⟩
   obtain ⟨v, r', v0, v1, vc, e3, e4⟩ := hT.b r b hk wc
   walk_at "wq"
   exact ⟨_, _, rfl, _, r', rfl, rfl, v, rfl, v0, by omega, vc.le (by omega)⟩
def pM (f : FW) : Prop := ∀ (ns : List Int) (i : Int), 0 ≤ i → ∃ c : Int, ∀ st, f [.d (.lst (ns.map T.int)), .d (.int i)] st = .ok (.d (.int c)) st
theorem A8 : pM (aC F G0 ca) := by
 intro ns i h0
 have l1 : (ns.map T.int).length = ns.length := List.length_map _
 by_cases hc : i < ns.length
 · have e : dj (ns.map T.int) i = some (.int ns[i.toNat]) := cj h0 (by simp)
   exact ⟨ns[i.toNat], fun st => by rw [aL rfl]; unfold ca; walk_at "wq"⟩
 · exact ⟨0, fun st => by rw [aL rfl]; unfold ca; walk_at "wq"⟩
theorem gw (h : (rng 0 n)[i]? = some x) : i < n ∧ x = .int i := by
 obtain ⟨hi, rfl⟩ := oB h
 simp_all
def ot (f : FW) : Prop := ∀ (s : R) (many : Nat), many ≤ 100 → ∀ n, Fu (n + 101) s → de f [.d (.int many)] s fun v s' => ∃ ds : List Int, v = .tup (ds.map T.int) ∧ ds.length ≤ many ∧ Fu n s'
theorem Av (hT : cm (F 1)) : ot (aC F G0 bW) := by
 intro s many hm n hf k st h
 have hk := dw h
 rw [← bV h]
 refine bL rfl ?_
 unfold bW
 obtain ⟨w, r, w0, w1, wc, e1, e2⟩ := hT.b s 8 hk hf
 walk_at "wq"
 generalize hX : aa _ _ _ _ _ = X
 obtain ⟨_, _, ⟨ds, r', rfl, rfl, hl, c1⟩, rfl⟩ := cq hX (fun i a σ => ∃ (ds : List _) (r' : R), a = ds.map T.int ∧ σ = st.set k (aB r') ∧ ds.length ≤ i ∧ Fu (1 * (many - i) + n) r') ⟨[], r, rfl, rfl, Nat.le_refl _, wc.le (by omega)⟩ (by
  rintro i x a σ hx ⟨ds, r', rfl, rfl, hl, c1⟩
  obtain ⟨hi, rfl⟩ := gw hx
  obtain ⟨v, q, _, _, hc, _, e⟩ := hT.b r' (3 + w) hk (c1.it hi)
  refine ah rfl ?_
  by_cases hv : v = 0
  · walk_at "wq"
    exact ⟨_, _, rfl, ds ++ [(i : Int)], q, by simp, rfl, by simp; omega, hc⟩
  · walk_at "wq"
    exact ⟨_, _, rfl, ds, q, by simp, rfl, by omega, hc⟩)
 rw [cr] at hl c1
 walk_at "wq"
 exact ⟨_, _, rfl, _, r', rfl, rfl, ds, rfl, hl, c1.nd⟩
def jb (d : Int × Int) : Prop := 0 ≤ d.1 ∧ d.1 ≤ 10 ^ 12 ∧ 0 ≤ d.2 ∧ d.2 ≤ d.1
def yF (f : FW) : Prop := ∀ (s : R) (many : Nat) (unit : Int), many ≤ 100 → 0 < unit → unit ≤ 10 ^ 10 → Fu (7 * many + 0) s → de f [.d (.int many), .d (.int unit)] s fun v s' => ∃ ds : List (Int × Int), v = .tup (ds.map iW) ∧ ds.length = many ∧ ∀ d ∈ ds, jb d
theorem BP {F : FT} (hT : cm (F 1)) : yF (aC F G0 fF) := by
 intro s many unit hm hu0 hu1 hf k st h
 have hk := dw h
 rw [← bV h]
 refine bL rfl ?_
 unfold fF
 walk_at "wq"
 generalize hX : aM _ _ _ _ _ = X
 obtain ⟨_, _, ⟨ds, r, x4, x5, x6, rfl, rfl, hl, hd, hr⟩, rfl⟩ := bP hX (fun i ρ σ => ∃ (ds : List _) (r : R) (x4 x5 x6 : Option W), ρ = [some _, some _, some _, some _, x4, x5, x6] ∧ σ = st.set k (aB r) ++ [some (ds.map iW)] ∧ ds.length = i ∧ (∀ d ∈ ds, jb d) ∧ Fu (7 * (many - i) + 0) r) ⟨[], s, _, _, _, rfl, rfl, rfl, by simp, hf⟩ (by
  rintro i x ρ σ hx ⟨ds, r, x4, x5, x6, rfl, rfl, hl, hd, hr⟩
  obtain ⟨hi, rfl⟩ := gw hx
  have hr := hr.it hi
  obtain ⟨a, r1, a0, a1, c1, e1, _⟩ := hT.b r 14 hk hr
  obtain ⟨b, r2, b0, b1, c2, e2, _⟩ := hT.b r1 8 hk c1
  obtain ⟨c, r3, c0, c01, c3, e3, _⟩ := hT.b r2 3 hk c2
  obtain ⟨d, r4, d0, d1, c4, e4, _⟩ := hT.b r3 5 hk c3
  obtain ⟨z, z0, z1, hz⟩ : ∃ z : Int, 0 ≤ z ∧ z < 20 ∧ (if d / 2 = 0 then 4 + a else if d / 2 = 1 then 12 + b else c) = z := ⟨_, by split <;> (try split) <;> omega, by split <;> (try split) <;> omega, rfl⟩
  obtain ⟨w, w0, w1, hw⟩ : ∃ w, 0 ≤ w ∧ w ≤ 20 * 10 ^ 10 ∧ unit * z = w := ⟨_, Int.mul_nonneg (by omega) (by omega), by
   have := Int.mul_le_mul hu1 (Int.le_of_lt z1) z0 (by decide)
   omega, rfl⟩
  obtain ⟨f, r5, f0, f1, c5, e5, _⟩ := hT.b r4 12 hk c4
  have u0 : 0 ≤ unit * f := Int.mul_nonneg (by omega) f0
  obtain ⟨g, r6, g0, g1, c6, e6, _⟩ := hT.b r5 (w + 1) hk c5
  obtain ⟨y, r7, y0, y1, c7, e7, _⟩ := hT.b r6 3 hk c6
  obtain ⟨l, l0, l1, hl2⟩ : ∃ l : Int, 0 ≤ l ∧ l ≤ w ∧ (if y = 0 then w else if y = 1 then if unit * f < w then unit * f else w else g) = l := ⟨_, by split <;> (try split) <;> (try split) <;> omega, by split <;> (try split) <;> (try split) <;> omega, rfl⟩
  have lm : (ds.map iW).length < aZ := by rw [List.length_map, hl]; exact Nat.lt_of_lt_of_le (by omega : i < 1000) (by decide)
  refine ba rfl ?_
  walk_at "wq"
  exact ⟨_, _, rfl, rfl, ds ++ [(w, l)], r7, _, _, _, rfl, by simp [iW], by simp [hl], fun q hq => by
   rcases List.mem_append.mp hq with e | e
   · exact hd q e
   · rw [List.mem_singleton.mp e]; exact ⟨w0, by omega, l0, l1⟩, c7⟩)
 rw [cr] at hl
 walk_at "wq"
 exact ⟨_, _, rfl, _, r, rfl, rfl, ds, rfl, hl, hd⟩
open PySem L2 I PyProof.Rows PySem.Builtin.Str
theorem kW (z : Str) (n : Int) : (eA z n).length ≤ z.length * n.toNat + z.length := by
 unfold eA
 split
 · exact Nat.zero_le _
 · split
   · omega
   · have key : ∀ (k : Nat) (acc : Array _), ((List.replicate k z.cps).foldl (· ++ ·) acc).size = acc.size + z.length * k := by
      intro k
      induction k with
      | zero => simp
      | succ k ih => intro acc; rw [List.replicate_succ, List.foldl_cons, ih, Array.size_append, Nat.mul_succ]; show acc.size + z.length + z.length * k = _; omega
     show Array.size _ ≤ _
     simp_all
theorem strs_map : ∀ (xs : List _), dq (xs.map T.str) = some xs
 | [] => rfl
 | x :: xs => by show (dq _).map _ = _; rw [strs_map xs]; rfl
theorem wD {st} (h : (xs.map (·.length)).sum + xs.length * sep.length ≤ aZ) : Gu .join (.d (.str sep)) [.lst (xs.map T.str)] st = .ok (.d (.str (Txt.join sep xs))) st := by
 show (match match dq _ with | some ys => if (ys.map _).sum + ys.length * sep.length ≤ aZ then some _ else none | none => none with | some u => fresh u st | none => .bad) = _
 rw [strs_map]
 dsimp only
 rw [if_pos h]
 rfl
theorem kU {st} (h0 : 0 ≤ i) (h1 : i < 26) : fN (.d (.str "abcdefghijklmnopqrstuvwxyz")) (.d (.int i)) st = .ok (.d (.str (jQ (bU i)))) st := by
 have hk := by
  have : db.cps.toList.length = 26 := rfl
  omega
 have z : dj db.cps.toList i = some (bU i) := cj h0 (by
  unfold bU
  simp_all)
 show (if db.length ≤ aZ then match dj db.cps.toList i with | some c => ak.ok _ st | none => ak.bad else ak.bad) = _
 rw [z]
 rfl
theorem zk {st} (h : z.length ≤ 1000) : CK (.d (.str z)) l u st = .ok (.d (.str (Txt.slice z l u))) st := by
 show (if z.length ≤ aZ then ak.ok _ st else ak.bad) = _
 rw [if_pos (wI h)]
theorem DS {n} {st} (h : z.length ≤ 1000) (h0 : 0 ≤ n) (h1 : n ≤ 1000) : bh .mul (.d (.str z)) (.d (.int n)) st = .ok (.d (.str (eA z n))) st := by
 show (match if z.length ≤ 1000 ∧ 0 ≤ n ∧ n ≤ 1000 then some _ else none with | some t => fresh t st | none => .bad) = _
 rw [if_pos ⟨h, h0, h1⟩]
 rfl
theorem oZ {st} (h : a.length + b.length ≤ 1000) : bh .add (.d (.str a)) (.d (.str b)) st = .ok (.d (.str (a ++ b))) st := sM (wI h)
theorem qQ (xs : List Nat) (lo m : Nat) (h : lo + m ≤ xs.length) : ((List.range m).map fun i => lo + i).filterMap (fun i => xs[i]?) = (xs.drop lo).take m := by
 induction m with
 | zero => simp
 | succ m ih =>
  rw [List.range_succ, List.map_append, List.filterMap_append, ih (by omega)]
  have hl : m < (xs.drop lo).length := by rw [List.length_drop]; omega
  rw [List.take_succ_eq_append_getElem hl]
  simp only [List.map_cons, List.filterMap_cons]
  rw [List.getElem?_eq_getElem (by omega)]
  simp
theorem uo (x : Str) (l u : Option _) (lo m : Nat) (h : lo + m ≤ x.length) (e : strSliceIndices l u 1 x.length = (List.range m).map fun i => lo + i) : (Txt.slice x l u).cps.toList = (x.cps.toList.drop lo).take m := by
 have hx : x.cps.toList.length = x.length := rfl
 unfold Txt.slice
 rw [e]
 by_cases hm : m = x.length
 · have h0 : lo = 0 := by omega
   subst h0
   rw [if_pos (by simp [hm]), hm, List.drop_zero, ← hx, List.take_length]
 · have := qQ x.cps.toList lo m (by omega)
   simp_all
theorem mS (x : Str) (k : Nat) (h : k ≤ x.length) : (Txt.slice x none (some k)).cps.toList = x.cps.toList.take k := by
 have := uo x none (some k) 0 k (by omega) (by
  unfold strSliceIndices sliceRange
  have h0 : ¬ (k : Int) < 0 := by omega
  simp only [h0, if_false]
  have e : max (0 : Int) (min k x.length) = k := by omega
  rw [e]
  have e2 : (if (0 : Int) < k then (k : Int) - 0 + 1 - 1 / 1 else 0).toNat = k := by
   grind
  grind)
 simp_all
theorem jo (x : Str) (k : Nat) (h : k ≤ x.length) : (Txt.slice x none (some k)).length = k := by
 show (Txt.slice x _ _).cps.size = k
 rw [← Array.length_toList, mS x k h, List.length_take]
 have hx : x.cps.toList.length = x.length := rfl
 omega
theorem ye (z : Str) (n : Nat) (h : 2 ≤ n) : n * z.length ≤ (eA z n).length := by
 unfold eA
 rw [if_neg (by omega)]
 split
 · have : z.length = 0 := by
    have hn : ((n : Int) == 1) = false := by simp; omega
    simp_all
   rw [this]
   omega
 · have key : ∀ (k : Nat) (acc : Array _), ((List.replicate k z.cps).foldl (· ++ ·) acc).size = acc.size + z.length * k := by
    intro k
    induction k with
    | zero => simp
    | succ k ih => intro acc; rw [List.replicate_succ, List.foldl_cons, ih, Array.size_append, Nat.mul_succ]; show acc.size + z.length + z.length * k = _; omega
   show _ ≤ Array.size _
   rw [key, Nat.mul_comm]
   simp
theorem mV (h0 : 0 ≤ i) (h1 : i < 26) (g0 : 0 ≤ j) (g1 : j < 26) (e : bU i = bU j) : i = j := by
 have all : ∀ a : Fin 26, ∀ b, db.cps.toList.getD a.val 0 = db.cps.toList.getD b.val 0 → a = b := by decide +kernel
 have := all ⟨i.toNat, by omega⟩ ⟨j.toNat, by omega⟩ e
 have := congrArg Fin.val this
 simp only at this
 omega
theorem qg (p f : Int) (hp : p = 1 ∨ p = 3 ∨ p = 5 ∨ p = 7) (i j : Nat) (hi : i < 8) (hj : j < 8) (e : (f + p * i) % 26 = (f + p * j) % 26) : i = j := by grind
def dR (ks : List Str) : Prop := ∀ (i j : Nat) (hi : i < ks.length) (hj : j < ks.length), ks[i] = ks[j] → i = j
theorem yt (a b : Str) : (a ++ b).cps.toList = a.cps.toList ++ b.cps.toList := by
 show (a.cps ++ b.cps).toList = _
 simp
structure fm (many : Nat) (nms : List Str) : Prop where
 len : nms.length = many
 unl : dR nms
 sz : ∀ n ∈ nms, n.length ≤ 100
theorem qy (bs : Str) (h0 : 1 ≤ bs.length) (h1 : bs.length ≤ 8) {many} (hm : many ≤ 8) : fm many ((List.range many).map fun (k : Nat) => Txt.slice (eA bs 8) none (some (k + 1))) := by
 refine ⟨by simp, fun i j hi hj e => ?_, fun n hn => ?_⟩
 · simp only [List.length_map, List.length_range] at hi hj
   have g := ye bs 8 (by decide)
   have a1 := jo (eA bs (8 : Nat)) (i + 1) (by omega)
   have a2 := jo (eA bs (8 : Nat)) (j + 1) (by omega)
   grind
 · obtain ⟨k, _, rfl⟩ := List.mem_map.mp hn
   have a := Txt.slice_le (eA bs 8) none (some (k + 1))
   have b := kW bs 8
   rw [show (8 : Int).toNat = 8 from rfl] at b
   omega
theorem qL (bs : Str) (h1 : bs.length ≤ 8) (p f a : Int) (hp : p = 1 ∨ p = 3 ∨ p = 5 ∨ p = 7) {many} (hm : many ≤ 8) : fm many ((List.range many).map fun (k : Nat) => Txt.slice bs none (some a) ++ jQ (bU ((f + p * k) % 26)) ++ Txt.slice bs (some (a + 1)) none) := by
 refine ⟨by simp, fun i j hi hj e => ?_, fun n hn => ?_⟩
 · simp only [List.length_map, List.length_range] at hi hj
   simp only [List.getElem_map, List.getElem_range] at e
   have e' := congrArg (fun z => z.cps.toList) e
   simp only [yt, List.append_assoc] at e'
   have e2 := List.append_cancel_left e'
   injection e2 with e3 _
   have m0 : ∀ z : Int, 0 ≤ z % 26 ∧ z % 26 < 26 := fun z => by omega
   exact qg _ _ hp i j (by omega) (by omega) (mV (m0 _).1 (m0 _).2 (m0 _).1 (m0 _).2 e3)
 · obtain ⟨k, _, rfl⟩ := List.mem_map.mp hn
   have s1 := Txt.slice_le bs none (some a)
   have s2 := Txt.slice_le bs (some (a + 1)) none
   rw [Str.length_append, Str.length_append]
   show _ + 1 + _ ≤ 100
   omega
theorem lg : ∀ {xs : List Str}, (∀ x ∈ xs, x.length = 1) → (xs.map (·.length)).sum = xs.length
 | [], _ => rfl
 | x :: xs, h => by
  rw [List.map_cons, List.sum_cons, lg fun y hy => h y (List.mem_cons_of_mem _ hy), h x List.mem_cons_self, List.length_cons]
  omega
def di (f : FW) : Prop := ∀ (k : Nat) (st : ae) (s : R) (many : Nat), many ≤ 8 → ∀ n, Fu (n + 13) s → st[k]? = some (aB s) → Wl (f [.ref k, .d (.int many)] st) fun w σ => ∃ nms s', w = .ref st.length ∧ σ = st.set k (aB s') ++ [some (nms.map T.str)] ∧ fm many nms ∧ Fu n s'
theorem xu {F : FT} (hT : cm (F 1)) : di (aC F G0 dY) := by
 intro k st s many hm n hf h
 have hk := dw h
 rw [← bV h]
 refine bL rfl ?_
 unfold dY
 obtain ⟨w, r, w0, w1, wc, e1, e2⟩ := hT.b s 8 hk hf
 obtain ⟨z, hz⟩ : ∃ z : Nat, 1 + w = (z : Int) := ⟨(1 + w).toNat, by omega⟩
 walk_at "wq"
 generalize hX : aa _ _ _ _ _ = X
 obtain ⟨_, _, ⟨xs, r2, rfl, rfl, hl, ho, c1⟩, rfl⟩ := cq hX (fun i a σ => ∃ (xs : List Str) (r' : R), a = xs.map T.str ∧ σ = st.set k (aB r') ∧ xs.length = i ∧ (∀ x ∈ xs, x.length = 1) ∧ Fu (1 * (z - i) + (n + 4)) r') ⟨[], r, rfl, rfl, rfl, by simp, wc.le (by omega)⟩ (by
  rintro i x a σ hx ⟨xs, r', rfl, rfl, hl, ho, c1⟩
  obtain ⟨hi, rfl⟩ := gw hx
  obtain ⟨v, q, v0, v1, hc, _, e⟩ := hT.b r' 26 hk (c1.it hi)
  have wl := fun st => kU (st := st) v0 v1
  refine ah rfl ?_
  walk_at "wq"
  exact ⟨_, _, rfl, xs ++ [jQ (bU v)], q, by simp, rfl, by simp [hl], fun x hx => by
   rcases List.mem_append.mp hx with e | e
   · exact ho x e
   · rw [List.mem_singleton.mp e]; rfl, hc⟩)
 rw [cr] at hl c1
 have c1 := c1.nd
 have zl : Str.length ("" : Str) = 0 := by decide +kernel
 have sums := lg ho
 have hj := fun st' => wD (sep := "") (xs := xs) (st := st') (by rw [zl]; exact wI (by omega))
 have bl : (Txt.join "" xs).length = z := by
  unfold Txt.join
  rw [size_glued, zl]
  omega
 generalize Txt.join "" xs = bs at *
 obtain ⟨a, r3, a0, a1, ac, e3, e4⟩ := hT.b r2 4 hk c1
 by_cases hc : a = 0
 · walk_at "wq"
   generalize hX2 : aa _ _ _ _ _ = X
   obtain ⟨_, _, ⟨rfl, rfl⟩, rfl⟩ := cq hX2 (fun i a σ => a = ((List.range i).map fun (k : Nat) => Txt.slice (eA bs 8) none (some ((k : Int) + 1))).map T.str ∧ σ = st.set k (aB r3)) ⟨rfl, rfl⟩ (by
    rintro i x a σ hx ⟨rfl, rfl⟩
    obtain ⟨hi, rfl⟩ := gw hx
    have rl := kW bs 8
    rw [show (8 : Int).toNat = 8 from rfl] at rl
    have hr := fun st => DS (z := bs) (n := 8) (st := st) (by omega) (by decide) (by decide)
    have hs := fun l u st => zk (z := eA bs 8) (l := l) (u := u) (st := st) (by omega)
    refine ah rfl ?_
    walk_at "wq"
    exact ⟨_, _, rfl, by simp [List.range_succ], rfl⟩)
   rw [cr]
   walk_at "wq"
   exact ⟨_, _, rfl, _, r3, rfl, rfl, qy bs (by omega) (by omega) hm, ac.le (by omega)⟩
 · obtain ⟨b, r4, b0, b1, bc, e5, e6⟩ := hT.b r3 z hk ac
   obtain ⟨f, r5, f0, f1, fc, e7, e8⟩ := hT.b r4 26 hk bc
   obtain ⟨g, r6, g0, g1, gc, e9, _⟩ := hT.b r5 4 hk fc
   obtain ⟨p, pp, hp⟩ : ∃ p : Int, (p = 1 ∨ p = 3 ∨ p = 5 ∨ p = 7) ∧ (if g = 0 then 1 else if g = 1 then 3 else if g = 2 then 5 else 7) = p := ⟨_, by grind, rfl⟩
   walk_at "wq"
   generalize hX2 : aa _ _ _ _ _ = X
   obtain ⟨_, _, ⟨rfl, rfl⟩, rfl⟩ := cq hX2 (fun i a σ => a = ((List.range i).map fun (k : Nat) => Txt.slice bs none (some b) ++ jQ (bU ((f + p * (k : Int)) % 26)) ++ Txt.slice bs (some (b + 1)) none).map T.str ∧ σ = st.set k (aB r6)) ⟨rfl, rfl⟩ (by
    rintro i x a σ hx ⟨rfl, rfl⟩
    obtain ⟨hi, rfl⟩ := gw hx
    have sl1 := Txt.slice_le bs none (some b)
    have sl2 := Txt.slice_le bs (some (b + 1)) none
    have hs := fun l u st => zk (z := bs) (l := l) (u := u) (st := st) (by omega)
    have wl := fun st => kU (i := (f + p * (i : Int)) % 26) (st := st) (Int.emod_nonneg _ (by decide)) (Int.emod_lt_of_pos _ (by decide))
    have lm : (jQ (bU ((f + p * (i : Int)) % 26))).length = 1 := rfl
    have a1 := fun st => oZ (a := Txt.slice bs none (some b)) (b := jQ (bU ((f + p * (i : Int)) % 26))) (st := st) (by omega)
    have a2 := fun st => oZ (a := Txt.slice bs none (some b) ++ jQ (bU ((f + p * (i : Int)) % 26))) (b := Txt.slice bs (some (b + 1)) none) (st := st) (by rw [Str.length_append]; omega)
    refine ah rfl ?_
    walk_at "wq"
    exact ⟨_, _, rfl, by simp [List.range_succ], rfl⟩)
   rw [cr]
   walk_at "wq"
   exact ⟨_, _, rfl, _, r6, rfl, rfl, qL bs (by omega) p f b pp hm, gc⟩
section
variable {f : FW} {s : R} {many : Nat}
theorem di.b (h : di f) {k} {st : ae} (hk : k < st.length) (l : ae) (hm : many ≤ 8) {n} (h0 : Fu (n + 13) s) : ∃ nms s', fm many nms ∧ Fu n s' ∧ f [.ref k, .d (.int many)] (st.set k (aB s) ++ l) = .ok (.ref (st.length + l.length)) (st.set k (aB s') ++ (l ++ [some (nms.map T.str)])) := by
 obtain ⟨_, _, e, nms, s', rfl, rfl, a, b⟩ := h k _ s _ hm n h0 (nJ hk (l := l))
 rw [m7 hk, List.length_append, List.length_set, List.append_assoc] at e
 exact ⟨nms, s', a, b, e⟩
theorem di.c (h : di f) (st l : ae) (hm : many ≤ 8) (h0 : Fu 13 s) : ∃ nms s', fm many nms ∧ f [.ref st.length, .d (.int many)] (st ++ aB s :: l) = .ok (.ref (st.length + (l.length + 1))) (st ++ aB s' :: (l ++ [some (nms.map T.str)])) := by
 obtain ⟨_, _, e, nms, s', rfl, rfl, a, _⟩ := h _ _ s _ hm 0 h0 (bK (st := st))
 rw [iD, List.length_append, List.append_assoc] at e
 exact ⟨nms, s', a, e⟩
end
theorem dD {α : Type} {f : α → T} {l : List α} {i} {x} (h : (l.map f)[i]? = some x) : ∃ a, l[i]? = some a ∧ a ∈ l ∧ i < l.length ∧ f a = x := by
 rw [List.getElem?_map] at h
 cases e : l[i]? with
 | none => rw [e] at h; cases h
 | some a =>
  rw [e] at h
  injection h with h
  obtain ⟨hi, he⟩ := List.getElem?_eq_some_iff.mp e
  exact ⟨a, rfl, he ▸ List.getElem_mem hi, hi, h⟩
theorem da {α : Type} {l : List α} {i} {a} (h : l[i]? = some a) : l.take (i + 1) = l.take i ++ [a] := by rw [List.take_add_one, h]; rfl
theorem dS {α : Type} {P : α → Prop} {l} {a} (h : ∀ x ∈ l, P x) (ha : P a) : ∀ x ∈ l ++ [a], P x := fun x hx => (List.mem_append.mp hx).elim (h x) fun e => by simp_all
theorem FD {α : Type} {f : α → T} {l : List α} {i : Int} (h0 : 0 ≤ i) (h1 : i < l.length) : ∃ a ∈ l, dj (l.map f) i = some (f a) :=
 have hi : i.toNat < l.length := by omega
 ⟨_, List.getElem_mem hi, cj h0 (by simp_all)⟩
theorem fv {α : Type} {f : α → T} {l : List α} (h : l.length ≤ 1000) : (l.map f).length < aZ := by rw [List.length_map]; exact Nat.lt_of_le_of_lt h (by decide)
def jI (p : Place) : Prop := p.name.length ≤ 100 ∧ 0 ≤ p.rent ∧ p.rent < 10 ^ 60 ∧ p.shut.length ≤ 100
def iq (p : ao) : Prop := p.name.length ≤ 100 ∧ 0 ≤ p.pay ∧ p.pay < 10 ^ 60 ∧ 0 ≤ p.hold ∧ p.hold ≤ p.pay ∧ 1 ≤ p.run ∧ p.run ≤ 8 ∧ p.away.length ≤ 100
def gC (pl : List Place) (qs : List ao) (p : ab) : Prop := p.name.length ≤ 100 ∧ p.place ∈ pl.map (·.name) ∧ 0 ≤ p.length ∧ p.length ≤ 10 ^ 12 ∧ p.word.length ≤ 4 ∧ p.cast.length ≤ qs.length ∧ ∀ c ∈ p.cast, c ∈ qs.map (·.name)
def oM (f : FW) : Prop := ∀ (s : R) (many : Nat), many ≤ 100 → Fu 1000 s → de f [.d (.int many)] s fun v s' => ∃ ps : List Place, v = .tup (ps.map Place.t) ∧ ps.length ≤ 8 ∧ dR (ps.map (·.name)) ∧ ∀ p ∈ ps, jI p
theorem vy (hT : cm (F 1)) (hM : ii (F 5)) (hS : ot (F 2)) (hN : di (F 6)) : oM (aC F G0 dg) := by
 intro s many hm hf k st h
 have hk := dw h
 rw [← bV h]
 refine bL rfl ?_
 unfold dg
 obtain ⟨a, r1, a0, a1, c1, e1, f1⟩ := hT.b s 3 hk hf
 obtain ⟨b, r2, b0, b1, c2, e2, f2⟩ := hT.b r1 7 hk c1
 obtain ⟨c, r3, c0, c01, c3, e3, f3⟩ := hT.b r2 4 hk c2
 obtain ⟨n, n8, hn⟩ : ∃ n : Nat, n ≤ 8 ∧ (if (if decide (c = 0) = true then (1 : Int) else 0) = 0 then 1 + a else b) = n := ⟨(if (if decide (c = 0) = true then (1 : Int) else 0) = 0 then 1 + a else b).toNat, by split <;> omega, by split <;> omega⟩
 obtain ⟨nms, r4, no, c4, e4⟩ := hN.b hk [] n8 c3
 rw [List.append_nil, List.length_nil] at e4
 have nl := no.len
 walk_at "wq"
 generalize hX : aa _ _ _ _ _ = X
 obtain ⟨_, _, ⟨ps, r, rfl, rfl, hp, ho, c5⟩, rfl⟩ := cq hX (fun i a σ => ∃ (ps : List _) (r : R), a = ps.map Place.t ∧ σ = st.set k (aB r) ∧ ps.map (·.name) = nms.take i ∧ (∀ p ∈ ps, jI p) ∧ Fu (109 * (n - i) + 0) r) ⟨[], r4, rfl, rfl, rfl, by simp, c4.le (by omega)⟩ (by
  rintro i x a σ hx ⟨ps, r, rfl, rfl, hp, ho, c5⟩
  obtain ⟨nm, hi, hm', hl, rfl⟩ := dD hx
  obtain ⟨_, q1, ⟨m, rfl, m0, m1, d1⟩, g1⟩ := (hM r _ (c5.it (nl ▸ hl))).a hk
  obtain ⟨_, q2, ⟨ds, rfl, dl, d2⟩, g2⟩ := (hS q1 _ hm _ d1).a hk
  refine ah rfl ?_
  walk_at "wq"
  exact ⟨_, _, rfl, ps ++ [⟨nm, m, ds⟩], q2, by simp [Place.t], rfl, by rw [da hi, List.map_append, hp]; rfl, dS ho ⟨no.sz nm hm', m0, m1, by show ds.length ≤ 100; omega⟩, d2⟩)
 rw [List.length_map, List.take_length] at hp
 walk_at "wq"
 exact ⟨_, _, rfl, _, r, rfl, rfl, ps, rfl, by rw [← List.length_map, hp]; omega, by rw [hp]; exact no.unl, ho⟩
def lC (f : FW) : Prop := ∀ (s : R) (many : Nat), many ≤ 100 → Fu 1000 s → de f [.d (.int many)] s fun v s' => ∃ ps : List ao, v = .tup (ps.map ao.t) ∧ ps.length ≤ 8 ∧ dR (ps.map (·.name)) ∧ ∀ p ∈ ps, iq p
theorem qP {F : FT} (hT : cm (F 1)) (hF : vm (F 3)) (hM : ii (F 5)) (hS : ot (F 2)) (hN : di (F 6)) : lC (aC F G0 cJ) := by
 intro s many hm hf k st h
 have hk := dw h
 rw [← bV h]
 refine bL rfl ?_
 unfold cJ
 obtain ⟨a, r1, a0, a1, c1, e1, f1⟩ := hT.b s 4 hk hf
 obtain ⟨b, r2, b0, b1, c2, e2, f2⟩ := hT.b r1 7 hk c1
 obtain ⟨c, r3, c0, c01, c3, e3, f3⟩ := hT.b r2 3 hk c2
 obtain ⟨n, n8, hn⟩ : ∃ n : Nat, n ≤ 8 ∧ (if (if decide (c = 0) = true then (1 : Int) else 0) = 0 then a else b) = n := ⟨(if (if decide (c = 0) = true then (1 : Int) else 0) = 0 then a else b).toNat, by split <;> omega, by split <;> omega⟩
 obtain ⟨nms, r4, no, c4, e4⟩ := hN.b (s := r3) hk [some []] n8 c3
 have nl := no.len
 walk_at "wq"
 generalize hX : aM _ _ _ _ _ = X
 obtain ⟨_, _, ⟨ps, r, x4, x5, x6, x7, rfl, rfl, hp, ho, c5⟩, rfl⟩ := bP hX (fun i ρ σ => ∃ (ps : List ao) (r : R) (x4 x5 x6 x7 : Option W), ρ = [some (.ref k), some (.d (.int many)), some (.d (.int n)), some (.ref st.length), x4, x5, x6, x7] ∧ σ = st.set k (aB r) ++ [some (ps.map ao.t)] ∧ ps.map (·.name) = nms.take i ∧ (∀ p ∈ ps, iq p) ∧ Fu (119 * (n - i) + 0) r) ⟨[], r4, none, none, none, none, rfl, rfl, by simp, by simp, c4.le (by omega)⟩ (by
  rintro i x ρ σ hx ⟨ps, r, x4, x5, x6, x7, rfl, rfl, hp, ho, c5⟩
  obtain ⟨nm, hi, hm', hl, rfl⟩ := dD hx
  have hpl : ps.length ≤ 8 := by have := congrArg List.length hp; simp at this; omega
  have lm := fv (f := ao.t) (l := ps) (by omega)
  obtain ⟨_, q1, ⟨m, rfl, m0, m1, d1⟩, g1⟩ := (hM r _ (c5.it (nl ▸ hl))).b hk [some (ps.map ao.t)]
  obtain ⟨_, q2, ⟨v, rfl, v0, v1, d2⟩, g2⟩ := (hF q1 (m + 1) _ (by omega) d1).b hk [some (ps.map ao.t)]
  obtain ⟨y, q3, y0, y1, d3, g3, _⟩ := hT.b q2 3 hk d2
  obtain ⟨hd, h0, h1, hh⟩ : ∃ hd : Int, 0 ≤ hd ∧ hd ≤ m ∧ (if y = 0 then 0 else if y = 1 then m else v) = hd := ⟨_, by split <;> (try split) <;> omega, by split <;> (try split) <;> omega, rfl⟩
  obtain ⟨u, q4, u0, u1, d4, g4, _⟩ := hT.b q3 2 hk d3
  obtain ⟨t, t0, t1, ht⟩ : ∃ t : Int, 0 < t ∧ t ≤ 8 ∧ (if u = 0 then 2 else 8) = t := ⟨_, by split <;> decide, by split <;> decide, rfl⟩
  obtain ⟨z, q5, z0, z1, d5, g5, _⟩ := hT.b q4 t hk d4
  obtain ⟨_, q6, ⟨ds, rfl, dl, d6⟩, g6⟩ := (hS q5 _ hm _ d5).b hk [some (ps.map ao.t)]
  refine ba rfl ?_
  walk_at "wq"
  exact ⟨_, _, rfl, rfl, ps ++ [⟨nm, m, hd, 1 + z, ds⟩], q6, _, _, _, _, rfl, by simp [ao.t], by rw [da hi, List.map_append, hp]; rfl, dS ho ⟨no.sz nm hm', m0, m1, h0, h1, by show 1 ≤ 1 + z; omega, by show 1 + z ≤ 8; omega, by show ds.length ≤ 100; omega⟩, d6⟩)
 rw [List.length_map, List.take_length] at hp
 walk_at "wq"
 exact ⟨_, _, rfl, _, r, rfl, rfl, ps, rfl, by rw [← List.length_map, hp]; omega, by rw [hp]; exact no.unl, ho⟩
def vi (f : FW) : Prop := ∀ (s : R) (nm : Str) (pl : List Place) (qs : List ao) (unit : Int), nm.length ≤ 100 → 0 < pl.length → pl.length ≤ 1000 → qs.length ≤ 1000 → 0 < unit → unit ≤ 10 ^ 10 → Fu 1004 s → de f [.d (.str nm), .d (.tup (pl.map Place.t)), .d (.tup (qs.map ao.t)), .d (.int unit)] s fun v s' => ∃ sc : ab, v = sc.t ∧ sc.name = nm ∧ gC pl qs sc
theorem xF {F : FT} (hT : cm (F 1)) : vi (aC F G0 dZ) := by
 intro s nm pl qs unit hnm hp0 hp1 hq hu0 hu1 hf k st h
 have hk := dw h
 rw [← bV h]
 refine bL rfl ?_
 unfold dZ
 have lp : (pl.map Place.t).length = pl.length := List.length_map _
 obtain ⟨a, r1, a0, a1, c1, e1, f1⟩ := hT.b s pl.length hk hf
 obtain ⟨p, hp, ep⟩ := FD (f := Place.t) a0 a1
 replace ep : dj (pl.map Place.t) a = some (.tup [.str p.name, .int p.rent, .tup (p.shut.map T.int)]) := ep
 obtain ⟨b, r2, b0, b1, c2, e2, f2⟩ := hT.b r1 6 hk c1
 obtain ⟨c, r3, c0, c01, c3, e3, f3⟩ := hT.b r2 4 hk c2
 obtain ⟨wd, w4, hw⟩ : ∃ wd : Str, wd.length ≤ 4 ∧ (if c = 0 then ("any" : Str) else if c = 1 then "sun" else if c = 2 then "moon" else "any") = wd := ⟨_, by split <;> (try split) <;> (try split) <;> decide +kernel, rfl⟩
 have ul : unit * (1 + b) ≤ 10 ^ 10 * 6 := Int.mul_le_mul hu1 (by omega) (by omega) (by decide)
 have u0 : 0 ≤ unit * (1 + b) := Int.mul_nonneg (by omega) (by omega)
 walk_at "wq"
 generalize hX : aa _ _ _ _ _ = X
 obtain ⟨_, _, ⟨cs, r, rfl, rfl, hl, hcs, c5⟩, rfl⟩ := cq hX (fun i a σ => ∃ (cs : List Str) (r : R), a = cs.map T.str ∧ σ = st.set k (aB r) ∧ cs.length ≤ i ∧ (∀ x ∈ cs, x ∈ qs.map (·.name)) ∧ Fu (1 * (qs.length - i) + 1) r) ⟨[], r3, rfl, rfl, Nat.le_refl _, by simp, c3.le (by omega)⟩ (by
  rintro i x a σ hx ⟨cs, r, rfl, rfl, hl, hcs, c5⟩
  obtain ⟨q, hi, hm', hl', rfl⟩ := dD hx
  obtain ⟨v, r', _, _, hc, _, e⟩ := hT.b r 3 hk (c5.it hl')
  refine ah rfl ?_
  unfold ao.t
  by_cases hv : v = 0
  · walk_at "wq"
    exact ⟨_, _, rfl, _, r', by simp, rfl, by simp; omega, dS hcs (List.mem_map_of_mem hm'), hc⟩
  · walk_at "wq"
    exact ⟨_, _, rfl, cs, r', by simp, rfl, by omega, hcs, hc⟩)
 rw [List.length_map] at hl c5
 obtain ⟨d, r6, d0, d1, c6, e6, f6⟩ := hT.b r 2 hk c5.nd
 have so : ∀ ts, ts.length ≤ cs.length → (∀ x ∈ ts, x ∈ cs) → gC pl qs ⟨nm, _, _, wd, ts⟩ := fun ts h1 h2 => ⟨hnm, List.mem_map_of_mem hp, u0, by show unit * (1 + b) ≤ _; omega, w4, Nat.le_trans h1 hl, fun x hx => hcs x (h2 x hx)⟩
 by_cases hd : d = 1
 · walk_at "wq"
   exact ⟨_, _, rfl, _, r6, rfl, rfl, ⟨nm, _, _, wd, cs.reverse⟩, by simp [ab.t], rfl, so _ (by simp) (by simp)⟩
 · walk_at "wq"
   exact ⟨_, _, rfl, _, r6, rfl, rfl, _, rfl, rfl, so _ (Nat.le_refl _) fun x h => h⟩
theorem vv (a b : Int) : some [T.int a, .int b] = aB ⟨a, b⟩ := rfl
structure bE (md ms : Int) (b : aH) : Prop where
 crew : 0 ≤ b.crew ∧ b.crew < 10 ^ 60
 move : 0 ≤ b.move ∧ b.move ≤ 10 ^ 12
 d1 : 1 ≤ b.days.length
 d2 : (b.days.length : Int) ≤ md
 p8 : b.places.length ≤ 8
 q8 : b.players.length ≤ 8
 s8 : (b.scenes.length : Int) ≤ ms
 days : ∀ d ∈ b.days, jb d
 places : ∀ p ∈ b.places, jI p
 players : ∀ p ∈ b.players, iq p
 scenes : ∀ p ∈ b.scenes, gC b.places b.players p
 unl : dR (b.places.map (·.name)) ∧ dR (b.players.map (·.name)) ∧ dR (b.scenes.map (·.name))
def ud (f : FW) : Prop := ∀ (st : ae) (ns : List Int) (md ms : Int), 0 < md → md ≤ 100 → 0 ≤ ms → ms ≤ 8 → ∃ b, bE md ms b ∧ f [.d (.lst (ns.map T.int)), .d (.int md), .d (.int ms)] st = .ok (.d b.t) st
theorem Ax {F : FT} (hC : pM (F 0)) (hT : cm (F 1)) (hF : vm (F 3)) (hM : ii (F 5)) (hD : yF (F 4)) (hN : di (F 6)) (hP : oM (F 7)) (hQ : lC (F 8)) (hS : vi (F 9)) : ud (aC F G0 dL) := by
 intro st ns md ms hm0 hm1 hs0 hs1
 suffices h : Wl (aC F G0 dL [.d (.lst (ns.map T.int)), .d (.int md), .d (.int ms)] st) fun w σ => ∃ b, bE md ms b ∧ w = .d b.t ∧ σ = st by
  obtain ⟨_, _, e, b, hb, rfl, rfl⟩ := h
  exact ⟨b, hb, e⟩
 refine bL rfl ?_
 unfold dL
 have hrow := vv
 obtain ⟨z0, Z0⟩ := hC ns 0 (by decide)
 obtain ⟨z1, Z1⟩ := hC ns 1 (by decide)
 obtain ⟨z2, Z2⟩ := hC ns 2 (by decide)
 obtain ⟨z3, Z3⟩ := hC ns 3 (by decide)
 have fu : ∀ (z : Int) (i : Nat), i ≤ 20 → Fu 1004 ⟨z, i⟩ := fun z i h => ⟨by show (0 : Int) ≤ i; omega, by show (i : Int) + 1004 ≤ 10 ^ 6; omega⟩
 obtain ⟨a, r1, a0, a1, c1, e1⟩ := hT.c ⟨z0, 0⟩ md st (fu z0 0 (by decide))
 obtain ⟨many, hmn⟩ : ∃ many : Nat, 1 + a = (many : Int) := ⟨(1 + a).toNat, by omega⟩
 obtain ⟨_, r2, ⟨x, rfl, x0, x1, c2⟩, e2⟩ := (hF r1 (10 ^ 10) _ (by decide) c1).c st []
 obtain ⟨y, r3, y0, y1, c3, e3⟩ := hT.c r2 4 st c2
 obtain ⟨unit, u0, u1, hu⟩ : ∃ unit : Int, 0 < unit ∧ unit ≤ 10 ^ 10 ∧ (if y = 0 then 1 else if y = 1 then 1 else if y = 2 then 10 ^ 6 else 1 + x) = unit := ⟨_, by split <;> (try split) <;> (try split) <;> omega, by split <;> (try split) <;> (try split) <;> omega, rfl⟩
 obtain ⟨_, r4, ⟨crew, rfl, w0, w1, c4⟩, e4⟩ := (hM r3 _ c3).c st []
 obtain ⟨m, r5, m0, m1, c5, e5⟩ := hT.c r4 3 st c4
 have sm : aI m = true := aQ (by omega) (by omega)
 have mv : unit * m ≤ 10 ^ 10 * 2 := Int.mul_le_mul u1 (by omega) (by omega) (by decide)
 obtain ⟨_, _, ⟨ds, rfl, dl, hds⟩, e6⟩ := (hD ⟨z1, 1⟩ many unit (by omega) u0 u1 ((fu z1 1 (by decide)).le (by omega))).d st (aB r5)
 obtain ⟨_, _, ⟨pl, rfl, pl8, pu, hpl⟩, e7⟩ := (hP ⟨z2, 2⟩ many (by omega) ((fu z2 2 (by decide)).le (by decide))).d st (aB r5)
 obtain ⟨_, _, ⟨qs, rfl, ql8, qu, hqs⟩, e8⟩ := (hQ ⟨z3, 3⟩ many (by omega) ((fu z3 3 (by decide)).le (by decide))).d st (aB r5)
 obtain ⟨x5, r6, x50, x51, c6, e9⟩ := hT.c r5 (ms + 1) st c5
 obtain ⟨n, n8, hk0, hn⟩ : ∃ n : Nat, (n : Int) ≤ ms ∧ (n = 0 ∨ 0 < pl.length) ∧ x5 * (if decide ((0 : Int) < (pl.length : Int)) = true then 1 else 0) = (n : Int) := by
  by_cases hz : pl.length = 0
  · exact ⟨0, by omega, .inl rfl, by rw [hz]; simp⟩
  · exact ⟨x5.toNat, by omega, .inr (by omega), by rw [if_pos (by simpa using (by omega : 0 < pl.length))]; omega⟩
 have sif : ∀ b : Bool, aI (if b = true then 1 else 0) = true := fun b => by cases b <;> exact aQ (by decide) (by decide)
 have lp : (pl.map Place.t).length = pl.length := List.length_map _
 obtain ⟨nms, r7, no, e10⟩ := hN.c (s := r6) (many := n) st [some []] (by omega) (c6.le (by decide))
 rw [List.length_cons, List.length_nil] at e10
 have nl := no.len
 walk_at "wq"
 generalize hX : aM _ _ _ _ _ = X
 obtain ⟨_, _, ⟨scs, x13, x14, rfl, rfl, hsn, hsc⟩, rfl⟩ := bP hX (fun i ρ σ => ∃ (scs : List ab) (x13 x14 : Option W), ρ = [some (.d (.lst (ns.map T.int))), some (.d (.int md)), some (.d (.int ms)), some (.ref st.length), some (.d (.int many)), some (.d (.int unit)), some (.d (.int crew)), some (.d (.int (unit * m))), some (.d (.tup (ds.map iW))), some (.d (.tup (pl.map Place.t))), some (.d (.tup (qs.map ao.t))), some (.d (.int n)), some (.ref (st.length + 1)), x13, x14] ∧ σ = st ++ [aB r7, some (scs.map ab.t)] ∧ scs.map (·.name) = nms.take i ∧ ∀ p ∈ scs, gC pl qs p) ⟨[], none, none, rfl, rfl, by simp, by simp⟩ (by
  rintro i x ρ σ hx ⟨scs, x13, x14, rfl, rfl, hsn, hsc⟩
  obtain ⟨nm, hi, rfl⟩ : ∃ nm, nms[i]? = some nm ∧ x = .tup [.int i, .str nm] := by
   rw [List.getElem?_map, List.getElem?_zipIdx, List.getElem?_map] at hx
   cases e : nms[i]? with
   | none => rw [e] at hx; cases hx
   | some nm => simp_all
  obtain ⟨hil, hie⟩ := List.getElem?_eq_some_iff.mp hi
  have hsl : scs.length ≤ 8 := by have := congrArg List.length hsn; simp at this; omega
  have lm := fv (f := ab.t) (l := scs) (by omega)
  obtain ⟨c, C0⟩ := hC ns (4 + i) (by omega)
  obtain ⟨_, q, ⟨sc, rfl, hnm, so⟩, eS⟩ := (hS ⟨c, 4 + i⟩ nm pl qs unit (no.sz nm (hie ▸ List.getElem_mem hil)) (by omega) (by omega) (by omega) u0 u1 ⟨by show (0 : Int) ≤ 4 + i; omega, by show (4 + i : Int) + 1004 ≤ 10 ^ 6; omega⟩).e st (aB r7) (some (scs.map ab.t))
  refine ba rfl ?_
  walk_at "wq"
  exact ⟨_, _, rfl, rfl, scs ++ [sc], _, _, rfl, by simp, by rw [da hi, List.map_append, hsn, ← hnm]; rfl, dS hsc so⟩)
 simp only [List.length_map, List.length_zipIdx, List.take_length] at hsn
 walk_at "wq"
 have hsl : scs.length = n := by rw [← List.length_map (f := (·.name)), hsn]; omega
 exact ⟨_, _, rfl, ⟨crew, unit * m, ds, pl, qs, scs⟩, ⟨⟨w0, w1⟩, ⟨Int.mul_nonneg (by omega) m0, by show unit * m ≤ _; omega⟩, by show 1 ≤ ds.length; omega, by show (ds.length : Int) ≤ _; omega, pl8, ql8, by show (scs.length : Int) ≤ _; omega, hds, hpl, hqs, hsc, pu, qu, by show dR (scs.map _); rw [hsn]; exact no.unl⟩, rfl, rfl⟩
def ja (b : aH) (os : List (Option Int)) : Prop := ∀ o ∈ os, ∀ d, o = some d → 0 ≤ d ∧ d < b.days.length
section
variable {b : aH} {st : ae} {s : ab} {p : Place} {q : ao} {os : List (Option Int)}
theorem kS : fN (.d b.t) (.d (.int 0)) st = .ok (.d (.int b.crew)) st := rfl
theorem lF : fN (.d b.t) (.d (.int 1)) st = .ok (.d (.int b.move)) st := rfl
theorem lQ : fN (.d b.t) (.d (.int 2)) st = .ok (.d (.tup (b.days.map iW))) st := rfl
theorem lR : fN (.d b.t) (.d (.int 3)) st = .ok (.d (.tup (b.places.map Place.t))) st := rfl
theorem lj : fN (.d b.t) (.d (.int 4)) st = .ok (.d (.tup (b.players.map ao.t))) st := rfl
theorem kM : fN (.d b.t) (.d (.int 5)) st = .ok (.d (.tup (b.scenes.map ab.t))) st := rfl
theorem mn : fN (.d s.t) (.d (.int 0)) st = .ok (.d (.str s.name)) st := rfl
theorem mj : fN (.d s.t) (.d (.int 1)) st = .ok (.d (.str s.place)) st := rfl
theorem k8 : fN (.d s.t) (.d (.int 4)) st = .ok (.d (.tup (s.cast.map T.str))) st := rfl
theorem kP : fN (.d p.t) (.d (.int 0)) st = .ok (.d (.str p.name)) st := rfl
theorem lv : fN (.d q.t) (.d (.int 0)) st = .ok (.d (.str q.name)) st := rfl
theorem p9 {α β : Type} {f} {g : β → T} {l : List α} {m} : items .zp [.d (.tup (l.map f)), .d (.tup (m.map g))] st = some ((l.zip m).map fun z => .tup [f z.1, g z.2], []) := by
 show some _ = _
 rw [List.zip_map, List.map_map]
 rfl
theorem rq : items .seq [.d (ag os)] st = some (os.map bX, []) := rfl
theorem lH {α : Type} {f} {l : List α} : items .zp [.d (.tup (l.map f)), .d (ag os)] st = some ((l.zip os).map fun z => .tup [f z.1, bX z.2], []) := p9
end
theorem t6 : G0[0]? = some (.int 4) := rfl
theorem uB : G0[1]? = some (.int 0) := rfl
theorem kR : G0[15]? = some (.int 0) := rfl
theorem lG : G0[16]? = some (.int 1) := rfl
theorem lK : G0[17]? = some (.int 3) := rfl
theorem kL : G0[18]? = some (.int 4) := rfl
theorem k7 : G0[20]? = some (.int 5) := rfl
theorem l6 {α β : Type} {f : α → β} {l : List α} : ((l.map f).length : Int) = l.length := by rw [List.length_map]
local macro_rules | `(tactic| walk_at "bq") => do { let ls ← ((I.ws (Hd.CI ++ " nV yP kS lF lQ lR lj kM mn mj k8 kP lv p9 rq lH t6 uB kR lG lK kL k7 l6")).mapM fun n => `(Lean.Parser.Tactic.simpLemma| $(Lean.mkIdent n):term)); `(tactic| simp (disch := walk_at "dq") only [$[$ls:simpLemma],*, *]) }
theorem ja.snoc {b : aH} {os : List (Option Int)} {o : Option Int} (h : ja b os) (ho : ∀ d, o = some d → 0 ≤ d ∧ d < b.days.length) : ja b (os ++ [o]) := dS (P := fun (o : Option Int) => ∀ d, o = some d → 0 ≤ d ∧ d < b.days.length) h ho
structure Cs (b : aH) (os : List (Option Int)) : Prop where
 ok : bE 8 8 b
 len : os.length = b.scenes.length
 days : ja b os
theorem Cs.d8 {os} (h : Cs b os) : b.days.length ≤ 8 := by have := h.ok.d2; omega
theorem Cs.s8 {os} (h : Cs b os) : b.scenes.length ≤ 8 := by have := h.ok.s8; omega
theorem Cs.z8 {os} (h : Cs b os) : (b.scenes.zip os).length ≤ 8 := by have := h.s8; rw [List.length_zip]; omega
def zo (b : aH) (n : Nat) (v : T) (s' : R) : Prop := ∃ os, v = ag os ∧ Cs b os ∧ Fu n s'
def om (f : FW) : Prop := ∀ (s : R) (b : aH) (share : Int), bE 8 8 b → 0 < share → share ≤ 1000 → ∀ n, Fu (n + 16) s → de f [.d b.t, .d (.int share)] s (zo b n)
theorem Aa (hT : cm (F 1)) : om (aC F G0 iI) := by
 intro s b share hb h0 h1 n hf k st h
 have hk := dw h
 have b1 := hb.d1
 have b2 := hb.d2
 have b3 := hb.s8
 rw [← bV h]
 refine bL rfl ?_
 unfold iI
 walk_at "bq"
 generalize hX : aM _ _ _ _ _ = X
 obtain ⟨_, _, ⟨os, r, x4, x5, rfl, rfl, ho, hv, c1⟩, rfl⟩ := bP hX (fun i ρ σ => ∃ (os : List _) (r : R) (x4 x5 : Option W), ρ = [some _, some _, some _, some _, x4, x5] ∧ σ = st.set k (aB r) ++ [some (os.map bX)] ∧ os.length = i ∧ ja b os ∧ Fu (2 * (b.scenes.length - i) + n) r) ⟨[], s, _, _, rfl, rfl, rfl, (by intro o ho; cases ho), hf.le (by omega)⟩ (by
  rintro i y ρ σ hy ⟨os, r, x4, x5, rfl, rfl, ho, hv, c1⟩
  obtain ⟨sc, hi, _, hl, rfl⟩ := dD hy
  obtain ⟨d, r1, d0, d1, k1, e1, _⟩ := hT.b r b.days.length hk (c1.it hl)
  obtain ⟨z, r2, z0, z1, k2, e2, _⟩ := hT.b r1 _ hk k1
  have lm := fv (f := bX) (l := os) (by omega)
  refine ba rfl ?_
  by_cases hz : z = 0
  · walk_at "bq"
    exact ⟨_, _, rfl, rfl, os ++ [none], r2, _, _, rfl, by simp [bX], by simp [ho], hv.snoc (fun d z => nomatch z), k2⟩
  · walk_at "bq"
    exact ⟨_, _, rfl, rfl, os ++ [some d], r2, _, _, rfl, by simp [bX], by simp [ho], hv.snoc fun d z => by cases z; omega, k2⟩)
 rw [List.length_map] at ho c1
 walk_at "bq"
 exact ⟨_, _, rfl, _, r, rfl, rfl, os, rfl, ⟨hb, ho, hv⟩, c1.nd⟩
def BR (f : FW) : Prop := ∀ (s : R) (b : aH), bE 8 8 b → ∀ n, Fu (n + 20) s → de f [.d b.t] s (zo b n)
theorem Ec {F : FT} (hT : cm (F 1)) (hC : om (F 33)) : BR (aC F G0 eL) := by
 intro s b hb n hf k st h
 have hk := dw h
 have b1 := hb.d1
 have b2 := hb.d2
 have b3 := hb.s8
 rw [← bV h]
 refine bL rfl ?_
 unfold eL
 obtain ⟨w, r1, w0, w1, k1, _, e1⟩ := hT.b s 3 hk hf
 by_cases hw : w = 0
 · obtain ⟨u, r2, u0, u1, k2, e2, _⟩ := hT.b r1 3 hk k1
   obtain ⟨sh, s0, s1, hs⟩ : ∃ sh : Int, 0 < sh ∧ sh ≤ 1000 ∧ (if u = 0 then 9 else if u = 1 then 3 else 99) = sh := ⟨_, by split <;> (try split) <;> decide, by split <;> (try split) <;> decide, rfl⟩
   obtain ⟨_, r3, ⟨os, rfl, hv, c1⟩, e3⟩ := (hC r2 b sh hb s0 s1 n (k2.le (by omega))).a hk
   walk_at "bq"
   exact ⟨_, _, rfl, _, r3, rfl, rfl, os, rfl, hv, c1⟩
 · obtain ⟨f, r2, f0, f1, k2, _, e2⟩ := hT.b r1 b.days.length hk k1
   obtain ⟨g, r3, g0, g1, k3, _, e3⟩ := hT.b r2 b.days.length hk k2
   obtain ⟨u, r4, u0, u1, k4, e4, _⟩ := hT.b r3 2 hk k3
   obtain ⟨sh, s0, s1, hs⟩ : ∃ sh : Int, 0 < sh ∧ sh ≤ 1000 ∧ (if u = 0 then 4 else 99) = sh := ⟨_, by split <;> decide, by split <;> decide, rfl⟩
   walk_at "bq"
   generalize hX : aM _ _ _ _ _ = X
   obtain ⟨_, _, ⟨os, r, x8, x9, rfl, rfl, ho, hv, c1⟩, rfl⟩ := bP hX (fun i ρ σ => ∃ (os : List (Option Int)) (r : R) (x8 x9 : Option W), ρ = [some (.ref k), some (.d b.t), some (.d (.int w)), some (.d (.int b.days.length)), some (.d (.int f)), some (.d (.int g)), some (.d (.int sh)), some (.ref st.length), x8, x9] ∧ σ = st.set k (aB r) ++ [some (os.map bX)] ∧ os.length = i ∧ ja b os ∧ Fu (2 * (b.scenes.length - i) + n) r) ⟨[], r4, none, none, rfl, rfl, rfl, (by intro o ho; cases ho), k4.le (by omega)⟩ (by
    rintro i y ρ σ hy ⟨os, r, x8, x9, rfl, rfl, ho, hv, c1⟩
    obtain ⟨hi, rfl⟩ := gw hy
    obtain ⟨p, r5, p0, p1, k5, e5, _⟩ := hT.b r 2 hk (c1.it hi)
    obtain ⟨z, r6, z0, z1, k6, e6, _⟩ := hT.b r5 sh hk k5
    have m1 := Int.emod_nonneg (f + (i : Int)) (show (b.days.length : Int) ≠ 0 by omega)
    have m2 := Int.emod_lt_of_pos (f + (i : Int)) (show (0 : Int) < b.days.length by omega)
    obtain ⟨d, d0, d1, hd⟩ : ∃ d : Int, 0 ≤ d ∧ d < b.days.length ∧ (if w - 1 = 0 then (f + (i : Int)) % b.days.length else if p = 0 then f else g) = d := ⟨_, by split <;> (try split) <;> omega, by split <;> (try split) <;> omega, rfl⟩
    have lm := fv (f := bX) (l := os) (by omega)
    refine ba rfl ?_
    by_cases hz : z = 0
    · walk_at "bq"
      exact ⟨_, _, rfl, rfl, os ++ [none], r6, _, _, rfl, by simp [bX], by simp [ho], hv.snoc (fun d z => nomatch z), k6⟩
    · walk_at "bq"
      exact ⟨_, _, rfl, rfl, os ++ [some d], r6, _, _, rfl, by simp [bX], by simp [ho], hv.snoc fun d z => by cases z; omega, k6⟩)
   rw [cr] at ho c1
   walk_at "bq"
   exact ⟨_, _, rfl, _, r, rfl, rfl, os, rfl, ⟨hb, ho, hv⟩, c1.nd⟩
theorem uA (n : Nat) : iR (List.replicate n (T.bl true)) = some (List.replicate n true) := by
 induction n with
 | zero => rfl
 | succ n ih => show (iR _).map _ = _; rw [ih]; rfl
theorem Dw {n k} {st} (h : st[k]? = some (some (List.replicate n (T.bl true)))) : gq .all [.ref k] st = .ok (.d (.bl true)) st := by
 have e : Jm .all [.lst (List.replicate n (T.bl true))] = (iR _).map fun bs => T.bl _ := rfl
 simp only [gq, bY, look, h, e, uA, Option.map_some]
 have : (List.replicate n true).all id = true := by induction n <;> simp
 rw [this]
 rfl
def tw (f : FW) : Prop := ∀ (st : ae) (i : Int), f [.d (.int i)] st = .ok (.d (.bl true)) st
theorem xM : tw (aC F G0 ee) := by
 intro st i
 have h1 : rY .int (.int i) = true := rfl
 have h2 : rY .bool (.int i) = false := rfl
 rw [aL rfl]
 unfold ee
 walk_at "wq"
def jD (n : Nat) (f : FW) : Prop := ∀ (st : ae) (t : T), plain t = true → cS t < n → f [.d t, .d t] st = .ok (.d (.bl true)) st
theorem xW {n} (hW : tw (F 45)) (hA : jD n (F 57)) : jD (n + 1) (aC F G0 dU) := by
 intro st t hp hd
 rw [aL rfl]
 unfold dU
 cases t with
 | non =>
  have h1 : rY .tuple .non = false := rfl
  walk_at "wq"
 | bl b => exact absurd hp (by simp [plain])
 | int i =>
  have h1 : rY .tuple (.int i) = false := rfl
  have h2 : rY .str (.int i) = false := rfl
  have h3 := fun st => hW st i
  walk_at "wq"
 | str z =>
  have h1 : rY .tuple (.str z) = false := rfl
  have h2 : rY .str (.str z) = true := rfl
  walk_at "wq"
 | lst xs => exact absurd hp (by simp [plain])
 | tup xs =>
  have h1 : rY .tuple (.tup xs) = true := rfl
  simp only [plain, Bool.and_eq_true, decide_eq_true_eq] at hp
  have hl := hp.2
  walk_at "wq"
  generalize hX : aa _ _ _ _ _ = X
  obtain ⟨_, _, ⟨rfl, rfl⟩, rfl⟩ := cq hX (fun i a σ => a = List.replicate i (T.bl true) ∧ st = σ) ⟨rfl, rfl⟩ (by
   rintro i x a σ hx ⟨rfl, rfl⟩
   obtain ⟨hi, rfl⟩ := gw hx
   have e1 : dj xs i = some xs[i] := cj (by omega) (by simp)
   have hx := iG hp.1 (List.getElem?_eq_getElem hi)
   have hy := lU (List.getElem?_eq_getElem hi)
   have A0 := fun st => hA st _ hx (by simp only [cS] at hd; omega)
   refine ah rfl ?_
   walk_at "wq"
   exact ⟨_, _, rfl, by rw [← List.replicate_succ, List.replicate_succ']; rfl, rfl⟩)
  rw [cr]
  have hb := Dw (n := xs.length) (st := st ++ [some _]) bK
  walk_at "wq"
structure fw (Ds : Nat → Option ce) : Prop where
 h0 : Ds 0 = some ca
 h1 : Ds 1 = some dI
 h2 : Ds 2 = some bW
 h3 : Ds 3 = some gH
 h4 : Ds 4 = some fF
 h5 : Ds 5 = some ez
 h6 : Ds 6 = some dY
 h7 : Ds 7 = some dg
 h8 : Ds 8 = some cJ
 h9 : Ds 9 = some dZ
 h11 : Ds 11 = some dL
section
variable {Ds : Nat → Option ce} (H : fw Ds) (n : Nat)
include H
theorem fw.cell : pM (run G0 Ds (n + 1) 0) := up H.h0 A8
theorem fw.take : cm (run G0 Ds (n + 1) 1) := up H.h1 Ac
theorem fw.far : vm (run G0 Ds (n + 2) 3) := up H.h3 (C2 (H.take n))
theorem fw.money : ii (run G0 Ds (n + 3) 5) := up H.h5 (wA (H.take _) (H.far n))
theorem fw.some : ot (run G0 Ds (n + 2) 2) := up H.h2 (Av (H.take n))
theorem fw.names : di (run G0 Ds (n + 2) 6) := up H.h6 (xu (H.take n))
theorem fw.book : ud (run G0 Ds (n + 5) 11) := up H.h11 (Ax (H.cell _) (H.take _) (H.far _) (H.money _) (up H.h4 (BP (H.take _))) (H.names _) (up H.h7 (vy (H.take _) (H.money n) (H.some _) (H.names _))) (up H.h8 (qP (H.take _) (H.far _) (H.money n) (H.some _) (H.names _))) (up H.h9 (xF (H.take _))))
end
theorem pB (h : Ds 45 = some ee) (h2 : Ds 57 = some dU) : ∀ (d n : Nat), jD d (run G0 Ds (n + d + 1) 57)
 | 0, n => fun st t _ hd => absurd hd (Nat.not_lt_zero _)
 | d + 1, n => up h2 (xW (up h xM) (pB h h2 d n))
theorem av {α : Type} {step} {f} {st} {X} {l : List α} (h : aa [] step (l.map f) [] st = X) (g : α → Option T) (hp : ∀ a ∈ l, Wl (step (f a) st) fun o σ => o = g a ∧ st = σ) : X = .ok (l.filterMap g) st := by
 obtain ⟨_, _, ⟨rfl, rfl⟩, e⟩ := cq h (fun i ys σ => ys = (l.take i).filterMap g ∧ st = σ) ⟨rfl, rfl⟩ (by
  rintro i x a σ hx ⟨rfl, rfl⟩
  obtain ⟨a, hi, hm, hl, rfl⟩ := dD hx
  obtain ⟨o, σ, e, rfl, rfl⟩ := hp a hm
  exact ⟨_, _, e, by rw [da hi, List.filterMap_append]; rfl, rfl⟩)
 simp_all
theorem uO {step} {st} (P : aG → Prop) (Q : T → Prop) (R : W → Prop) : ∀ {xs} {ρ} {X}, aM [] step xs ρ st = X → P ρ → (∃ x ∈ xs, Q x) → (∀ x ∈ xs, ∀ ρ, P ρ → Wl (step x ρ st) fun o σ => st = σ ∧ (¬ Q x ∧ o.1 = .nx ∧ P o.2 ∨ ∃ w, o.1 = .rt w ∧ R w)) → ∃ w ρ', R w ∧ X = .ok (.rt w, ρ') st
 | [], _, _, _, _, ⟨_, h, _⟩, _ => nomatch h
 | x :: xs, ρ, _, h, p, ⟨y, hy, q⟩, hp => by
  obtain ⟨⟨f, ρ'⟩, _, e, rfl, h1⟩ := hp x List.mem_cons_self ρ p
  simp only [aM] at h
  rw [e] at h
  rcases h1 with ⟨n, rfl, p'⟩ | ⟨w, rfl, r⟩
  · refine uO P Q R h p' ⟨y, ?_, q⟩ fun x hx => hp x (List.mem_cons_of_mem _ hx)
    rcases List.mem_cons.mp hy with rfl | hy
    · exact absurd q n
    · exact hy
  · exact ⟨w, ρ', r, h.symm⟩
def sj (ys : List T) (st : ae) : ak W := uE ys st
def ET (F : FT) (G : List T) (ix : List (Option Nat)) (t : Tg) (k : Ik) (ifs : List E) (el : E) (ρ : aG) (ws : List W) (st : ae) : ak W := match items k ws st with
 | some (xs, gs) => if xs.length ≤ 1000 then (aa gs (aW F G ix t ifs el ρ) xs [] st).bind sj else .bad
 | none => .bad
def uw (ys : List T) (st : ae) : ak W := .ok (.d (.tup ys)) st
def F0 (F : FT) (G : List T) (ix : List (Option Nat)) (t : Tg) (k : Ik) (ifs : List E) (el : E) (ρ : aG) (ws : List W) (st : ae) : ak W := match items k ws st with
 | some (xs, gs) => if xs.length ≤ aZ then (aa gs (aW F G ix t ifs el ρ) xs [] st).bind uw else .bad
 | none => .bad
theorem ints_map : ∀ ns, aK (ns.map T.int) = some ns
 | [] => rfl
 | n :: ns => by
  show (aK _).map _ = _
  rw [ints_map ns]; rfl
theorem eh (p : Str) : ∀ cs : List _, ((cs.map T.str).any fun y => eqT y (.str p)) = decide (p ∈ cs)
 | [] => rfl
 | c :: cs => by
  rw [List.map_cons, List.any_cons, eh p cs]
  show (c == p || _) = _
  rw [Bool.beq_eq_decide_eq, ← Bool.decide_or]
  congr 1
  rw [List.mem_cons, @eq_comm _ p c]
section
variable {F : FT} {G : List T} {st : ae} {ρ : aG} {N : List Str} {ix : List (Option Nat)} {t : Tg} {k : Ik} {src ifs : List E} {el : E}
theorem jE : nV o x y st = bh o x y st := Eq.trans rfl rfl
theorem j5 : aj F G (.bin o a b) ρ st = (aj F G a ρ st).bind (tR F G o b ρ) := Eq.trans rfl rfl
theorem yq : aj F G (.lsc N ix t k src ifs el) ρ st = (a8 F G src ρ st).bind (ET F G ix t k ifs el ρ) := rfl
theorem wx : aj F G (.gen .tuple N ix t k src ifs el) ρ st = (a8 F G src ρ st).bind (F0 F G ix t k ifs el ρ) := rfl
theorem oQ : uE (ns.map T.int) st = .ok (.d (.int (eT ns).length)) st := by
 unfold uE
 rw [ints_map]
theorem wC (h : ns.length < 63) : Gz (.d (.lst (ns.map T.int))) st = .ok (.ref st.length) (st ++ [some ((eT ns).map T.int)]) := by
 show (match aK _ with | some ns => if ns.length < 63 then fresh _ st else .bad | none => .bad) = _
 rw [ints_map]
 exact if_pos h
theorem wW {α : Type} {a b : α} {xs : List T} (h : xs.length ≤ 1000) : (if xs.length ≤ 1000 then a else b) = a := if_pos h
theorem Gy : bX none = .non := rfl
theorem Gr {d : Int} : bX (some d) = .int d := rfl
theorem oY {xs : List T} : items .enm [.d (.tup xs)] st = some (xs.zipIdx.map fun q => .tup [.int q.2, q.1], []) := rfl
theorem i6 {cs : List _} : bg .mem (.d (.str p)) (.d (.tup (cs.map T.str))) st = .ok (.d (.bl (decide (p ∈ cs)))) st := cV (by
 show (if aP _ && (cs.map _).all _ then some _ else none) = _
 rw [eh, List.all_map, show cs.all (aP ∘ T.str) = true from List.all_eq_true.mpr fun _ _ => rfl]
 rfl)
theorem oW : bg .eq (.d (bX o)) (.d (.int d)) st = .ok (.d (.bl (decide (o = some d)))) st := by
 cases o with
 | none => rfl
 | some e =>
  rw [show decide _ = decide (e = d) by simp]
  exact w_eq
end
local macro_rules | `(tactic| walk_at "cq") => do { let ls ← ((I.ws (Hd.CI ++ " jE j5 kS lF lQ lR lj kM mn mj k8 kP lv p9 rq lH t6 uB kR lG lK kL k7 l6 yq ET sj wx F0 uw oQ i6 oW Gy Gr wC oY wW List.all_cons List.all_nil Bool.and_self and_true")).mapM fun n => `(Lean.Parser.Tactic.simpLemma| $(Lean.mkIdent n):term)); `(tactic| simp (disch := walk_at "dq") only [$[$ls:simpLemma],*, *]) }
theorem gr {α β : Type} (h : α → Bool) (f : α → β) : ∀ l : List α, l.filterMap (fun x => if h x then some (f x) else none) = (l.filter h).map f
 | [] => rfl
 | x :: l => by
  rw [List.filterMap_cons, List.filter_cons, gr h f l]
  cases h x <;> rfl
def gd (zs : List (ab × Option Int)) (d : Int) : List ab := zs.filterMap fun z => if z.2 = some d then some z.1 else none
def eU (P : ab → Bool) (zs : List (ab × Option Int)) : List Int := zs.filterMap fun z => if P z.1 then z.2 else none
theorem nN : d ∈ eU P zs ↔ ∃ z ∈ zs, P z.1 = true ∧ z.2 = some d := by
 unfold eU
 simp
theorem tU : (eU P zs).length ≤ zs.length := List.length_filterMap_le _ _
theorem n4 : (gd zs d).length ≤ zs.length := List.length_filterMap_le _ _
theorem uM {zs} {d} : (gd zs d).any P = true ↔ d ∈ eU P zs := by
 rw [nN, List.any_eq_true]
 constructor
 · rintro ⟨s, h, p⟩
   obtain ⟨z, hz, e⟩ := List.mem_filterMap.mp h
   split at e
   · cases e; exact ⟨z, hz, p, by assumption⟩
   · cases e
 · rintro ⟨z, hz, p, e⟩
   exact ⟨z.1, List.mem_filterMap.mpr ⟨z, hz, if_pos e⟩, p⟩
theorem tW : zs.filterMap (fun z => if P z.1 then z.2.map T.int else none) = (eU P zs).map T.int := by
 unfold eU
 rw [List.map_filterMap]
 congr 1
 funext z
 cases P _ <;> rfl
theorem Cs.in {os} (h : Cs b os) {P} : ∀ d ∈ eU P (b.scenes.zip os), 0 ≤ d ∧ d < b.days.length := fun d hd => by
 obtain ⟨z, hz, _, e⟩ := nN.mp hd
 exact h.days _ (List.of_mem_zip hz).2 d e
def jN (f : FW) : Prop := ∀ (st : ae) (b : aH) (os : List (Option Int)) (d : Int), Cs b os → f [.d b.t, .d (ag os), .d (.int d)] st = .ok (.d (.lst ((gd (b.scenes.zip os) d).map ab.t))) st
theorem yg : jN (aC F G0 gf) := by
 intro st b os d h
 have hz := h.z8
 rw [aL rfl]
 unfold gf
 walk_at "cq"
 generalize hX : aa _ _ _ _ _ = X
 have e := av hX (fun z => if z.2 = some d then some z.1.t else none) (by
  rintro ⟨s, o⟩ _
  refine ah rfl ?_
  by_cases ho : o = some d
  · have := decide_eq_true ho
    rw [if_pos ho]
    clear ho
    walk_at "cq"
    exact ⟨_, _, rfl, rfl, rfl⟩
  · walk_at "cq"
    exact ⟨_, _, rfl, rfl, rfl⟩)
 have e2 : (b.scenes.zip os).filterMap (fun z => if z.2 = some d then some z.1.t else none) = (gd (b.scenes.zip os) d).map ab.t := by
  unfold gd
  rw [List.map_filterMap]
  simp
 walk_at "cq"
def BN (f : FW) : Prop := ∀ (α : Type) (l : List α) (row : α → T) (nm : α → Str), (∀ a st, fN (.d (row a)) (.d (.int 0)) st = .ok (.d (.str (nm a))) st) → ∀ a ∈ l, ∀ st, ∃ i x, l[i]? = some x ∧ nm x = nm a ∧ f [.d (.tup (l.map row)), .d (.str (nm a))] st = .ok (.d (.int (i : Nat))) st
theorem zG {F : FT} : BN (aC F G0 dM) := by
 intro α l row nm hr a ha st
 obtain ⟨n, hn⟩ : ∃ n, nm a = n := ⟨_, rfl⟩
 obtain ⟨j, hj, hja⟩ := List.mem_iff_getElem.mp ha
 rw [hn, aL rfl]
 have zi : ∀ x, x ∈ ((l.map row).zipIdx.map fun q => T.tup [.int (q.2 : Nat), q.1]) → ∃ (i : Nat) (a : α), l[i]? = some a ∧ x = .tup [.int i, row a] := by
  intro x hx
  obtain ⟨⟨t, i⟩, hq, rfl⟩ := List.mem_map.mp hx
  obtain ⟨c, h1, _, _, h2⟩ := dD (List.mk_mem_zipIdx_iff_getElem?.mp hq)
  exact ⟨i, c, h1, by rw [h2]⟩
 unfold dM
 walk_at "cq"
 generalize hX : aM _ _ _ _ _ = X
 obtain ⟨w, ρ', ⟨i, x, h1, h2, rfl⟩, rfl⟩ := uO (fun ρ => ∃ x2 x3, ρ = [some _, some _, x2, x3]) (fun x => x = .tup [.int j, row a]) (fun w => ∃ (i : Nat) (x : α), l[i]? = some x ∧ nm x = n ∧ w = .d (.int i)) hX ⟨_, _, rfl⟩ ⟨_, List.mem_map.mpr ⟨_, List.mk_mem_zipIdx_iff_getElem?.mpr (by simp_all), rfl⟩, rfl⟩ (by
  rintro x hx _ ⟨x2, x3, rfl⟩
  obtain ⟨i, c, hi, rfl⟩ := zi x hx
  refine ba rfl ?_
  by_cases hc : nm c = n
  · walk_at "cq"
    exact ⟨_, _, rfl, rfl, .inr ⟨_, rfl, i, c, hi, hc, rfl⟩⟩
  · walk_at "cq"
    refine ⟨_, _, rfl, rfl, .inl ⟨?_, rfl, _, _, rfl⟩⟩
    intro e
    have hij : i = j := by injection e with e; injection e with e _; injection e with e; omega
    simp_all)
 refine ⟨i, x, h1, h2, ?_⟩
 walk_at "cq"
theorem oh {α : Type} {l : List α} {nm} (hu : dR (l.map nm)) {i j : Nat} {a c} (hi : l[i]? = some a) (hj : l[j]? = some c) (h : nm a = nm c) : a = c := by
 obtain ⟨i1, i2⟩ := List.getElem?_eq_some_iff.mp hi
 obtain ⟨j1, j2⟩ := List.getElem?_eq_some_iff.mp hj
 obtain rfl : i = j := hu i j (by simp_all) (by simp_all) (by simp_all)
 rw [← i2, ← j2]
theorem tq {α : Type} {l : List α} {row : α → T} {i : Nat} {a} (h : l[i]? = some a) : dj (l.map row) i = some (row a) := cj (by omega) (by simp_all)
theorem n3 (h : n ≤ 1000) : n ≤ aZ := Nat.le_trans h (by decide)
theorem bD {α β : Type} (f : α → β) : ∀ l : List α, l.filterMap (fun x => some (f x)) = l.map f
 := by simp
theorem fq : ∀ L, (eT L).length ≤ L.length
 | [] => Nat.le_refl _
 | x :: r => by
  have ins : ∀ l, (insI x l).length ≤ l.length + 1 := by
   intro l
   induction l with
   | nil => exact Nat.le_refl _
   | cons z r ih =>
    unfold insI
    split
    · exact Nat.le_refl _
    · split
      · exact Nat.le_succ _
      grind
  exact Nat.le_trans (ins _) (Nat.succ_le_succ (fq r))
def zr (f : FW) : Prop := ∀ (st : ae) (b : aH), bE 8 8 b → ∀ a ∈ b.places, ∃ i : Nat, b.places[i]? = some a ∧ f [.d b.t, .d (.str a.name)] st = .ok (.d (.int i)) st
theorem ES (hN : BN (F 10)) : zr (aC F G0 fe) := by
 intro st b hb a ha
 obtain ⟨i, x, h1, h2, e⟩ := hN _ _ Place.t _ (fun _ _ => rfl) a ha st
 obtain ⟨j, hj⟩ := List.mem_iff_getElem?.mp ha
 cases oh hb.unl.1 h1 hj h2
 refine ⟨i, h1, ?_⟩
 rw [aL rfl]
 unfold fe
 walk_at "cq"
def pC (f : FW) : Prop := ∀ (st : ae) (b : aH), bE 8 8 b → ∀ a ∈ b.places, f [.d b.t, .d (.str a.name)] st = .ok (.d a.t) st
theorem Ey (hA : zr (F 16)) : pC (aC F G0 cO) := by
 intro st b hb a ha
 obtain ⟨i, h1, e⟩ := hA st b hb a ha
 have := tq (row := Place.t) h1
 rw [aL rfl]
 unfold cO
 walk_at "cq"
def yV (f : FW) : Prop := ∀ (st : ae) (b : aH), bE 8 8 b → ∀ a ∈ b.players, ∃ i : Nat, b.players[i]? = some a ∧ f [.d b.t, .d (.str a.name)] st = .ok (.d (.int i)) st
theorem DJ (hN : BN (F 10)) : yV (aC F G0 dJ) := by
 intro st b hb a ha
 obtain ⟨i, x, h1, h2, e⟩ := hN _ _ ao.t _ (fun _ _ => rfl) a ha st
 obtain ⟨j, hj⟩ := List.mem_iff_getElem?.mp ha
 cases oh hb.unl.2.1 h1 hj h2
 refine ⟨i, h1, ?_⟩
 rw [aL rfl]
 unfold dJ
 walk_at "cq"
def pq (f : FW) : Prop := ∀ (st : ae) (b : aH), bE 8 8 b → ∀ a ∈ b.players, f [.d b.t, .d (.str a.name)] st = .ok (.d a.t) st
theorem DK (hA : yV (F 19)) : pq (aC F G0 cC) := by
 intro st b hb a ha
 obtain ⟨i, h1, e⟩ := hA st b hb a ha
 have := tq (row := ao.t) h1
 rw [aL rfl]
 unfold cC
 walk_at "cq"
def iN (b : aH) (os : List (Option Int)) (p : Str) : List Int := eT (eU (fun s => decide (p ∈ s.cast)) (b.scenes.zip os))
def pk (b : aH) (os : List (Option Int)) (p : Str) : List Int := eT (eU (fun s => decide (s.place = p)) (b.scenes.zip os))
def bj (os : List (Option Int)) : List Int := eT (os.filterMap id)
theorem Cs.set {os} (h : Cs b os) (P : ab → Bool) : (eT (eU P (b.scenes.zip os))).length ≤ 8 := Nat.le_trans (fq _) (Nat.le_trans tU h.z8)
def pJ (f : FW) : Prop := ∀ (st : ae) (b : aH) (os : List (Option Int)) (p : Str), Cs b os → f [.d b.t, .d (ag os), .d (.str p)] st = .ok (.d (.tup ((iN b os p).map T.int))) st
theorem sZ : pJ (aC F G0 ip) := by
 intro st b os p h
 have hz := h.z8
 rw [aL rfl]
 unfold ip
 walk_at "cq"
 generalize hX : aa _ _ _ _ _ = X
 have e := av hX (fun z => if decide (p ∈ z.1.cast) then z.2.map _ else none) (by
  rintro ⟨s, o⟩ _
  refine ah rfl ?_
  by_cases hq : p ∈ s.cast <;> cases o <;> (walk_at "cq"; exact ⟨_, _, rfl, rfl, rfl⟩))
 rw [tW (P := fun s => decide (p ∈ s.cast))] at e
 have hl := Nat.le_trans (tU (P := fun s => decide (p ∈ s.cast))) hz
 unfold iN
 walk_at "cq"
theorem yC {xs ys : List T} {st} (h : xs.length + ys.length ≤ 1000) : ql (.ref st.length) (.ref (st.length + 1)) (st ++ [some xs, some ys]) = .ok (.d .non) (st ++ [some (xs ++ ys), some ys]) := by
 have e2 : (st ++ [some xs, some ys])[st.length + 1]? = some (some ys) := by rw [cH]; rfl
 unfold ql
 dsimp only
 rw [bK, e2]
 dsimp only
 rw [if_pos (n3 h), iD]
theorem jA (h : D ≠ []) : ∃ m M, D.head? = some m ∧ D.getLast? = some M ∧ m ∈ D ∧ M ∈ D ∧ dj (D.map T.int) 0 = some (.int m) ∧ dj (D.map T.int) (-1) = some (.int M) ∧ ∀ st, aT (.d (.tup (D.map T.int))) st = some true := by
 cases D with
 | nil => exact absurd rfl h
 | cons m r =>
  refine ⟨m, _, rfl, List.getLast?_eq_some_getLast h, List.mem_cons_self, List.getLast_mem h, cj (by decide) rfl, ?_, fun _ => rfl⟩
  have e : pi ((m :: r).map T.int).length (-1) = some r.length := by
   unfold pi
   rw [List.length_map, List.length_cons, if_neg (by decide), if_pos (by omega)]
   congr 1
   omega
  unfold dj
  rw [e]
  show ((m :: r).map _)[r.length]? = _
  rw [List.getElem?_map, List.getElem?_eq_getElem, List.getLast_eq_getElem]
  rfl
def Ab (D : List Int) (p : ao) : T := match D.head?, D.getLast? with
 | some m, some M => .tup [.int m, .int M, .int D.length, .int (M - m + 1 - D.length), .int (p.pay * D.length + p.hold * (M - m + 1 - D.length))]
 | _, _ => .non
def D8 (f : FW) : Prop := ∀ (st : ae) (b : aH) (os : List (Option Int)), Cs b os → ∀ a ∈ b.players, f [.d b.t, .d (ag os), .d (.str a.name)] st = .ok (.d (Ab (iN b os a.name) a)) st
theorem E8 (hC : pJ (F 15)) (hP : pq (F 24)) : D8 (aC F G0 io) := by
 intro st b os h a ha
 have C0 := fun st => hC st b os a.name h
 have P0 : ∀ st, F 24 _ st = .ok (.d (.tup _)) st := fun st => hP st b h.ok a ha
 have hb : ∀ d ∈ iN b os a.name, 0 ≤ d ∧ d < b.days.length := fun d hd => h.in d ((cb d _).mp hd)
 have hl : (iN b os a.name).length ≤ 8 := h.set _
 have d8 := h.d8
 rw [aL rfl]
 unfold io Ab
 generalize iN b os _ = D at *
 by_cases hD : D = []
 · subst hD
   have t0 : ∀ st, aT (.d (.tup [])) st = some false := fun _ => rfl
   show _ = ak.ok (W.d .non) st
   walk_at "cq"
 · obtain ⟨m, M, h1, h2, h3, h4, i0, il, tr⟩ := jA hD
   obtain ⟨b1, b2⟩ := hb m h3
   obtain ⟨b3, b4⟩ := hb M h4
   walk_at "cq"
def tQ (D : List Int) (p : Place) : List T := [.int D.length, .int (D.length * p.rent)]
def yL (f : FW) : Prop := ∀ (st : ae) (b : aH) (os : List (Option Int)), Cs b os → ∀ a ∈ b.places, f [.d b.t, .d (ag os), .d (.str a.name)] st = .ok (.d (.tup (tQ (pk b os a.name) a))) st
theorem Cw (hP : pC (F 17)) : yL (aC F G0 fQ) := by
 intro st b os h a ha
 have P0 : ∀ st, F 17 _ st = .ok (.d (.tup _)) st := fun st => hP st b h.ok a ha
 have hz := h.z8
 have hl : (pk b os a.name).length ≤ 8 := h.set _
 have eu : (eT (eU (fun s => decide (s.place = a.name)) _)).length = (pk b os _).length := rfl
 rw [aL rfl]
 unfold fQ tQ
 walk_at "cq"
 generalize hX : aa _ _ _ _ _ = X
 have e := av hX (fun z => if decide (z.1.place = a.name) then z.2.map _ else none) (by
  rintro ⟨s, o⟩ _
  refine ah rfl ?_
  by_cases hq : s.place = a.name <;> cases o <;> (walk_at "cq"; exact ⟨_, _, rfl, rfl, rfl⟩))
 rw [tW (P := fun s => decide (s.place = a.name))] at e
 walk_at "cq"
def vn (f : FW) : Prop := ∀ (st : ae) (os : List (Option Int)), os.length ≤ 8 → f [.d (ag os)] st = .ok (.d (.int (bj os).length)) st
theorem sE : vn (aC F G0 dO) := by
 intro st os h
 rw [aL rfl]
 unfold dO
 walk_at "cq"
 generalize hX : aa _ _ _ _ _ = X
 have e := av hX (fun o => o.map _) (by
  rintro o _
  refine ah rfl ?_
  cases o <;> (walk_at "cq"; exact ⟨_, _, rfl, rfl, rfl⟩))
 rw [show os.filterMap _ = (os.filterMap id).map _ by rw [List.map_filterMap]; rfl] at e
 unfold bj
 walk_at "cq"
def jf (D : List Int) (p : Place) : T := .tup [.str "place", .str p.name, .int D.length, .int (D.length * p.rent)]
def jp (D : List Int) (p : ao) : T := match D.head?, D.getLast? with
 | some m, some M => .tup [.str "player", .str p.name, .int D.length, .int (M - m + 1 - D.length), .int (p.pay * D.length + p.hold * (M - m + 1 - D.length))]
 | _, _ => .tup [.str "player", .str p.name, .int 0, .int 0, .int 0]
def t7 (f : FW) : Prop := ∀ (st : ae) (b : aH) (os : List (Option Int)), Cs b os → ∀ a ∈ b.places, f [.d b.t, .d (ag os), .d (.str a.name)] st = .ok (.d (jf (pk b os a.name) a)) st
theorem xg (hR : yL (F 25)) : t7 (aC F G0 dh) := by
 intro st b os h a ha
 have R0 := fun st => hR st b os h a ha
 unfold tQ at R0
 have l4 : 2 + 2 ≤ aZ := by decide
 rw [aL rfl]
 unfold dh jf
 walk_at "cq"
def ny (f : FW) : Prop := ∀ (st : ae) (b : aH) (os : List (Option Int)), Cs b os → ∀ a ∈ b.players, f [.d b.t, .d (ag os), .d (.str a.name)] st = .ok (.d (jp (iN b os a.name) a)) st
theorem v3 (hP : D8 (F 23)) : ny (aC F G0 cR) := by
 intro st b os h a ha
 have P0 := fun st => hP st b os h a ha
 unfold Ab at P0
 rw [aL rfl]
 unfold cR jp
 generalize iN b os _ = D at *
 by_cases hD : D = []
 · subst hD
   have P1 : ∀ st, F 23 _ st = .ok (.d .non) st := P0
   clear P0
   show _ = ak.ok (W.d (.tup _)) st
   walk_at "cq"
 · obtain ⟨m, M, h1, h2, _⟩ := jA hD
   walk_at "cq"
def uV (D : List Int) (b : aH) : T := .tup [.str "crew", .int D.length, .int (D.length * b.crew)]
def oE (b : aH) (os : List (Option Int)) : List T := uV (bj os) b :: (b.places.map (fun a => jf (pk b os a.name) a) ++ b.players.map (fun a => jp (iN b os a.name) a))
def rL (f : FW) : Prop := ∀ (st : ae) (b : aH) (os : List (Option Int)), Cs b os → f [.d b.t, .d (ag os)] st = .ok (.ref st.length) (st ++ [some (oE b os)])
theorem AU (hS : vn (F 28)) (hL : t7 (F 29)) (hP : ny (F 30)) : rL (aC F G0 nu) := by
 intro st b os h
 have o8 : os.length ≤ 8 := by have := h.s8; have := h.len; omega
 have S0 := fun st => hS st os o8
 have hl : (bj os).length ≤ 8 := Nat.le_trans (fq _) (Nat.le_trans (List.length_filterMap_le _ _) o8)
 have p8 := h.ok.p8
 have q8 := h.ok.q8
 rw [aL rfl]
 unfold nu oE uV
 walk_at "cq"
 generalize hX : aa _ _ _ _ _ = X
 have e := av hX _ (by
  intro a ha
  have L0 := fun st => hL st b os h a ha
  refine ah rfl ?_
  walk_at "cq"
  exact ⟨_, _, rfl, rfl, rfl⟩)
 rw [bD] at e
 have x1 := fun c => yC (st := st) (xs := [c]) (ys := b.places.map fun a => jf (pk b os a.name) a) (by rw [List.length_map]; show 1 + _ ≤ _; omega)
 walk_at "cq"
 generalize hX : aa _ _ _ _ _ = X
 have e := av hX _ (by
  intro a ha
  have L0 := fun st => hP st b os h a ha
  refine ah rfl ?_
  walk_at "cq"
  exact ⟨_, _, rfl, rfl, rfl⟩)
 rw [bD] at e
 have x2 := fun c => yC (st := st) (xs := c :: b.places.map fun a => jf (pk b os a.name) a) (ys := b.players.map fun a => jp (iN b os a.name) a) (by rw [List.length_cons, List.length_map, List.length_map]; omega)
 walk_at "cq"
def Ff (ys : List T) (st : ae) : ak W := match GB .sum ys with
 | some t => .ok (.d t) st
 | none => .bad
def Gp (F : FT) (G : List T) (ix : List (Option Nat)) (t : Tg) (k : Ik) (ifs : List E) (el : E) (ρ : aG) (ws : List W) (st : ae) : ak W := match items k ws st with
 | some (xs, gs) => if xs.length ≤ aZ then (aa gs (aW F G ix t ifs el ρ) xs [] st).bind Ff else .bad
 | none => .bad
section
variable {F : FT} {G : List T} {st : ae} {ρ : aG} {N : List Str} {ix : List (Option Nat)} {t : Tg} {k : Ik} {src ifs : List E} {el : E} {ns : List Int}
theorem z7 : aj F G (.gen .sum N ix t k src ifs el) ρ st = (a8 F G src ρ st).bind (Gp F G ix t k ifs el ρ) := rfl
theorem su : Ff (ns.map T.int) st = .ok (.d (.int ns.sum)) st := by
 show (match (aK _).map fun ns => T.int _ with | some t => ak.ok _ st | none => .bad) = _
 rw [ints_map]
 rfl
theorem tK : gq .sum [.d (.lst (ns.map T.int))] st = .ok (.d (.int ns.sum)) st := by
 show (match (aK (ns.map T.int)).map (fun ns => T.int ns.sum) with | some t => fresh t st | none => .bad) = _
 rw [ints_map]
 rfl
end
local macro_rules | `(tactic| walk_at "fq") => do { let ls ← ((I.ws (Hd.CI ++ " jE j5 kS lF lQ lR lj kM mn mj k8 kP lv p9 rq lH t6 uB kR lG lK kL k7 l6 yq ET sj wx F0 uw oQ i6 oW Gy Gr wC oY wW List.all_cons List.all_nil Bool.and_self and_true z7 Gp su tK and_self true_and")).mapM fun n => `(Lean.Parser.Tactic.simpLemma| $(Lean.mkIdent n):term)); `(tactic| simp (disch := walk_at "dq") only [$[$ls:simpLemma],*, *]) }
def nU (D : List Int) (p : ao) : Int := match D.head?, D.getLast? with
 | some m, some M => p.pay * D.length + p.hold * (M - m + 1 - D.length)
 | _, _ => 0
def iK (b : aH) (os : List (Option Int)) : List (T × Int) := (uV (bj os) b, (bj os).length * b.crew) :: (b.places.map (fun a => (jf (pk b os a.name) a, ((pk b os a.name).length : Int) * a.rent)) ++ b.players.map (fun a => (jp (iN b os a.name) a, nU (iN b os a.name) a)))
theorem p7 (b : aH) (os : List _) : (iK b os).map (·.1) = oE b os := by
 unfold iK oE
 rw [List.map_cons, List.map_append, List.map_map, List.map_map]
 rfl
theorem mN {os} : ∀ p ∈ iK b os, ∀ st, fN (.d p.1) (.d (.int (-1))) st = .ok (.d (.int p.2)) st := by
 intro p hp st
 rcases List.mem_cons.mp hp with rfl | hp
 · rfl
 · rcases List.mem_append.mp hp with h | h
   · obtain ⟨a, _, rfl⟩ := List.mem_map.mp h
     rfl
   · obtain ⟨a, _, rfl⟩ := List.mem_map.mp h
     unfold jp nU
     cases (iN b os _).head? <;> cases (iN b os _).getLast? <;> rfl
def fB (b : aH) (os : List (Option Int)) : Int := ((iK b os).map (·.2)).sum
def sn (f : FW) : Prop := ∀ (st : ae) (b : aH) (os : List (Option Int)), Cs b os → f [.d b.t, .d (ag os)] st = .ok (.d (.int (fB b os))) st
theorem Bq (hB : rL (F 31)) : sn (aC F G0 mK) := by
 intro st b os h
 have B0 := fun st => hB st b os h
 have hl : (iK b os).length ≤ 1000 := by
  have := h.ok.p8
  have := h.ok.q8
  unfold iK
  rw [List.length_cons, List.length_append, List.length_map, List.length_map]
  omega
 have hx := mN (b := b) (os := os)
 rw [← p7] at B0
 unfold fB
 rw [aL rfl]
 unfold mK
 walk_at "fq"
 generalize hX : aa _ _ _ _ _ = X
 have e := av hX _ (by
  intro p hp
  refine ah rfl ?_
  walk_at "fq"
  exact ⟨_, _, rfl, rfl, rfl⟩)
 rw [bD, show (fun p : T × Int => T.int _) = T.int ∘ (·.2) from rfl, ← List.map_map] at e
 walk_at "fq"
theorem ij : ∀ {A B : List Int}, A.Pairwise (· < ·) → B.Pairwise (· < ·) → (∀ x ∈ A, x ∈ B) → A.length ≤ B.length
 | [], _, _, _, _ => Nat.zero_le _
 | x :: A, [], _, _, h => nomatch h x List.mem_cons_self
 | x :: A, y :: B, ha, hb, h => by
  obtain ⟨a1, a2⟩ := List.pairwise_cons.mp ha
  obtain ⟨b1, b2⟩ := List.pairwise_cons.mp hb
  have hy : y ≤ x := by
   rcases List.mem_cons.mp (h x List.mem_cons_self) with e | e
   · omega
   · exact Int.le_of_lt (b1 x e)
  exact Nat.succ_le_succ (ij a2 b2 fun z hz => (List.mem_cons.mp (h z (List.mem_cons_of_mem _ hz))).resolve_left (by have := a1 z hz; omega))
theorem Fz : G0[2]? = some (.int 2) := rfl
theorem DQ : G0[5]? = some (.int 2) := rfl
theorem za {s : ab} {st} : fN (.d s.t) (.d (.int 2)) st = .ok (.d (.int s.length)) st := rfl
local macro_rules | `(tactic| walk_at "iq") => do { let ls ← ((I.ws (Hd.CI ++ " jE j5 uH vK yW DG JJ G6 kS lF lQ lR lj kM mn mj k8 kP lv p9 rq lH t6 uB kR lG lK kL k7 l6 yq ET sj wx F0 uw oQ i6 oW Gy Gr wC oY wW List.all_cons List.all_nil Bool.and_self and_true Fz DQ za z7 Gp su tK and_self true_and Cr")).mapM fun n => `(Lean.Parser.Tactic.simpLemma| $(Lean.mkIdent n):term)); `(tactic| simp (disch := walk_at "dq") only [$[$ls:simpLemma],*, *]) }
def fU : List Int → Int → Int → Int
 | [], _, m => m
 | h :: r, n, m => if n ≤ 0 then m else fU r (n - h) (m + 1)
def encD (d : Int × Int) : Int := d.1 * fg + d.2
def iu (ds : List (Int × Int)) : List Int := (bH (ds.map encD)).reverse.map (· / fg)
def gZ (b : aH) : Int := fU (iu b.days) (b.scenes.map (·.length)).sum 0
theorem sG {ds : List _} (h : ∀ d ∈ ds, jb d) : jC (ds.map iW) = some (ds.map encD) := by
 induction ds with
 | nil => rfl
 | cons d ds ih =>
  obtain ⟨h1, h2, h3, h4⟩ := h d List.mem_cons_self
  have hb : 0 ≤ d.2 ∧ d.2 < fg := ⟨h3, by unfold fg; omega⟩
  show (if 0 ≤ d.2 ∧ d.2 < fg then (jC _).map _ else none) = _
  rw [if_pos hb, ih fun d hd => h d (List.mem_cons_of_mem _ hd)]
  rfl
structure zu (b : aH) : Prop where
 days : ∀ d ∈ b.days, jb d
 d8 : b.days.length ≤ 8
 s8 : b.scenes.length ≤ 8
theorem bE.due (h : bE 8 8 b) : zu b := ⟨h.days, by have := h.d2; omega, by have := h.s8; omega⟩
theorem kY {F : FT} {bt : T} {st : ae} {body : List S} (hb : body = [.ifs (.cmp .le (.v 1) (.c (.int 0))) [.brk] [], .asg (.tp [4, 5]) (.v 3), .aug 1 .sub (.v 4), .aug 2 .add (.c (.int 1))]) : ∀ (ks : List _) (n m : Int) (x3 x4 x5 : Option W) (X : ak _), aM [] (dv F G0 (.nm 3) body) (ks.map pj) [some (.d bt), some (.d (.int n)), some (.d (.int m)), x3, x4, x5] st = X →
 ∃ n' y3 y4 y5, X = .ok (.nx, [some (.d bt), some (.d (.int n')), some (.d (.int (fU (ks.map (· / fg)) n m))), y3, y4, y5]) st
 | [], n, m, x3, x4, x5, X, h => ⟨n, x3, x4, x5, h.symm⟩
 | k :: ks, n, m, x3, x4, x5, X, h => by
  rw [List.map_cons] at h
  simp only [aM] at h
  show ∃ n' y3 y4 y5, X = .ok (.nx, [some _, some _, some (.d (.int (if n ≤ 0 then m else fU _ _ _))), y3, y4, y5]) st
  by_cases hn : n ≤ 0
  · have e : dv F G0 (.nm 3) body (pj k) [some (.d bt), some (.d (.int n)), some (.d (.int m)), x3, x4, x5] st = .ok (.bk, [some (.d bt), some (.d (.int n)), some (.d (.int m)), some (.d (pj k)), x4, x5]) st := by
     rw [gM rfl, hb]
     walk_at "iq"
    rw [e] at h
    rw [if_pos hn]
    exact ⟨_, _, _, _, h.symm⟩
  · have e : dv F G0 (.nm 3) body (pj k) [some (.d bt), some (.d (.int n)), some (.d (.int m)), x3, x4, x5] st = .ok (.nx, [some (.d bt), some (.d (.int (n - k / fg))), some (.d (.int (m + 1))), some (.d (pj k)), some (.d (.int (k / fg))), some (.d (.int (k % fg)))]) st := by
     rw [gM rfl, hb]
     unfold pj
     walk_at "iq"
    rw [e] at h
    rw [if_neg hn]
    exact kY hb ks _ _ _ _ _ X h
def Ao (f : FW) : Prop := ∀ (st : ae) (b : aH), zu b → f [.d b.t] st = .ok (.d (.int (gZ b))) st
theorem E6 : Ao (aC F G0 eY) := by
 intro st b h
 rw [aL rfl]
 unfold eY
 have s8 := h.s8
 have S0 : nh (.d (.tup (b.days.map iW))) st = .ok (.ref st.length) (st ++ [some ((bH (b.days.map encD)).reverse.map pj)]) := by
  show (match jC _ with | some ks => if (b.days.map _).length < 64 then fresh _ st else .bad | none => zL _ st) = _
  rw [sG h.days]
  show (if (b.days.map _).length < 64 then _ else _) = _
  rw [if_pos (by rw [List.length_map]; have := h.d8; omega)]
  rfl
 walk_at "iq"
 generalize hX : aa _ _ _ _ _ = X
 have e := av hX _ (by
  intro s hs
  refine ah rfl ?_
  walk_at "iq"
  exact ⟨_, _, rfl, rfl, rfl⟩)
 rw [bD, show (fun s : ab => T.int _) = T.int ∘ (·.length) from rfl, ← List.map_map] at e
 walk_at "iq"
 generalize hY : aM _ _ _ _ _ = Y
 obtain ⟨n', y3, y4, y5, rfl⟩ := kY rfl _ _ _ _ _ _ _ hY
 walk_at "iq"
 rfl
def yN (hs : List Int) : List Int := (bH hs).reverse
theorem uW (hs) : (yN hs).Perm hs := (List.reverse_perm _).trans (bQ hs)
theorem yc (hs) : (yN hs).length = hs.length := (uW hs).length_eq
theorem ll (h : ∀ d ∈ ds, jb d) : iu ds = yN (ds.map (·.1)) := by
 have p0 : 0 < fg := by decide
 unfold iu yN
 rw [List.map_reverse]
 congr 1
 refine cA (((bQ _).map _).trans (.trans (.of_eq ?_) (bQ _).symm)) ?_ (bG _)
 · rw [List.map_map]
   refine List.map_congr_left fun d hd => ?_
   obtain ⟨h1, h2, h3, h4⟩ := h d hd
   show (d.1 * fg + d.2) / fg = d.1
   rw [Int.add_comm, Int.add_mul_ediv_right _ _ (by omega), Int.ediv_eq_zero_of_lt h3 (by unfold fg; omega), Int.zero_add]
 · rw [List.pairwise_map]
   exact (bG _).imp fun h => Int.ediv_le_ediv p0 h
theorem AF {cs : List _} {st} : bg .mem (.d (.str p)) (.d (.lst (cs.map T.str))) st = .ok (.d (.bl (decide (p ∈ cs)))) st := cV (by
 show (if aP _ && (cs.map _).all _ then some _ else none) = _
 rw [eh, List.all_map, show cs.all (aP ∘ T.str) = true from List.all_eq_true.mpr fun _ _ => rfl]
 rfl)
theorem xB {cs : List _} {st} : bg .nmem (.d (.str p)) (.d (.lst (cs.map T.str))) st = .ok (.d (.bl !decide (p ∈ cs))) st := cV (by
 show (if aP _ && (cs.map _).all _ then some _ else none) = _
 rw [eh, List.all_map, show cs.all (aP ∘ T.str) = true from List.all_eq_true.mpr fun _ _ => rfl]
 rfl)
theorem jk {step} {st} {α : Type} (f : α → T) (g : α → List T) : ∀ {l : List α} {acc}, (acc ++ l.flatMap g).length ≤ aZ → (∀ a ∈ l, ∀ acc, acc.length + (g a).length ≤ aZ → step (f a) acc st = .ok (acc ++ g a) st) → bF [] step (l.map f) acc st = .ok (acc ++ l.flatMap g) st
 | [], acc, _, _ => by simp only [List.map_nil, bF]; rw [if_pos fk, List.flatMap_nil, List.append_nil]
 | a :: l, acc, hz, h => by
  rw [List.flatMap_cons, ← List.append_assoc] at hz
  simp only [List.map_cons, bF]
  rw [if_pos fk, h a List.mem_cons_self _ (by rw [List.length_append, List.length_append] at hz; omega), fA, jk f g hz fun b hb => h b (List.mem_cons_of_mem _ hb), List.flatMap_cons, List.append_assoc]
def cM (zs : List (ab × Option Int)) : List ab := zs.filterMap fun z => if z.2 = none then some z.1 else none
def cK (zs : List (ab × Option Int)) : List ab := zs.filterMap fun z => if z.2 = none then none else some z.1
def Ew (f : FW) : Prop := ∀ (st : ae) (ss : List ab), ss.length ≤ 8 → f [.d (.lst (ss.map ab.t))] st = .ok (.d (.lst ((ss.map (·.place)).map T.str))) st
theorem Gj : Ew (aC F G0 bw) := by
 intro st ss h
 rw [aL rfl]
 unfold bw
 walk_at "iq"
 generalize hX : aa _ _ _ _ _ = X
 have e := av hX _ (by
  intro s hs
  refine ah rfl ?_
  walk_at "iq"
  exact ⟨_, _, rfl, rfl, rfl⟩)
 rw [bD, show (fun s : ab => T.str _) = T.str ∘ (·.place) from rfl, ← List.map_map] at e
 walk_at "iq"
def Ed (f : FW) : Prop := ∀ (st : ae) (ss : List ab), ss.length ≤ 8 → (∀ s ∈ ss, s.cast.length ≤ 8) → f [.d (.lst (ss.map ab.t))] st = .ok (.d (.lst ((ss.flatMap (·.cast)).map T.str))) st
theorem u4 {ss : List ab} (h : ∀ s ∈ ss, s.cast.length ≤ 8) : (ss.flatMap (·.cast)).length ≤ 8 * ss.length := by
 induction ss with
 | nil => exact Nat.zero_le _
 | cons s ss ih =>
  have h1 := h s List.mem_cons_self
  have h2 := ih fun s hs => h s (List.mem_cons_of_mem _ hs)
  rw [List.flatMap_cons, List.length_append, List.length_cons]
  omega
theorem DP : Ed (aC F G0 bi) := by
 intro st ss h hc
 have hz : (ss.flatMap _).length ≤ 1000 := Nat.le_trans (u4 hc) (by omega)
 have hz2 : ((ss.flatMap (·.cast)).map T.str).length ≤ aZ := by rw [List.length_map]; exact n3 hz
 have ef : ss.flatMap (fun s => s.cast.map T.str) = (ss.flatMap (·.cast)).map T.str := by rw [List.map_flatMap]
 have hcp : aj F G0 (.cp2 ["scene", "player"] [none, none] [some 0, none] (.nm 0) .seq [.v 0] [] (.nm 1) .seq [.ix (.v 0) (.g 0)] [] (.v 1)) [some (.d (.lst (ss.map ab.t)))] st = .ok (.ref st.length) (st ++ [some ((ss.flatMap (·.cast)).map T.str)]) := by
  rw [E2 (by rfl) DL (by rw [List.length_map]; exact n3 (by omega))]
  rw [jk _ (fun s => s.cast.map T.str) (by simp_all) (by
   intro s _ acc hb
   show (if acc.length + (s.cast.map _).length ≤ aZ then _ else _) = _
   rw [if_pos hb]
   have go : ∀ (cs : List _) (acc : List T), aa [] (aW F G0 [some 0, none] (.nm 1) [] (.v 1) [some (.d s.t), none]) (cs.map T.str) acc st = .ok (acc ++ cs.map T.str) st := by
    intro cs
    induction cs with
    | nil => intro acc; simp only [List.map_nil, aa]; rw [if_pos fk, List.append_nil]
    | cons c cs ih =>
     intro acc
     have e2 : aW F G0 [some 0, none] (.nm 1) [] (.v 1) [some (.d s.t), none] (.str c) st = .ok (some (.str c)) st := by
      rw [r8 rfl]
      walk_at "iq"
     simp only [List.map_cons, aa]
     rw [if_pos fk, e2, fA]
     simp_all
   exact go _ _)]
  rw [fA, List.nil_append, ef, if_pos hz2]
  rfl
 rw [aL rfl]
 unfold bi
 walk_at "iq"
def yS (f : FW) : Prop := ∀ (α : Type) (st : ae) (l : List α) (row : α → T) (nm : α → Str) (A B : List Str), (∀ a st, fN (.d (row a)) (.d (.int 0)) st = .ok (.d (.str (nm a))) st) → l.length ≤ 8 →
 f [.d (.tup (l.map row)), .d (.lst (A.map T.str)), .d (.lst (B.map T.str))] st = .ok (.d (.tup (((l.filter fun a => decide (nm a ∈ A) && !decide (nm a ∈ B)).map nm).map T.str))) st
theorem zS : yS (aC F G0 ck) := by
 intro α st l row nm A B hr h
 rw [aL rfl]
 unfold ck
 walk_at "iq"
 generalize hX : aa _ _ _ _ _ = X
 have e := av hX (fun a => if decide _ && !decide (nm a ∈ B) then some _ else none) (by
  intro a _
  have M0 := fun st => AF (p := nm a) (cs := A) (st := st)
  have M1 := fun st => xB (p := nm a) (cs := B) (st := st)
  refine ah rfl ?_
  generalize decide (nm a ∈ A) = p at *
  generalize decide (nm a ∈ B) = q at *
  cases p <;> cases q <;> (walk_at "iq"; exact ⟨_, _, rfl, rfl, rfl⟩))
 rw [gr, show (fun a => T.str _) = T.str ∘ nm from rfl, ← List.map_map] at e
 walk_at "iq"
def gU (b : aH) (zs : List (ab × Option Int)) : List Place := b.places.filter fun a => decide (a.name ∈ (cM zs).map (·.place)) && !decide (a.name ∈ (cK zs).map (·.place))
def iE (b : aH) (zs : List (ab × Option Int)) : List ao := b.players.filter fun a => decide (a.name ∈ (cM zs).flatMap (·.cast)) && !decide (a.name ∈ (cK zs).flatMap (·.cast))
theorem nW {b : aH} {os} : (∀ s ∈ cM (b.scenes.zip os), s ∈ b.scenes) ∧ ∀ s ∈ cK (b.scenes.zip os), s ∈ b.scenes := by
 constructor <;>
 · intro s hs
   obtain ⟨z, hz, e⟩ := List.mem_filterMap.mp hs
   split at e <;> cases e
   exact (List.of_mem_zip hz).1
def uI (f : FW) : Prop := ∀ (st : ae) (b : aH) (os : List (Option Int)), Cs b os → f [.d b.t, .d (ag os)] st = .ok (.d (.tup [.tup (((gU b (b.scenes.zip os)).map (·.name)).map T.str), .tup (((iE b (b.scenes.zip os)).map (·.name)).map T.str)])) st
theorem AC (h1 : Ew (F 49)) (h2 : Ed (F 50)) (h3 : yS (F 51)) : uI (aC F G0 fO) := by
 intro st b os h
 have hz := h.z8
 have lw : (cM _).length ≤ 8 := Nat.le_trans (List.length_filterMap_le _ _) hz
 have ld : (cK _).length ≤ 8 := Nat.le_trans (List.length_filterMap_le _ _) hz
 have hc : ∀ s ∈ b.scenes, s.cast.length ≤ 8 := fun s hs => by
  obtain ⟨_, _, _, _, _, hl, _⟩ := h.ok.scenes s hs
  have := h.ok.q8
  omega
 have w1 := fun st => h1 st _ lw
 have w2 := fun st => h1 st _ ld
 have w3 := fun st => h2 st _ lw fun s hs => hc s (nW.1 s hs)
 have w4 := fun st => h2 st _ ld fun s hs => hc s (nW.2 s hs)
 have w5 := fun st => h3 _ st _ Place.t _ ((cM (b.scenes.zip os)).map (·.place)) ((cK (b.scenes.zip os)).map (·.place)) (fun _ _ => rfl) h.ok.p8
 have w6 := fun st => h3 _ st _ ao.t _ ((cM (b.scenes.zip os)).flatMap (·.cast)) ((cK (b.scenes.zip os)).flatMap (·.cast)) (fun _ _ => rfl) h.ok.q8
 rw [show (b.places.filter fun a => decide _ && !decide _) = gU b _ from rfl] at w5
 rw [show (b.players.filter fun a => decide _ && !decide _) = iE b _ from rfl] at w6
 rw [aL rfl]
 unfold fO
 walk_at "iq"
 generalize hX : aa _ _ _ _ _ = X
 have e := av hX (fun z => if z.2 = none then some z.1.t else none) (by
  rintro ⟨s, o⟩ _
  refine ah rfl ?_
  cases o <;> (walk_at "iq"; exact ⟨_, _, rfl, rfl, rfl⟩))
 rw [show (b.scenes.zip os).filterMap _ = (cM (b.scenes.zip os)).map ab.t by
  unfold cM
  rw [List.map_filterMap]
  simp] at e
 walk_at "iq"
 generalize hX : aa _ _ _ _ _ = X
 have e := av hX (fun z => if z.2 = none then none else some z.1.t) (by
  rintro ⟨s, o⟩ _
  refine ah rfl ?_
  cases o <;> (walk_at "iq"; exact ⟨_, _, rfl, rfl, rfl⟩))
 rw [show (b.scenes.zip os).filterMap _ = (cK _).map _ by
  unfold cK
  rw [List.map_filterMap]
  congr 1
  funext z
  split <;> rfl] at e
 walk_at "iq"
def rT (f : FW) : Prop := ∀ (st : ae) (b : aH), bE 8 8 b → ∀ a ∈ b.places, f [.d b.t, .d (.str a.name)] st = .ok (.d (.int a.rent)) st
theorem xn (hP : pC (F 17)) : rT (aC F G0 bR) := by
 intro st b h a ha
 have P0 : ∀ st, F 17 _ st = .ok (.d (.tup _)) st := fun st => hP st b h a ha
 rw [aL rfl]
 unfold bR
 walk_at "iq"
def zj (f : FW) : Prop := ∀ (st : ae) (b : aH), bE 8 8 b → ∀ a ∈ b.players, f [.d b.t, .d (.str a.name)] st = .ok (.d (.int a.pay)) st
theorem Cv (hP : pq (F 24)) : zj (aC F G0 cf) := by
 intro st b h a ha
 have P0 : ∀ st, F 24 _ st = .ok (.d (.tup _)) st := fun st => hP st b h a ha
 rw [aL rfl]
 unfold cf
 walk_at "iq"
theorem sI : ∀ S (n m), m ≤ fU S n m ∧ fU S n m ≤ m + S.length
 | [], n, m => ⟨Int.le_refl _, by show m ≤ m + 0; omega⟩
 | h :: r, n, m => by
  show m ≤ (if n ≤ 0 then m else fU r _ _) ∧ (if n ≤ 0 then m else fU r _ _) ≤ m + (r.length + 1)
  have := sI r (n - h) (m + 1)
  omega
theorem sy (h : bE 8 8 b) : 0 ≤ gZ b ∧ gZ b ≤ 8 := by
 have h1 := sI (iu b.days) (b.scenes.map (·.length)).sum 0
 have h2 := h.d2
 have h3 : (iu b.days).length = b.days.length := by rw [ll h.days, yc, List.length_map]
 unfold gZ
 omega
def eD (b : aH) (os : List (Option Int)) : Int := if gZ b - (bj os).length > 0 then gZ b - (bj os).length else 0
def fL (b : aH) (os : List (Option Int)) : Int := fB b os + eD b os * b.crew + ((gU b (b.scenes.zip os)).map (·.rent)).sum + ((iE b (b.scenes.zip os)).map (·.pay)).sum
def mZ (f : FW) : Prop := ∀ (st : ae) (b : aH) (os : List (Option Int)), Cs b os → f [.d b.t, .d (ag os)] st = .ok (.d (.int (fL b os))) st
theorem yp (h1 : uI (F 52)) (h2 : Ao (F 48)) (h3 : vn (F 28)) (h4 : rT (F 53)) (h5 : zj (F 54)) (h6 : sn (F 42)) : mZ (aC F G0 jT) := by
 intro st b os h
 have w1 := fun st => h1 st b os h
 have w2 := fun st => h2 st b h.ok.due
 have w3 := fun st => h3 st os (by have := h.len; have := h.s8; omega)
 have w6 := fun st => h6 st b os h
 have hp : ∀ a ∈ gU b (b.scenes.zip os), a ∈ b.places := fun a ha => (List.mem_filter.mp ha).1
 have hq : ∀ a ∈ iE b (b.scenes.zip os), a ∈ b.players := fun a ha => (List.mem_filter.mp ha).1
 have lp : (gU b (b.scenes.zip os)).length ≤ 8 := Nat.le_trans (List.length_filter_le _ _) h.ok.p8
 have lq : (iE b (b.scenes.zip os)).length ≤ 8 := Nat.le_trans (List.length_filter_le _ _) h.ok.q8
 have w4 := fun a ha st => h4 st b h.ok a (hp a ha)
 have w5 := fun a ha st => h5 st b h.ok a (hq a ha)
 have l0 : (if gZ b - (bj os).length > 0 then gZ b - (bj os).length else 0) = eD b os := rfl
 have sm : aI (eD b os) = true := by
  have := sy h.ok
  unfold eD
  split <;> exact aQ (by omega) (by omega)
 have sp : fL b os = fB b os + eD b os * b.crew + ((gU b _).map _).sum + ((iE b _).map _).sum := rfl
 rw [aL rfl]
 unfold jT
 generalize ((bj os).length) = sh
 walk_at "iq"
 generalize hX : aa _ _ _ _ _ = X
 simp only [List.map_map] at hX
 have e := av (f := fun a => T.str _) hX _ (by
  intro a ha
  refine ah rfl ?_
  walk_at "iq"
  exact ⟨_, _, rfl, rfl, rfl⟩)
 rw [bD, show (fun a : Place => T.int _) = T.int ∘ (·.rent) from rfl, ← List.map_map] at e
 walk_at "iq"
 generalize hX : aa _ _ _ _ _ = X
 simp only [List.map_map] at hX
 have e := av (f := fun a => T.str _) hX _ (by
  intro a ha
  refine ah rfl ?_
  walk_at "iq"
  exact ⟨_, _, rfl, rfl, rfl⟩)
 rw [bD, show (fun a : ao => T.int _) = T.int ∘ (·.pay) from rfl, ← List.map_map] at e
 walk_at "iq"
theorem eM {α : Type} {p} {f : α → Int} : ∀ l : List α, ((l.filter p).map f).sum = (l.map fun a => if p a then f a else 0).sum
 | [] => rfl
 | a :: l => by
  rw [List.filter_cons, List.map_cons, List.sum_cons, ← eM l]
  cases p a <;> simp
section
variable {b : aH} {os os' : List (Option Int)}
theorem ug {ss : List ab} {p} : decide (p ∈ ss.flatMap (·.cast)) = ss.any fun s => decide (p ∈ s.cast) := by
 induction ss with
 | nil => rfl
 | cons s ss ih => grind
end
theorem ml (o : Option Int) : ∀ os : List (Option Int), ((os.map bX).any fun y => eqT y (bX o)) = decide (o ∈ os)
 | [] => rfl
 | c :: cs => by
  rw [List.map_cons, List.any_cons, ml o cs, show eqT (bX c) (bX o) = decide (o = c) by
   cases c <;> cases o <;> first | rfl | (show (_ == _) = _; rw [Bool.beq_eq_decide_eq]; exact decide_eq_decide.mpr ⟨fun h => by rw [h], fun h => (Option.some.inj h).symm⟩), ← Bool.decide_or]
  exact decide_eq_decide.mpr List.mem_cons.symm
theorem BM {o : Option Int} {os : List (Option Int)} {st : ae} : bg .mem (.d (bX o)) (.d (ag os)) st = .ok (.d (.bl (decide (o ∈ os)))) st := cV (by
 show (if aP (bX o) && (os.map bX).all aP then some ((os.map bX).any fun y => eqT y (bX o)) else none) = _
 rw [ml, List.all_map, show (os.all (aP ∘ bX)) = true from List.all_eq_true.mpr fun o _ => by cases o <;> rfl, show aP (bX o) = true by cases o <;> rfl]
 rfl)
def kN (cs : List (Option Int)) (m : Nat) : Option T := if decide (some (m : Int) ∈ cs) then some (T.int m) else none
theorem tM (h : Cs b cs) : ((List.range b.days.length).filterMap (kN cs)).length = (bj cs).length := by
 have e : (List.range b.days.length).filterMap (kN cs) = (((List.range b.days.length).filter fun (m : Nat) => decide (some (m : Int) ∈ cs)).map fun (m : Nat) => (m : Int)).map T.int := by
  unfold kN
  rw [gr, List.map_map]
  rfl
 rw [e, List.length_map]
 have r1 : (((List.range b.days.length).filter fun (m : Nat) => decide (some (m : Int) ∈ cs)).map fun (m : Nat) => (m : Int)).Pairwise (· < ·) := by
  rw [List.pairwise_map]
  exact (List.pairwise_lt_range.filter _).imp fun h => by omega
 have mm : ∀ d, d ∈ (((List.range b.days.length).filter fun (m : Nat) => decide (some (m : Int) ∈ cs)).map fun (m : Nat) => (m : Int)) ↔ d ∈ bj cs := fun d => by
  unfold bj
  rw [cb, List.mem_map, List.mem_filterMap]
  constructor
  · rintro ⟨m, hm, rfl⟩
    simp_all
  · rintro ⟨o, ho, e⟩
    cases e
    obtain ⟨d0, d1⟩ := h.days _ ho d rfl
    refine ⟨d.toNat, List.mem_filter.mpr ⟨List.mem_range.mpr (by omega), decide_eq_true ?_⟩, by omega⟩
    rwa [show d.toNat = d by omega]
 exact Nat.le_antisymm (ij r1 (bT _) fun x hx => (mm x).mp hx) (ij (bT _) r1 fun x hx => (mm x).mpr hx)
theorem nn (l : List _) : cB (l.map ab.t) ≤ 50 := Nat.le_trans (fh _ 5 fun s => by
 have := fh T.str 0 (fun x => Nat.le_refl _) s.cast
 simp only [ab.t, cS, cB]
 omega l) (by decide)
theorem uj {R L : List _} {h} (hr : R.Pairwise (· < ·)) (hm : ∀ d, d ∈ L ↔ d ∈ R ∧ h d = true) : R.filter h = eT L := gK (hr.filter _) (bT _) fun y => by rw [cb, hm, List.mem_filter]
def eC (n : Nat) : List Int := (List.range n).map fun (i : Nat) => (i : Int)
theorem qx (n : Nat) : eC (n + 1) = eC n ++ [(n : Int)] := by unfold eC; rw [List.range_succ, List.map_append]; rfl
theorem jn (n : Nat) : (eC n).Pairwise (· < ·) := by
 unfold eC
 rw [List.pairwise_map]
 exact List.Pairwise.imp fun h => by omega List.pairwise_lt_range
theorem l5 : d ∈ eC n ↔ 0 ≤ d ∧ d < n := by
 unfold eC
 rw [List.mem_map]
 constructor
 · rintro ⟨i, hi, rfl⟩
   grind
 · intro h
   exact ⟨d.toNat, List.mem_range.mpr (by omega), by omega⟩
theorem lb (n : Nat) : (eC n).length = n := by unfold eC; simp
theorem Ce (n : Nat) : rng 0 n = (eC n).map T.int := by
 unfold rng eC
 simp
theorem xm (L : List _) : cB (L.map T.int) ≤ 50 := Nat.le_trans (fh _ 0 (fun _ => Nat.le_refl _) L) (by decide)
section
variable {σ : ae} {i j : Nat} {xs : List T}
theorem Fe {l : List ab} {P : ab → Bool} (hi : σ[i]? = some (some ((l.filter P).map ab.t))) (hj : σ[j]? = some (some [])) : bg .ne (.ref i) (.ref j) σ = .ok (.d (.bl (l.any P))) σ := gu (a := .lst ((l.filter P).map ab.t)) (b := .lst []) (bq hi) (bq hj) (by
 have := nn (l.filter P)
 show (if cS (.lst ((l.filter P).map ab.t)) ≤ 60 ∧ cS (.lst []) ≤ 60 then some (!eqT (.lst ((l.filter P).map ab.t)) (.lst [])) else none) = _
 rw [if_pos ⟨by simp only [cS]; omega, by simp [cS, cB]⟩, dQ, List.length_map]
 congr 1
 clear hi this
 induction l with
 | nil => rfl
 | cons s l ih =>
  rw [List.filter_cons, List.any_cons]
  cases P s
  · exact ih
  · rfl)
theorem nY (d : Int) : ∀ os : List _, ((os.map bX).any fun y => eqT y (.int d)) = decide (some d ∈ os)
 | [] => rfl
 | o :: os => by
  rw [List.map_cons, List.any_cons, nY d os]
  cases o with
  | none => show (false || _) = _; simp
  | some e => show (e == d || _) = _; rw [Bool.beq_eq_decide_eq, ← Bool.decide_or]; congr 1; rw [List.mem_cons, Option.some_inj, @eq_comm _ e d]
theorem AY {os} : bg .mem (.d (.int d)) (.d (ag os)) σ = .ok (.d (.bl (decide (some d ∈ os)))) σ := cV (by
 show (if aP _ && (os.map _).all _ then some _ else none) = _
 rw [nY, List.all_map, List.all_eq_true.mpr fun o _ => by cases o <;> rfl]
 rfl)
end
theorem A7 {os} (h : Cs b os) (p : Str) : (eC b.days.length).filter (fun d => (gd (b.scenes.zip os) d).any fun s => decide (p ∈ s.cast)) = iN b os p := uj (jn _) fun d => by
 rw [uM, l5]
 exact ⟨fun hd => ⟨h.in d hd, hd⟩, (·.2)⟩
theorem wS {os} (h : Cs b os) : (eC b.days.length).filter (fun d => decide (some d ∈ os)) = bj os := uj (jn _) fun d => by
 rw [l5, decide_eq_true_eq, List.mem_filterMap]
 constructor
 · rintro ⟨o, ho, rfl⟩
   exact ⟨h.days _ ho d rfl, ho⟩
 simp
theorem Ci {os} (p : Str) : (bj os).filter (fun d => (gd (b.scenes.zip os) d).any fun s => decide (s.place = p)) = pk b os p := uj (bT _) fun d => by
 unfold bj
 rw [uM, cb, List.mem_filterMap]
 refine ⟨fun hd => ⟨?_, hd⟩, (·.2)⟩
 obtain ⟨z, hz, _, e⟩ := nN.mp hd
 exact ⟨_, (List.of_mem_zip hz).2, e⟩
def oA (f : FW) : Prop := ∀ (st : ae) (b : aH) (os : List (Option Int)) (p : Str), Cs b os → f [.d b.t, .d (ag os), .d (.str p)] st = .ok (.ref st.length) (st ++ [some ((iN b os p).map T.int)])
theorem vb (hT : jN (F 70)) : oA (aC F G0 dN) := by
 intro st b os p h
 have d8 := h.d8
 have z8 := h.z8
 rw [aL rfl, ← A7 h]
 unfold dN
 walk_at "cq"
 generalize hX : aM _ _ _ _ _ = X
 obtain ⟨_, _, ⟨x4, rfl, rfl⟩, rfl⟩ := bP hX (fun i ρ σ => ∃ x4, ρ = [some _, some _, some _, some _, x4] ∧ σ = st ++ [some (((eC i).filter fun d => (gd (b.scenes.zip os) d).any fun s => decide (p ∈ s.cast)).map T.int)]) ⟨_, rfl, rfl⟩ (by
  rintro i y _ _ hy ⟨x4, rfl, rfl⟩
  obtain ⟨hi, rfl⟩ := gw hy
  have T0 := fun st => hT st b os i h
  have l8 := Nat.le_trans (n4 (d := i)) z8
  have lm := fv (f := T.int) (l := (eC i).filter fun d => (gd (b.scenes.zip os) d).any fun s => decide (p ∈ s.cast)) (Nat.le_trans (List.length_filter_le _ _) (by rw [lb]; omega))
  rw [qx, List.filter_append, List.map_append, List.filter_cons, List.filter_nil]
  generalize ((eC i).filter _).map _ = cs at *
  refine ba rfl ?_
  generalize gd _ i = ss at *
  walk_at "cq"
  generalize hY : aa _ _ _ _ _ = Y
  have e := av hY (fun s => if decide (p ∈ s.cast) then some _ else none) (by
   intro s _
   refine ah rfl ?_
   by_cases hq : p ∈ s.cast <;> (walk_at "cq"; exact ⟨_, _, rfl, rfl, rfl⟩))
  rw [gr] at e
  have n0 := Fe (σ := st ++ [some cs, some ((ss.filter fun s => decide (p ∈ s.cast)).map _), some []]) (i := st.length + 1) (j := st.length + 2) (by rw [cH]; rfl) (by rw [cH]; rfl)
  cases hh : ss.any fun s => decide (p ∈ s.cast)
  all_goals
   walk_at "cq"
   exact ⟨_, _, rfl, rfl, _, rfl, rfl⟩)
 rw [cr]
 walk_at "cq"
theorem A6 {l : List ab} {P : ab → Bool} {σ : ae} {j : Nat} (hj : σ[j]? = some (some [])) : bg .ne (.d (.lst ((l.filter P).map ab.t))) (.ref j) σ = .ok (.d (.bl (l.any P))) σ := gu (a := .lst ((l.filter P).map ab.t)) (b := .lst []) rfl (bq hj) (by
 have := nn (l.filter P)
 show (if cS (.lst ((l.filter P).map ab.t)) ≤ 60 ∧ cS (.lst []) ≤ 60 then some (!eqT (.lst ((l.filter P).map ab.t)) (.lst [])) else none) = _
 rw [if_pos ⟨by simp only [cS]; omega, by simp [cS, cB]⟩, dQ, List.length_map]
 congr 1
 clear this
 induction l with
 | nil => rfl
 | cons s l ih =>
  rw [List.filter_cons, List.any_cons]
  cases P s
  · exact ih
  · rfl)
def jx (f : FW) : Prop := ∀ (st : ae) (b : aH) (os : List (Option Int)), Cs b os → Wl (f [.d b.t, .d (ag os)] st) fun w σ => w = .d (.int (fB b os)) ∧ σ = st
theorem xN {F : FT} (hT : jN (F 70)) (hC : oA (F 85)) : jx (aC F G0 eO) := by
 intro st b os h
 have d8 := h.d8
 have z8 := h.z8
 have o8 : os.length ≤ 8 := by have := h.s8; have := h.len; omega
 have hu : (bj os).length ≤ 8 := Nat.le_trans (fq _) (Nat.le_trans (List.length_filterMap_le _ _) o8)
 have sm1 : aI ((bj os).length : Int) = true := aQ (by omega) (by omega)
 have R0 := Ce b.days.length
 have ul := lb b.days.length
 refine bL rfl ?_
 unfold eO
 walk_at "fq"
 generalize hX : aa _ _ _ _ _ = X
 have e := av hX (fun d => if decide (some d ∈ os) then some (.int d) else none) (by
  intro d _
  refine ah rfl ?_
  have m0 := fun σ => AY (σ := σ) (d := d) (os := os)
  clear hX
  by_cases hq : some d ∈ os <;> (walk_at "fq"; exact ⟨_, _, rfl, rfl, rfl⟩))
 rw [gr, wS h] at e
 clear hX R0 ul
 walk_at "fq"
 clear e
 generalize hX : aM _ _ _ _ _ = X
 obtain ⟨_, _, ⟨x4, x5, x6, x7, x8, rfl, rfl⟩, rfl⟩ := bP hX (fun i ρ σ => ∃ x4 x5 x6 x7 x8, ρ = [some (.d b.t), some (.d (ag os)), some (.d (.lst ((bj os).map T.int))), some (.d (.int (b.crew * (bj os).length + ((b.places.take i).map fun a => ((pk b os a.name).length : Int) * a.rent).sum))), x4, x5, x6, x7, x8, none, none, none, none, none, none] ∧ st = σ) ⟨none, none, none, none, none, by simp, rfl⟩ (by
  rintro i y _ _ hy ⟨x4, x5, x6, x7, x8, rfl, rfl⟩
  obtain ⟨a, hi, ha, hl, rfl⟩ := dD hy
  rw [da hi, List.map_append, List.sum_append, ← Int.add_assoc]
  generalize b.crew * ((bj os).length : Int) + ((b.places.take i).map fun a => ((pk b os a.name).length : Int) * a.rent).sum = tot at *
  refine ba rfl ?_
  clear hX hy hi
  walk_at "fq"
  generalize hY : aM _ _ _ _ _ = Y
  obtain ⟨_, _, ⟨x7, x8, rfl, rfl⟩, rfl⟩ := bP hY (fun j ρ σ => ∃ x7 x8, ρ = [some (.d b.t), some (.d (ag os)), some (.d (.lst ((bj os).map T.int))), some (.d (.int (tot + a.rent * (((((bj os).take j).filter fun d => (gd (b.scenes.zip os) d).any fun s => decide (s.place = a.name)).length : Nat) : Int)))), some (.d (.str a.name)), some (.d (.int a.rent)), some (.d (.tup (a.shut.map T.int))), x7, x8, none, none, none, none, none, none] ∧ st = σ) ⟨x7, x8, by simp, rfl⟩ (by
   rintro j y _ _ hy ⟨x7, x8, rfl, rfl⟩
   obtain ⟨d, hj, _, hjl, rfl⟩ := dD hy
   have T0 := fun st => hT st b os d h
   have l8 := Nat.le_trans (n4 (d := d)) z8
   rw [da hj, List.filter_append, List.length_append, List.filter_cons, List.filter_nil]
   generalize (((bj os).take j).filter fun d => (gd (b.scenes.zip os) d).any fun s => decide (s.place = a.name)).length = n at *
   generalize gd (b.scenes.zip os) d = ss at *
   refine ba rfl ?_
   clear hY hy hj hT hC
   walk_at "fq"
   generalize hZ : aa _ _ _ _ _ = Z
   have e := av hZ (fun s => if decide (s.place = a.name) then some s.t else none) (by
    intro s _
    refine ah rfl ?_
    clear hZ
    by_cases hq : s.place = a.name <;> (walk_at "fq"; exact ⟨_, _, rfl, rfl, rfl⟩))
   rw [gr] at e
   have n0 := A6 (l := ss) (P := fun s => decide (s.place = a.name)) (σ := st ++ [some []]) (j := st.length) bK
   clear hZ
   cases hh : ss.any fun s => decide (s.place = a.name)
   · rw [hh] at n0
     have s0 : aI 0 = true := aQ (by decide) (by decide)
     walk_at "fq"
     exact ⟨_, _, rfl, rfl, _, _, by rw [Int.mul_zero, Int.add_zero], rfl⟩
   · rw [hh] at n0
     have s0 : aI 1 = true := aQ (by decide) (by decide)
     have e1 : a.rent * (n : Int) + a.rent = a.rent * ((n + 1 : Nat) : Int) := by rw [Int.natCast_add, Int.natCast_one, Int.mul_add, Int.mul_one]
     walk_at "fq"
     exact ⟨_, _, rfl, rfl, _, _, by rw [Int.mul_one, Int.add_assoc, e1], rfl⟩)
  rw [List.length_map, List.take_length, Ci]
  clear hY
  walk_at "fq"
  exact ⟨_, _, rfl, rfl, _, _, _, _, _, by rw [List.sum_cons, List.sum_nil, Int.add_zero, Int.mul_comm a.rent], rfl⟩)
 clear hX
 rw [List.length_map, List.take_length]
 have ec : fB b os = b.crew * ((bj os).length : Int) + (b.places.map fun a => ((pk b os a.name).length : Int) * a.rent).sum + (b.players.map fun a => nU (iN b os a.name) a).sum := by
  unfold fB iK
  rw [List.map_cons, List.sum_cons, List.map_append, List.sum_append, List.map_map, List.map_map, Int.mul_comm, Int.add_assoc]
  rfl
 rw [ec]
 generalize b.crew * ((bj os).length : Int) + (b.places.map fun a => ((pk b os a.name).length : Int) * a.rent).sum = base at *
 walk_at "fq"
 generalize hX : aM _ _ _ _ _ = X
 obtain ⟨_, _, ⟨l, x4, x9, x10, x11, x12, x13, x14, rfl, rfl⟩, rfl⟩ := bP hX (fun i ρ σ => ∃ l x4 x9 x10 x11 x12 x13 x14, ρ = [some (.d b.t), some (.d (ag os)), some (.d (.lst ((bj os).map T.int))), some (.d (.int (base + ((b.players.take i).map fun a => nU (iN b os a.name) a).sum))), x4, x5, x6, x7, x8, x9, x10, x11, x12, x13, x14] ∧ σ = st ++ l) ⟨[], x4, none, none, none, none, none, none, by rw [List.take_zero, List.map_nil, List.sum_nil, Int.add_zero], by rw [List.append_nil]⟩ (by
  rintro i y _ _ hy ⟨l, x4, x9, x10, x11, x12, x13, x14, rfl, rfl⟩
  obtain ⟨a, hi, ha, hl, rfl⟩ := dD hy
  have C0 := hC (st ++ l) b os a.name h
  rw [List.length_append, List.append_assoc] at C0
  have hb : ∀ d ∈ iN b os a.name, 0 ≤ d ∧ d < b.days.length := fun d hd => h.in d ((cb d _).mp hd)
  have hv : (iN b os a.name).length ≤ 8 := h.set _
  rw [da hi, List.map_append, List.sum_append, ← Int.add_assoc]
  generalize base + ((b.players.take i).map fun a => nU (iN b os a.name) a).sum = tot at *
  rw [List.map_cons, List.map_nil, List.sum_cons, List.sum_nil, Int.add_zero]
  generalize iN b os a.name = D at *
  have E0 : bg .ne (.ref (st.length + l.length)) (.ref (st.length + (l.length + 1))) (st ++ (l ++ [some (D.map T.int), some []])) = .ok (.d (.bl (!decide (D.length = 0)))) (st ++ (l ++ [some (D.map T.int), some []])) := gu (a := .lst (D.map T.int)) (b := .lst []) (bq (by rw [cH, bK])) (bq (by rw [cH, cH]; rfl)) (by
   have := xm D
   show (if cS (.lst (D.map T.int)) ≤ 60 ∧ cS (.lst []) ≤ 60 then some (!eqT (.lst (D.map T.int)) (.lst [])) else none) = _
   rw [if_pos ⟨by simp only [cS]; omega, by simp [cS, cB]⟩, dQ, List.length_map])
  refine ba rfl ?_
  clear hX hy hi hC hT ha ec
  by_cases hD : D = []
  · subst hD
    rw [List.map_nil] at C0 E0
    rw [show nU [] a = 0 from rfl, Int.add_zero]
    walk_at "fq"
    exact ⟨_, _, rfl, rfl, l ++ [some []], _, _, _, _, _, _, _, rfl, rfl⟩
  · obtain ⟨m, M, h1, h2, h3, h4, i0, il, tr⟩ := jA hD
    obtain ⟨b1, b2⟩ := hb m h3
    obtain ⟨b3, b4⟩ := hb M h4
    have sm3 : aI (D.length : Int) = true := aQ (by omega) (by omega)
    have sm4 : aI (M - m + 1 - D.length) = true := aQ (by omega) (by omega)
    have z0 : decide (D.length = 0) = false := decide_eq_false (by cases D <;> simp at hD ⊢)
    unfold nU
    rw [h1, h2]
    dsimp only
    clear hb hD h1 h2 h3 h4 tr
    walk_at "fq"
    exact ⟨_, _, rfl, rfl, l ++ [some (D.map T.int)], _, _, _, _, _, _, _, by rw [Int.add_assoc], rfl⟩)
 rw [List.length_map, List.take_length]
 clear hX
 walk_at "fq"
 exact ⟨_, _, rfl, rfl, rfl⟩
theorem FO {ns : List _} {st} {k} (h : st[k]? = some (some (ns.map T.int))) : gq .sum [.ref k] st = .ok (.d (.int ns.sum)) st := by
 have e : bY [.ref k] st = some [.lst (ns.map T.int)] := by simp only [bY, look, h]
 unfold gq
 rw [e]
 show (match (aK _).map _ with | some t => fresh t st | none => .bad) = _
 rw [ints_map]
 rfl
theorem br {ss} {ρ ρ'} {st st'} (h : dB F G s ρ st = .ok (.nx, ρ') st') : bI F G (s :: ss) ρ st = bI F G ss ρ' st' := by
 simp only [bI]
 rw [h]
 rfl
theorem cI {st} (h : Wl r fun w σ => w = v ∧ σ = st) : r = .ok v st := by
 obtain ⟨_, _, e, rfl, rfl⟩ := h
 exact e
theorem zK {n m} (h : n ≤ 0) : fU hs n m = m := by
 cases hs with
 | nil => rfl
 | cons a r => exact if_pos h
theorem vt {σ} {k} (h : σ[k]? = some (some (hs.map T.int))) (hl : hs.length < 64) : nh (.ref k) σ = .ok (.ref σ.length) (σ ++ [some ((yN hs).map T.int)]) := by
 have e : look (.ref k) σ = some (.lst (hs.map T.int)) := by simp only [look, h]
 unfold nh
 rw [e]
 cases hs with
 | nil => rfl
 | cons a r =>
  show (match aK _ with | some ns => if ns.length < 64 then fresh _ σ else .bad | none => .bad) = _
  rw [ints_map]
  show (if (a :: r).length < 64 then _ else _) = _
  rw [if_pos hl]
  rfl
section
variable {F : FT} {b : aH} {os : List (Option Int)} {st : ae} {c : W}
theorem jW {body : List S} (hb : body = [.ifs (.cmp .gt (.v 2) (.c (.int 0))) [.asg (.nm 3) (.frz (.bin .add (.v 3) (.c (.int 1)))), .asg (.nm 2) (.bin .sub (.v 2) (.v 4))] []]) {x c : W} : ∀ (hs : List Int) (n m : Int) (x4 : Option W) (X : ak (Fl × aG)), aM [] (dv F G0 (.nm 4) body) (hs.map T.int) [some x, some c, some (.d (.int n)), some (.d (.int m)), x4, none, none, none, none, none, none, none, none, none, none, none, none] st = X →
 ∃ n' y4, X = .ok (.nx, [some x, some c, some (.d (.int n')), some (.d (.int (fU hs n m))), y4, none, none, none, none, none, none, none, none, none, none, none, none]) st
 | [], n, m, x4, X, h => ⟨n, x4, h.symm⟩
 | k :: hs, n, m, x4, X, h => by
  rw [List.map_cons] at h
  simp only [aM] at h
  show ∃ n' y4, X = .ok (.nx, [some x, some c, some (.d (.int n')), some (.d (.int (if n ≤ 0 then m else fU hs (n - k) (m + 1)))), y4, none, none, none, none, none, none, none, none, none, none, none, none]) st
  by_cases hn : 0 < n
  · have e : dv F G0 (.nm 4) body (.int k) [some x, some c, some (.d (.int n)), some (.d (.int m)), x4, none, none, none, none, none, none, none, none, none, none, none, none] st = .ok (.nx, [some x, some c, some (.d (.int (n - k))), some (.d (.int (m + 1))), some (.d (.int k)), none, none, none, none, none, none, none, none, none, none, none, none]) st := by
     rw [gM rfl, hb]
     walk_at "iq"
    rw [e] at h
    rw [if_neg (by omega)]
    exact jW hb hs _ _ _ X h
  · have e : dv F G0 (.nm 4) body (.int k) [some x, some c, some (.d (.int n)), some (.d (.int m)), x4, none, none, none, none, none, none, none, none, none, none, none, none] st = .ok (.nx, [some x, some c, some (.d (.int n)), some (.d (.int m)), some (.d (.int k)), none, none, none, none, none, none, none, none, none, none, none, none]) st := by
     rw [gM rfl, hb]
     walk_at "iq"
    rw [e] at h
    rw [if_pos (by omega), ← zK (n := n) (m := m) (by omega)]
    exact jW hb hs _ _ _ X h
theorem b2 (s8 : b.scenes.length ≤ 8) : dB F G0 (.asg (.nm 2) (.frz (.tr (.bf .sum [.comp ["_law_scene_here"] [none] (.nm 0) .seq [.ix (.v 0) (.c (.int 5))] [] (.ix (.v 0) (.c (.int 2)))])))) [some (.d b.t), some c, none, none, none, none, none, none, none, none, none, none, none, none, none, none, none] st = .ok (.nx, [some (.d b.t), some c, some (.d (.int (b.scenes.map (·.length)).sum)), none, none, none, none, none, none, none, none, none, none, none, none, none, none]) st := by
 refine cI ?_
 have S1 := FO (ns := b.scenes.map (·.length)) (st := st ++ [some _]) bK
 walk_at "iq"
 generalize hY : aa _ _ _ _ _ = Y
 have e4 := av hY _ (by
  intro s hs
  refine ah rfl ?_
  walk_at "iq"
  exact ⟨_, _, rfl, rfl, rfl⟩)
 rw [bD, show (fun s : ab => T.int _) = T.int ∘ (·.length) from rfl, ← List.map_map] at e4
 walk_at "iq"
 exact ⟨_, _, rfl, rfl, rfl⟩
theorem b4 (d8 : b.days.length ≤ 8) {w : Int} : ∃ n' y4, dB F G0 (.for (.nm 4) .seq [(.frz (.tr (.srv (.comp ["_law_day"] [none] (.nm 0) .seq [(.ix (.v 0) (.c (.int 2)))] [] (.ix (.v 0) (.c (.int 0)))))))] [.ifs (.cmp .gt (.v 2) (.c (.int 0))) [.asg (.nm 3) (.frz (.bin .add (.v 3) (.c (.int 1)))), .asg (.nm 2) (.bin .sub (.v 2) (.v 4))] []]) [some (.d b.t), some c, some (.d (.int w)), some (.d (.int 0)), none, none, none, none, none, none, none, none, none, none, none, none, none] st =
 .ok (.nx, [some (.d b.t), some c, some (.d (.int n')), some (.d (.int (fU (yN (b.days.map (·.1))) w 0))), y4, none, none, none, none, none, none, none, none, none, none, none, none]) st := by
 have hl : (b.days.map (·.1)).length < 64 := by rw [List.length_map]; omega
 have S0 := vt (σ := st ++ [some _]) bK hl
 have hc : a8 F G0 [(.frz (.tr (.srv (.comp ["_law_day"] [none] (.nm 0) .seq [.ix (.v 0) (.c (.int 2))] [] (.ix (.v 0) (.c (.int 0)))))))] [some (.d b.t), some c, some (.d (.int w)), some (.d (.int 0)), none, none, none, none, none, none, none, none, none, none, none, none, none] st = .ok [.d (.lst ((yN (b.days.map (·.1))).map T.int))] st := by
  refine cI ?_
  walk_at "iq"
  generalize hX : aa _ _ _ _ _ = X
  have e3 := av hX _ (by
   intro d hd
   refine ah rfl ?_
   have i0 : ∀ st, fN (.d (iW d)) (.d (.int 0)) st = .ok _ st := fun st => rfl
   walk_at "iq"
   exact ⟨_, _, rfl, rfl, rfl⟩)
  rw [bD, show (fun d : Int × Int => T.int _) = T.int ∘ (·.1) from rfl, ← List.map_map] at e3
  walk_at "iq"
  exact ⟨_, _, rfl, rfl, rfl⟩
 obtain ⟨n', y4, e⟩ := jW rfl _ w 0 _ _ rfl
 exact ⟨n', y4, by rw [zn, hc]; exact e⟩
end
theorem v8 {cs : List _} {st} {k} (h : st[k]? = some (some (cs.map T.str))) : bg .mem (.d (.str p)) (.ref k) st = .ok (.d (.bl (decide (p ∈ cs)))) st := gu rfl (bq h) (by
 show (if aP _ && (cs.map _).all _ then some _ else none) = _
 rw [eh, List.all_map, show cs.all (aP ∘ T.str) = true from List.all_eq_true.mpr fun _ _ => rfl]
 rfl)
theorem rO {cs : List _} {st} {k} (h : st[k]? = some (some (cs.map T.str))) : bg .nmem (.d (.str p)) (.ref k) st = .ok (.d (.bl !decide (p ∈ cs))) st := gu rfl (bq h) (by
 show (if aP _ && (cs.map _).all _ then some _ else none) = _
 rw [eh, List.all_map, show cs.all (aP ∘ T.str) = true from List.all_eq_true.mpr fun _ _ => rfl]
 rfl)
def eE (s : ab) : T := .tup (s.cast.map T.str)
theorem tB (cs : List _) : cB (cs.map T.str) ≤ 1 := by
 induction cs with
 | nil => simp [cB]
 | cons c cs ih => simp only [List.map_cons, cB, cS]; omega
theorem qF (ss : List _) : cB (ss.map eE) ≤ 3 := by
 induction ss with
 | nil => simp [cB]
 | cons s ss ih => have := tB s.cast; simp only [List.map_cons, cB, eE, cS]; omega
theorem rm {l : List ab} {σ : ae} {j : Nat} (hj : σ[j]? = some (some [])) : bg .ne (.d (.lst (l.map eE))) (.ref j) σ = .ok (.d (.bl (!l.isEmpty))) σ := gu (a := .lst (l.map eE)) (b := .lst []) rfl (bq hj) (by
 have := qF l
 show (if cS (.lst (l.map eE)) ≤ 60 ∧ cS (.lst []) ≤ 60 then some (!eqT (.lst (l.map eE)) (.lst [])) else none) = _
 rw [if_pos ⟨by simp only [cS]; omega, by simp [cS, cB]⟩, dQ, List.length_map]
 cases l <;> rfl)
theorem AL {l : List ab} {σ : ae} {i j : Nat} (hi : σ[i]? = some (some (l.map ab.t))) (hj : σ[j]? = some (some [])) : bg .eq (.ref i) (.ref j) σ = .ok (.d (.bl l.isEmpty)) σ := gu (a := .lst (l.map ab.t)) (b := .lst []) (bq hi) (bq hj) (by
 have := nn l
 show (if cS (.lst (l.map ab.t)) ≤ 60 ∧ cS (.lst []) ≤ 60 then some (eqT (.lst (l.map ab.t)) (.lst [])) else none) = _
 rw [if_pos ⟨by simp only [cS]; omega, by simp [cS, cB]⟩, dQ, List.length_map]
 cases l <;> rfl)
theorem sV {α : Type} {P} {l : List α} : (l.filter P).isEmpty = !l.any P := by
 induction l with
 | nil => rfl
 | cons a l ih => rw [List.filter_cons, List.any_cons]; cases P a <;> simp [ih]
section
variable {F : FT} {b : aH} {os : List (Option Int)} {st : ae} {n y4 : Option W} {du : Int}
theorem b5 (hc : Cs b os) : dB F G0 (.asg (.nm 5) (.frz (.tr (.bf .len [(.comp ["_law_case_here", "_law_day"] [some 1, none] (.nm 1) .rng1 [(.bf .len [.ix (.v 0) (.c (.int 2))])] [.cmp .mem (.v 1) (.v 0)] (.v 1))])))) [some (.d b.t), some (.d (ag os)), n, some (.d (.int du)), y4, none, none, none, none, none, none, none, none, none, none, none, none] st = .ok (.nx, [some (.d b.t), some (.d (ag os)), n, some (.d (.int du)), y4, some (.d (.int (bj os).length)), none, none, none, none, none, none, none, none, none, none, none]) st := by
 refine cI ?_
 have lu := tM hc
 have d8 := hc.d8
 walk_at "iq"
 generalize hX : aa _ _ _ _ _ = X
 have e := av hX (kN os) (by
  intro m hm
  rw [show ((0 : Int) + m) = m by omega]
  have M2 : ∀ st, bg _ (.d (.int m)) (.d (ag os)) st = .ok _ st := fun st => BM (o := some m)
  refine ah rfl ?_
  unfold kN
  generalize decide (some _ ∈ os) = p at *
  cases p <;> (walk_at "iq"; exact ⟨_, _, rfl, rfl, rfl⟩))
 walk_at "iq"
 exact ⟨_, _, rfl, rfl, rfl⟩
theorem b6 (hL : jx (F 134)) (hc : Cs b os) (hd : du = gZ b) : dB F G0 (.asg (.nm 6) (.bin .add (.call 134 [.v 0, .v 1]) (.bin .mul (.ix (.v 0) (.c (.int 0))) (.bf .max2 [.c (.int 0), .bin .sub (.v 3) (.v 5)])))) [some (.d b.t), some (.d (ag os)), n, some (.d (.int du)), y4, some (.d (.int (bj os).length)), none, none, none, none, none, none, none, none, none, none, none] st = .ok (.nx, [some (.d b.t), some (.d (ag os)), n, some (.d (.int du)), y4, some (.d (.int (bj os).length)), some (.d (.int (fB b os + b.crew * eD b os))), none, none, none, none, none, none, none, none, none, none]) st := by
 have L0 := fun st => cI (hL st b os hc)
 have l0 : (if du - (bj os).length > 0 then du - (bj os).length else 0) = eD b os := by rw [hd]; rfl
 have sm : aI (eD b os) = true := by
  have := sy hc.ok
  unfold eD
  split <;> exact aQ (by omega) (by omega)
 refine cI ?_
 clear hd
 walk_at "iq"
 exact ⟨_, _, rfl, rfl, rfl⟩
end
section
variable {F : FT} {b : aH} {os : List (Option Int)} {st : ae} {x0 x1 x2 x3 x4 x5 x6 x7 x8 x9 x10 x11 x12 x13 x14 x15 x16 : Option W} {ws ds : List ab} {p : Str}
theorem b7 (hz : (b.scenes.zip os).length ≤ 8) : dB F G0 (.asg (.nm 7) (.frz (.comp ["_law_scene_here", "_law_day"] [none, none] (.tp [0, 1]) .zp [.ix (.v 0) (.c (.int 5)), .v 1] [.isN (.v 1)] (.v 0)))) [some (.d b.t), some (.d (ag os)), x2, x3, x4, x5, x6, x7, x8, x9, x10, x11, x12, x13, x14, x15, x16] st = .ok (.nx, [some (.d b.t), some (.d (ag os)), x2, x3, x4, x5, x6, some (.d (.lst ((cM (b.scenes.zip os)).map ab.t))), x8, x9, x10, x11, x12, x13, x14, x15, x16]) st := by
 refine cI ?_
 walk_at "iq"
 generalize hX : aa _ _ _ _ _ = X
 have e := av hX (fun z => if z.2 = none then some z.1.t else none) (by
  rintro ⟨s, o⟩ _
  refine ah rfl ?_
  cases o <;> (walk_at "iq"; exact ⟨_, _, rfl, rfl, rfl⟩))
 rw [show (b.scenes.zip os).filterMap _ = (cM (b.scenes.zip os)).map ab.t by
  unfold cM
  rw [List.map_filterMap]
  simp] at e
 walk_at "iq"
 exact ⟨_, _, rfl, rfl, rfl⟩
theorem b8 (hz : (b.scenes.zip os).length ≤ 8) : dB F G0 (.asg (.nm 8) (.frz (.comp ["_law_scene_here", "_law_day"] [none, none] (.tp [0, 1]) .zp [.ix (.v 0) (.c (.int 5)), .v 1] [.notN (.v 1)] (.v 0)))) [some (.d b.t), some (.d (ag os)), x2, x3, x4, x5, x6, x7, x8, x9, x10, x11, x12, x13, x14, x15, x16] st = .ok (.nx, [some (.d b.t), some (.d (ag os)), x2, x3, x4, x5, x6, x7, some (.d (.lst ((cK (b.scenes.zip os)).map ab.t))), x9, x10, x11, x12, x13, x14, x15, x16]) st := by
 refine cI ?_
 walk_at "iq"
 generalize hX : aa _ _ _ _ _ = X
 have e := av hX (fun z => if z.2 = none then none else some z.1.t) (by
  rintro ⟨s, o⟩ _
  refine ah rfl ?_
  cases o <;> (walk_at "iq"; exact ⟨_, _, rfl, rfl, rfl⟩))
 rw [show (b.scenes.zip os).filterMap _ = (cK _).map _ by
  unfold cK
  rw [List.map_filterMap]
  congr 1
  funext z
  split <;> rfl] at e
 walk_at "iq"
 exact ⟨_, _, rfl, rfl, rfl⟩
theorem mW (hl : ws.length ≤ 8) : aj F G0 (.tr (.cmp .mem (.v 9) (.comp ["_law_scene_here"] [none] (.nm 0) .seq [.v 7] [] (.ix (.v 0) (.c (.int 1)))))) [x0, x1, x2, x3, x4, x5, x6, some (.d (.lst (ws.map ab.t))), x8, some (.d (.str p)), x10, x11, x12, x13, x14, x15, x16] st = .ok (.d (.bl (decide (p ∈ ws.map (·.place))))) st := by
 refine cI ?_
 have M := v8 (p := p) (cs := ws.map (·.place)) (st := st ++ [some _]) bK
 walk_at "iq"
 generalize hX : aa _ _ _ _ _ = X
 have e := av hX _ (by
  intro s hs
  refine ah rfl ?_
  walk_at "iq"
  exact ⟨_, _, rfl, rfl, rfl⟩)
 rw [bD, show (fun s : ab => T.str _) = T.str ∘ (·.place) from rfl, ← List.map_map] at e
 walk_at "iq"
 exact ⟨_, _, rfl, rfl, rfl⟩
theorem nD (hl : ds.length ≤ 8) : aj F G0 (.tr (.cmp .nmem (.v 9) (.comp ["_law_scene_here"] [none] (.nm 0) .seq [.v 8] [] (.ix (.v 0) (.c (.int 1)))))) [x0, x1, x2, x3, x4, x5, x6, x7, some (.d (.lst (ds.map ab.t))), some (.d (.str p)), x10, x11, x12, x13, x14, x15, x16] st = .ok (.d (.bl !decide (p ∈ ds.map (·.place)))) st := by
 refine cI ?_
 have M := rO (p := p) (cs := ds.map (·.place)) (st := st ++ [some _]) bK
 walk_at "iq"
 generalize hX : aa _ _ _ _ _ = X
 have e := av hX _ (by
  intro s hs
  refine ah rfl ?_
  walk_at "iq"
  exact ⟨_, _, rfl, rfl, rfl⟩)
 rw [bD, show (fun s : ab => T.str _) = T.str ∘ (·.place) from rfl, ← List.map_map] at e
 walk_at "iq"
 exact ⟨_, _, rfl, rfl, rfl⟩
theorem JI (hl : ws.length ≤ 8) : dB F G0 (.asg (.nm 16) (.frz (.comp ["_law_name", "_law_scene_here"] [some 9, none] (.nm 1) .seq [.v 7] [.cmp .mem (.v 0) (.ix (.v 1) (.c (.int 4)))] (.ix (.v 1) (.c (.int 4)))))) [x0, x1, x2, x3, x4, x5, x6, some (.d (.lst (ws.map ab.t))), x8, some (.d (.str p)), x10, x11, x12, x13, x14, x15, x16] st = .ok (.nx, [x0, x1, x2, x3, x4, x5, x6, some (.d (.lst (ws.map ab.t))), x8, some (.d (.str p)), x10, x11, x12, x13, x14, x15, some (.d (.lst ((ws.filter fun s => decide (p ∈ s.cast)).map eE)))]) st := by
 refine cI ?_
 walk_at "iq"
 generalize hX : aa _ _ _ _ _ = X
 have e := av hX (fun s => if decide _ then some (eE s) else none) (by
  intro s hs
  refine ah rfl ?_
  have M := fun st => i6 (p := p) (cs := s.cast) (st := st)
  generalize decide (p ∈ s.cast) = q at *
  cases q <;> (walk_at "iq"; exact ⟨_, _, rfl, rfl, rfl⟩))
 rw [gr _] at e
 walk_at "iq"
 exact ⟨_, _, rfl, rfl, rfl⟩
theorem pN {l : List _} : aj F G0 (.tr (.cmp .ne (.v 16) (.lst []))) [x0, x1, x2, x3, x4, x5, x6, x7, x8, x9, x10, x11, x12, x13, x14, x15, some (.d (.lst (l.map eE)))] st = .ok (.d (.bl !l.isEmpty)) st := by
 refine cI ?_
 have M := rm (l := l) (σ := st ++ [some []]) bK
 walk_at "iq"
 exact ⟨_, _, rfl, rfl, rfl⟩
theorem pE (hl : ds.length ≤ 8) : aj F G0 (.tr (.cmp .eq (.comp ["_law_name", "_law_scene_here"] [some 9, none] (.nm 1) .seq [.v 8] [.cmp .mem (.v 0) (.ix (.v 1) (.c (.int 4)))] (.v 1)) (.lst []))) [x0, x1, x2, x3, x4, x5, x6, x7, some (.d (.lst (ds.map ab.t))), some (.d (.str p)), x10, x11, x12, x13, x14, x15, x16] st = .ok (.d (.bl (ds.filter fun s => decide (p ∈ s.cast)).isEmpty)) st := by
 refine cI ?_
 have M := AL (l := ds.filter fun s => decide (p ∈ s.cast)) (σ := st ++ [some ((ds.filter fun s => decide (p ∈ s.cast)).map ab.t), some []]) (i := st.length) (j := st.length + 1) (by simp) (by simp)
 walk_at "iq"
 generalize hX : aa _ _ _ _ _ = X
 have e := av hX (fun s => if decide _ then some _ else none) (by
  intro s hs
  refine ah rfl ?_
  have M := fun st => i6 (p := p) (cs := s.cast) (st := st)
  generalize decide (p ∈ s.cast) = q at *
  cases q <;> (walk_at "iq"; exact ⟨_, _, rfl, rfl, rfl⟩))
 rw [gr _] at e
 walk_at "iq"
 exact ⟨_, _, rfl, rfl, rfl⟩
end
theorem zh {st} {a b} {p q} (ha : aj F G a ρ st = .ok (.d (.bl p)) st) (hb : aj F G b ρ st = .ok (.d (.bl q)) st) : aj F G (.and a b) ρ st = .ok (.d (.bl (p && q))) st := by
 simp only [aj]
 rw [ha]
 cases p with
 | false => rfl
 | true => exact hb
theorem zD {st} {c} {ss} {t} (h : aj F G c ρ st = .ok (.d (.bl t)) st) : dB F G (.ifs c ss []) ρ st = bI F G (if t then ss else []) ρ st := by
 simp only [dB]
 rw [h]
 cases t with
 | false => show bI F G [] ρ _ = _; simp
 | true => show bI F G ss ρ _ = _; simp
section
variable {F : FT} {b : aH} {os : List (Option Int)} {st : ae} {x0 x1 x2 x3 x4 x5 x6 x7 x8 x9 x10 x11 x12 x13 x14 x15 x16 : Option W} {ws ds : List ab} {p : Str} {tot : Int}
theorem EU {a : Place} (hw : ws.length ≤ 8) (hd : ds.length ≤ 8) : dB F G0 (.ifs (.and (.tr (.cmp .mem (.v 9) (.comp ["_law_scene_here"] [none] (.nm 0) .seq [.v 7] [] (.ix (.v 0) (.c (.int 1)))))) (.tr (.cmp .nmem (.v 9) (.comp ["_law_scene_here"] [none] (.nm 0) .seq [.v 8] [] (.ix (.v 0) (.c (.int 1))))))) [.asg (.nm 6) (.frz (.bin .add (.v 6) (.v 10)))] []) [x0, x1, x2, x3, x4, x5, some (.d (.int tot)), some (.d (.lst (ws.map ab.t))), some (.d (.lst (ds.map ab.t))), some (.d (.str a.name)), some (.d (.int a.rent)), x11, x12, x13, x14, x15, x16] st = .ok (.nx, [x0, x1, x2, x3, x4, x5, some (.d (.int (tot + (fun a => if decide (a.name ∈ ws.map (·.place)) && !decide (a.name ∈ ds.map (·.place)) then a.rent else 0) a))), some (.d (.lst (ws.map ab.t))), some (.d (.lst (ds.map ab.t))), some (.d (.str a.name)), some (.d (.int a.rent)), x11, x12, x13, x14, x15, x16]) st := by
 rw [zD (zh (mW hw) (nD hd))]
 show _ = ak.ok (Fl.nx, [x0, x1, x2, x3, x4, x5, some (.d (.int (tot + if decide _ && !decide _ then a.rent else 0))), some _, some _, some _, some _, x11, x12, x13, x14, x15, x16]) st
 generalize (decide (a.name ∈ ws.map _) && !decide (a.name ∈ ds.map _)) = q
 cases q with
 | false => rw [if_neg (by simp), if_neg (by simp), Int.add_zero]; rfl
 | true =>
  rw [if_pos rfl, if_pos rfl]
  refine cI ?_
  walk_at "iq"
  exact ⟨_, _, rfl, rfl, rfl⟩
theorem DV {a : ao} (hw : ws.length ≤ 8) (hd : ds.length ≤ 8) : bI F G0 [.asg (.nm 16) (.frz (.comp ["_law_name", "_law_scene_here"] [some 9, none] (.nm 1) .seq [.v 7] [.cmp .mem (.v 0) (.ix (.v 1) (.c (.int 4)))] (.ix (.v 1) (.c (.int 4))))), .ifs (.and (.tr (.cmp .ne (.v 16) (.lst []))) (.tr (.cmp .eq (.comp ["_law_name", "_law_scene_here"] [some 9, none] (.nm 1) .seq [.v 8] [.cmp .mem (.v 0) (.ix (.v 1) (.c (.int 4)))] (.v 1)) (.lst [])))) [.asg (.nm 6) (.frz (.bin .add (.v 6) (.v 12)))] []] [x0, x1, x2, x3, x4, x5, some (.d (.int tot)), some (.d (.lst (ws.map ab.t))), some (.d (.lst (ds.map ab.t))), some (.d (.str a.name)), x10, x11, some (.d (.int a.pay)), x13, x14, x15, x16] st = .ok (.nx, [x0, x1, x2, x3, x4, x5, some (.d (.int (tot + (fun a => if !(ws.filter fun s => decide (a.name ∈ s.cast)).isEmpty && (ds.filter fun s => decide (a.name ∈ s.cast)).isEmpty then a.pay else 0) a))), some (.d (.lst (ws.map ab.t))), some (.d (.lst (ds.map ab.t))), some (.d (.str a.name)), x10, x11, some (.d (.int a.pay)), x13, x14, x15, some (.d (.lst ((ws.filter fun s => decide (a.name ∈ s.cast)).map eE)))]) st := by
 rw [br (JI hw)]
 refine (br ?_).trans rfl
 rw [zD (zh pN (pE hd))]
 show _ = ak.ok (Fl.nx, [x0, x1, x2, x3, x4, x5, some (.d (.int (tot + if !(ws.filter fun s => decide _).isEmpty && (ds.filter fun s => decide _).isEmpty then a.pay else 0))), some _, some _, some _, x10, x11, some _, x13, x14, x15, some _]) st
 generalize (!(ws.filter fun s => decide (a.name ∈ s.cast)).isEmpty && (ds.filter fun s => decide (a.name ∈ s.cast)).isEmpty) = q
 cases q with
 | false => rw [if_neg (by simp), if_neg (by simp), Int.add_zero]; rfl
 | true =>
  rw [if_pos rfl, if_pos rfl]
  refine cI ?_
  walk_at "iq"
  exact ⟨_, _, rfl, rfl, rfl⟩
theorem b9 (hw : ws.length ≤ 8) (hd : ds.length ≤ 8) : ∃ y9 y10 y11, dB F G0 (.for (.tp [9, 10, 11]) .seq [(.ix (.v 0) (.c (.int 3)))] [.ifs (.and (.tr (.cmp .mem (.v 9) (.comp ["_law_scene_here"] [none] (.nm 0) .seq [(.v 7)] [] (.ix (.v 0) (.c (.int 1)))))) (.tr (.cmp .nmem (.v 9) (.comp ["_law_scene_here"] [none] (.nm 0) .seq [(.v 8)] [] (.ix (.v 0) (.c (.int 1))))))) [.asg (.nm 6) (.frz (.bin .add (.v 6) (.v 10)))] []]) [some (.d b.t), x1, x2, x3, x4, x5, some (.d (.int (tot))), some (.d (.lst (ws.map ab.t))), some (.d (.lst (ds.map ab.t))), x9, x10, x11, x12, x13, x14, x15, x16] st = .ok (.nx, [some (.d b.t), x1, x2, x3, x4, x5, some (.d (.int (tot + (b.places.map (fun a : Place => if decide (a.name ∈ ws.map (·.place)) && !decide (a.name ∈ ds.map (·.place)) then a.rent else 0)).sum))), some (.d (.lst (ws.map ab.t))), some (.d (.lst (ds.map ab.t))), y9, y10, y11, x12, x13, x14, x15, x16]) st := by
 obtain ⟨_, _, ⟨y9, y10, y11, rfl, rfl⟩, e⟩ := bP (xs := b.places.map Place.t) (step := dv F G0 (.tp [9, 10, 11]) [.ifs (.and (.tr (.cmp .mem (.v 9) (.comp ["_law_scene_here"] [none] (.nm 0) .seq [(.v 7)] [] (.ix (.v 0) (.c (.int 1)))))) (.tr (.cmp .nmem (.v 9) (.comp ["_law_scene_here"] [none] (.nm 0) .seq [(.v 8)] [] (.ix (.v 0) (.c (.int 1))))))) [.asg (.nm 6) (.frz (.bin .add (.v 6) (.v 10)))] []]) (st := st) rfl (fun i ρ σ => ∃ y9 y10 y11, ρ = [some (.d b.t), x1, x2, x3, x4, x5, some (.d (.int (tot + ((b.places.take i).map (fun a : Place => if decide (a.name ∈ ws.map (·.place)) && !decide (a.name ∈ ds.map (·.place)) then a.rent else 0)).sum))), some (.d (.lst (ws.map ab.t))), some (.d (.lst (ds.map ab.t))), y9, y10, y11, x12, x13, x14, x15, x16] ∧ st = σ) ⟨x9, x10, x11, by rw [List.take_zero, List.map_nil, List.sum_nil, Int.add_zero], rfl⟩ (by
  rintro i y _ _ hy ⟨y9, y10, y11, rfl, rfl⟩
  obtain ⟨a, hi, ha, hl, rfl⟩ := dD hy
  rw [da hi, List.map_append, List.sum_append, List.map_cons, List.map_nil, List.sum_cons, List.sum_nil, Int.add_zero, ← Int.add_assoc]
  generalize tot + ((b.places.take i).map _).sum = t2
  refine ba rfl ⟨_, _, (br (EU hw hd)).trans rfl, rfl, _, _, _, rfl, rfl⟩)
 rw [List.length_map, List.take_length] at e
 exact ⟨y9, y10, y11, e⟩
theorem Jv (hw : ws.length ≤ 8) (hd : ds.length ≤ 8) : ∃ y9 y12 y13 y14 y15 y16, dB F G0 (.for (.tp [9, 12, 13, 14, 15]) .seq [(.ix (.v 0) (.c (.int 4)))] [.asg (.nm 16) (.frz (.comp ["_law_name", "_law_scene_here"] [some 9, none] (.nm 1) .seq [(.v 7)] [(.cmp .mem (.v 0) (.ix (.v 1) (.c (.int 4))))] (.ix (.v 1) (.c (.int 4))))), .ifs (.and (.tr (.cmp .ne (.v 16) (.lst []))) (.tr (.cmp .eq (.comp ["_law_name", "_law_scene_here"] [some 9, none] (.nm 1) .seq [(.v 8)] [(.cmp .mem (.v 0) (.ix (.v 1) (.c (.int 4))))] (.v 1)) (.lst [])))) [.asg (.nm 6) (.frz (.bin .add (.v 6) (.v 12)))] []]) [some (.d b.t), x1, x2, x3, x4, x5, some (.d (.int (tot))), some (.d (.lst (ws.map ab.t))), some (.d (.lst (ds.map ab.t))), x9, x10, x11, x12, x13, x14, x15, x16] st = .ok (.nx, [some (.d b.t), x1, x2, x3, x4, x5, some (.d (.int (tot + (b.players.map (fun a : ao => if !(ws.filter fun s => decide (a.name ∈ s.cast)).isEmpty && (ds.filter fun s => decide (a.name ∈ s.cast)).isEmpty then a.pay else 0)).sum))), some (.d (.lst (ws.map ab.t))), some (.d (.lst (ds.map ab.t))), y9, x10, x11, y12, y13, y14, y15, y16]) st := by
 obtain ⟨_, _, ⟨y9, y12, y13, y14, y15, y16, rfl, rfl⟩, e⟩ := bP (xs := b.players.map ao.t) (step := dv F G0 (.tp [9, 12, 13, 14, 15]) [.asg (.nm 16) (.frz (.comp ["_law_name", "_law_scene_here"] [some 9, none] (.nm 1) .seq [(.v 7)] [(.cmp .mem (.v 0) (.ix (.v 1) (.c (.int 4))))] (.ix (.v 1) (.c (.int 4))))), .ifs (.and (.tr (.cmp .ne (.v 16) (.lst []))) (.tr (.cmp .eq (.comp ["_law_name", "_law_scene_here"] [some 9, none] (.nm 1) .seq [(.v 8)] [(.cmp .mem (.v 0) (.ix (.v 1) (.c (.int 4))))] (.v 1)) (.lst [])))) [.asg (.nm 6) (.frz (.bin .add (.v 6) (.v 12)))] []]) (st := st) rfl (fun i ρ σ => ∃ y9 y12 y13 y14 y15 y16, ρ = [some (.d b.t), x1, x2, x3, x4, x5, some (.d (.int (tot + ((b.players.take i).map (fun a : ao => if !(ws.filter fun s => decide (a.name ∈ s.cast)).isEmpty && (ds.filter fun s => decide (a.name ∈ s.cast)).isEmpty then a.pay else 0)).sum))), some (.d (.lst (ws.map ab.t))), some (.d (.lst (ds.map ab.t))), y9, x10, x11, y12, y13, y14, y15, y16] ∧ st = σ) ⟨x9, x12, x13, x14, x15, x16, by rw [List.take_zero, List.map_nil, List.sum_nil, Int.add_zero], rfl⟩ (by
  rintro i y _ _ hy ⟨y9, y12, y13, y14, y15, y16, rfl, rfl⟩
  obtain ⟨a, hi, ha, hl, rfl⟩ := dD hy
  rw [da hi, List.map_append, List.sum_append, List.map_cons, List.map_nil, List.sum_cons, List.sum_nil, Int.add_zero, ← Int.add_assoc]
  generalize tot + ((b.players.take i).map _).sum = t2
  refine ba rfl ⟨_, _, DV hw hd, rfl, _, _, _, _, _, _, rfl, rfl⟩)
 rw [List.length_map, List.take_length] at e
 exact ⟨y9, y12, y13, y14, y15, y16, e⟩
end
def oK (f : FW) : Prop := ∀ (st : ae) (b : aH) (os : List (Option Int)), Cs b os → f [.d b.t, .d (ag os)] st = .ok (.d (.int (fL b os))) st
theorem rQ {F : FT} (hL : jx (F 134)) : oK (aC F G0 dE) := by
 intro st b os h
 have hz := h.z8
 have lw : (cM (b.scenes.zip os)).length ≤ 8 := Nat.le_trans (List.length_filterMap_le _ _) hz
 have ld : (cK (b.scenes.zip os)).length ≤ 8 := Nat.le_trans (List.length_filterMap_le _ _) hz
 unfold dE
 show (bI F G0 _ [some (.d b.t), some (.d (ag os)), none, none, none, none, none, none, none, none, none, none, none, none, none, none, none] st).bind (uD st.length) = _
 have s8 := h.s8
 obtain ⟨n', y4, e4⟩ := b4 (F := F) (b := b) (st := st) (c := .d (ag os)) (w := (b.scenes.map _).sum) h.d8
 have ed : fU (yN (b.days.map (·.1))) (b.scenes.map (·.length)).sum 0 = gZ b := by unfold gZ; rw [ll h.ok.days]
 rw [ed] at e4
 have e3 : dB F G0 (.asg (.nm 3) (.c (.int 0))) [some (.d b.t), some (.d (ag os)), some (.d (.int (b.scenes.map (·.length)).sum)), none, none, none, none, none, none, none, none, none, none, none, none, none, none] st = .ok (.nx, [some _, some _, some _, some _, none, none, none, none, none, none, none, none, none, none, none, none, none]) st := rfl
 obtain ⟨y9, y10, y11, e9⟩ := b9 lw ld
 obtain ⟨z9, z12, z13, z14, z15, z16, e10⟩ := Jv lw ld
 rw [br (b2 s8), br e3, br e4, br (b5 h), br (b6 hL h rfl), br (b7 hz), br (b8 hz), br e9, br e10]
 have eb : fL b os = fB b os + b.crew * eD b os + (b.places.map fun a => if decide (a.name ∈ (cM (b.scenes.zip os)).map (·.place)) && !decide (a.name ∈ (cK (b.scenes.zip os)).map (·.place)) then a.rent else 0).sum + (b.players.map fun a => if !((cM (b.scenes.zip os)).filter fun s => decide (a.name ∈ s.cast)).isEmpty && ((cK (b.scenes.zip os)).filter fun s => decide (a.name ∈ s.cast)).isEmpty then a.pay else 0).sum := by
  unfold fL gU iE
  rw [eM, eM, Int.mul_comm]
  simp only [sV, ug, Bool.not_not]
 rw [eb]
 show ci _ (.d _) st = _
 rw [D6, List.take_length]
local macro_rules | `(tactic| walk_at "iq") => do { let ls ← ((I.ws (Hd.CI ++ " jE j5 kS lF lQ lR lj kM mn mj k8 kP lv p9 rq lH t6 uB kR lG lK kL k7 l6 yq ET sj wx F0 uw oQ i6 oW Gy Gr wC oY wW List.all_cons List.all_nil Bool.and_self and_true Fz DQ za z7 Gp su tK and_self true_and")).mapM fun n => `(Lean.Parser.Tactic.simpLemma| $(Lean.mkIdent n):term)); `(tactic| simp (disch := walk_at "dq") only [$[$ls:simpLemma],*, *]) }
def D9 : Nat := 20
theorem headD : fw Ds := ⟨rfl, rfl, rfl, rfl, rfl, rfl, rfl, rfl, rfl, rfl, rfl⟩
theorem ym {st} {xs ys} (hx : look x st = some (.lst xs)) (hy : look y st = some (.lst ys)) (h : xs.length + ys.length ≤ 1000) : bh .add x y st = .ok (.ref st.length) (st ++ [some (xs ++ ys)]) := by
 unfold bh
 rw [hx, hy]
 show (match if xs.length + ys.length ≤ aZ then some _ else none with | some t => fresh t st | none => .bad) = _
 rw [if_pos (n3 h)]
 rfl
theorem C9 {F : FT} (hC : pM (F 0)) (hB : ud (F 11)) (hLa : BR (F 62)) (hCa : om (F 33)) (hBo : mZ (F 55)) (hLb : oK (F 152)) (hA : jD 1 (F 57)) (ns : List Int) : Wl (aC F G0 oH [.d (.lst (ns.map T.int))] []) fun w _ => w = .d (.bl true) := by
 refine bL rfl ?_
 unfold oH
 obtain ⟨b, hb, B0⟩ := hB [] ns 8 8 (by decide) (by decide) (by decide) (by decide)
 obtain ⟨c, C0⟩ := hC ns 12 (by decide)
 have hrow := vv
 obtain ⟨_, r1, ⟨o1, rfl, h1, c1⟩, e1⟩ := (hLa ⟨c, 0⟩ b hb 880 ⟨by show (0 : Int) ≤ 0; decide, by show (0 : Int) + 900 ≤ 10 ^ 6; decide⟩).c [] []
 obtain ⟨_, r2, ⟨o2, rfl, h2, c2⟩, e2⟩ := (hCa r1 b 2 hb (by decide) (by decide) 864 c1).c [] []
 obtain ⟨_, r3, ⟨o3, rfl, h3, c3⟩, e3⟩ := (hCa r2 b 1 hb (by decide) (by decide) 848 c2).c [] []
 obtain ⟨_, r4, ⟨o4, rfl, h4, c4⟩, e4⟩ := (hCa r3 b 3 hb (by decide) (by decide) 832 c3).c [] []
 have e1' : F 62 [.ref 0, .d b.t] [aB ⟨c, 0⟩] = .ok (.d (ag o1)) [aB r1] := e1
 have e2' : F 33 [.ref 0, .d b.t, .d (.int 2)] [aB r1] = .ok (.d (ag o2)) [aB r2] := e2
 have e3' : F 33 [.ref 0, .d b.t, .d (.int 1)] [aB r2] = .ok (.d (ag o3)) [aB r3] := e3
 have e4' : F 33 [.ref 0, .d b.t, .d (.int 3)] [aB r3] = .ok (.d (ag o4)) [aB r4] := e4
 have S0 : CK (.d (.lst [ag o1, ag o2, ag o3, ag o4])) none (some 1) [aB r4] = .ok (.ref 1) [aB r4, some [ag o1]] := rfl
 have A0 : bh .add (.d (.lst [ag o1, ag o2, ag o3, ag o4])) (.ref 1) [aB r4, some [ag o1]] = .ok (.ref 2) [aB r4, some [ag o1], some [ag o1, ag o2, ag o3, ag o4, ag o1]] := ym (xs := [ag o1, ag o2, ag o3, ag o4]) (ys := [ag o1]) rfl rfl (by show 5 ≤ 1000; decide)
 clear e1 e2 e3 e4 hC hB hLa hCa c1 c2 c3 c4
 walk_at "iq"
 generalize hX : aM _ _ _ _ _ = X
 obtain ⟨_, _, ⟨x4, rfl, rfl⟩, rfl⟩ := bP hX (fun i ρ σ => ∃ x4, ρ = [some (.d (.lst (ns.map T.int))), some (.d b.t), some (.ref 0), some (.d (.lst [ag o1, ag o2, ag o3, ag o4])), x4] ∧ [aB r4] = σ) ⟨none, rfl, rfl⟩ (by
  rintro i y _ _ hy ⟨x4, rfl, rfl⟩
  obtain ⟨os, rfl, h⟩ : ∃ os, y = ag os ∧ Cs b os := by
   match i, hy with
   | 0, hy => cases hy; exact ⟨o1, rfl, h1⟩
   | 1, hy => cases hy; exact ⟨o2, rfl, h2⟩
   | 2, hy => cases hy; exact ⟨o3, rfl, h3⟩
   | 3, hy => cases hy; exact ⟨o4, rfl, h4⟩
   | 4, hy => cases hy; exact ⟨o1, rfl, h1⟩
   | n + 5, hy => cases hy
  have K0 := fun st => hBo st b os h
  have L0 := fun st => hLb st b os h
  have A1 := fun (st : ae) (i : Int) => hA st (.int i) rfl (by show 0 < 1; decide)
  refine ba rfl ?_
  clear hX hy B0 C0 e1' e2' e3' e4' hrow S0 A0 hBo hLb hA h1 h2 h3 h4
  generalize fL b os = x at *
  generalize T.lst [ag o1, ag o2, ag o3, ag o4] = cs at *
  walk_at "iq"
  exact ⟨_, _, rfl, rfl, _, rfl, rfl⟩)
 clear hX
 walk_at "iq"
 exact ⟨_, _, rfl, rfl⟩
theorem t4 (ns : List Int) (hl : ns.length ≤ 63) : ∃ st', aC (run G0 Ds D9) G0 oH [.d (.lst (ns.map T.int))] [] = .ok (.d (.bl true)) st' := by
 have kca : ∀ n, om (run G0 Ds (n + 2) 33) := fun n => up rfl (Aa (headD.take n))
 have kl : BR (run G0 Ds 20 62) := up rfl (Ec (headD.take 18) (kca 17))
 have kpl : ∀ n, pC (run G0 Ds (n + 3) 17) := fun n => up rfl (Ey (up rfl (ES (up rfl zG))))
 have kpy : ∀ n, pq (run G0 Ds (n + 3) 24) := fun n => up rfl (DK (up rfl (DJ (up rfl zG))))
 have kp : ∀ n, ny (run G0 Ds (n + 6) 30) := fun n => up rfl (v3 (up rfl (E8 (up rfl sZ) (kpy n))))
 have kb : ∀ n, rL (run G0 Ds (n + 7) 31) := fun n => up rfl (AU (up rfl sE) (up rfl (xg (up rfl (Cw (kpl (n + 1)))))) (kp n))
 have kc : ∀ n, sn (run G0 Ds (n + 8) 42) := fun n => up rfl (Bq (kb n))
 have kd : ∀ n, Ao (run G0 Ds (n + 1) 48) := fun n => up rfl E6
 have km : uI (run G0 Ds 19 52) := up rfl (AC (up rfl Gj) (up rfl DP) (up rfl zS))
 have kbo : mZ (run G0 Ds 20 55) := up rfl (yp km (kd 18) (up rfl sE) (up rfl (xn (kpl 15))) (up rfl (Cv (kpy 15))) (kc 11))
 have kt : ∀ n, jN (run G0 Ds (n + 1) 70) := fun n => up rfl yg
 have kx : jx (run G0 Ds 19 134) := up rfl (xN (kt 17) (up rfl (vb (kt 16))))
 obtain ⟨_, st, e, rfl⟩ := C9 (headD.cell 19) (headD.book 15) kl (kca 18) kbo (up rfl (rQ kx)) (pB rfl rfl 1 18) ns
 exact ⟨st, e⟩
end Hd
end
section
namespace Hd
open PySem L2 I PySem.Spec PyProof.Rows
theorem B9 {P : Program} {w : World} {K : PySem.W.Frag} {mg : Str → Option Value} {tabs : List (Addr × Addr)} (base : Heap) (kb : K.In base) (nb : base.Ns mainGlobals mg) (bm : Bm mg base) (hcd : ∀ q ∈ tabs, PySem.W.CodeHd base q.1 q.2) (ht : cE (rD K tabs) tbl) (hd : cE (uC (wP P w K mg base (tabs.map Prod.snd) (nF AW) G0)) tbl) (hc : cE (fun r => G0[r.1]? = some (.int r.2.2) ∧ ∃ t, mg r.2.1 = some (.int r.2.2 t)) AW) (hb : ∀ x ∈ CV, mg x = none) (d : Df K mg "law" vI.st) {f : Addr} {fd : FuncData} (F : vG K "law" "law" vI.st f fd) : f7 P w K mg base nk (2 * D9 + 2) f fd ["_law_script"] (mY K tabs) := by
 refine AA (Γ := wP P w K mg base (tabs.map Prod.snd) (nF AW) G0) (D3 BG hd (DH ht kb nb bm hcd) rfl (zP rfl hc) hb) (n := D9) F "_law_script" (vC i3 d nofun) (mY K tabs) fun vs H Q E h => ?_
 obtain ⟨a, ns, rfl, hS, hl, hT, q⟩ := h
 exact ⟨rfl, BI (Γ := wP P w K mg base (tabs.map Prod.snd) (nF AW) G0) hS (fun P hP => by obtain ⟨z, hz, rfl⟩ := List.mem_map.mp hP; exact hT z hz) (t4 ns hl) fun H' h' => q H' fun z hz => h' z.2 (List.mem_map_of_mem hz)⟩
theorem B5 {l : PySem.W.OpenLaw} {w : World} {K : PySem.W.Frag} {h : Heap} {mg : Str → Option Value} {fa : Addr} {tabs : List (Addr × Addr)} (X : K.In h) (G : h.Ns mainGlobals mg) (hfa : mg "law" = some (.ref fa)) (hT : cE (fun q => PySem.W.CodeHd h q.1 q.2 ∧ h.get? q.2 = some (PySem.W.tabObj #[])) tabs) (ht : cE (rD K tabs) tbl) (hl : Kf K "law" vI.st) (hd : cE (Ht K) tbl) (hc : cE (fun r => ∃ t, PySem.W.nsIn K mainGlobals r.2.1 = some (some (.int r.2.2 t))) AW) (hb : cE (fun x => PySem.W.nsIn K mainGlobals x = some none) CV) : m9 l w K mg fa h (2 * D9 + 2) :=
 qU X G hfa hT hl (sY i3 "law") fun base f fd kb nb bm hcd F d => B9 base kb nb bm hcd ht (cE.of_mem fun r hr => zZ (Γ := wP l.prog w K mg base (tabs.map Prod.snd) (nF AW) G0) X G (hd.mem r hr)) (DX (by decide) hc X G) (fun x hx => PySem.W.mg_none_of X G (hb.mem x hx)) d F
end Hd
open PySem PySem.W PyProof.Rows
set_option maxHeartbeats 0 in
theorem PySem.Challenge.cw_shootdays_k33_bounds_holds : PySem.Challenge.rw_shootdays_k33_bounds.Holds := by
 refine holds_law Hd.tlook fun said => ?_
 refine holds_open (q := Hd.vw) (loose := []) (XP := XL Hd.vw []) (YP := Hook.says (kHook Hd.kf Hd.ka Hd.FF)) (N := 2878) Hd.thl (Hook.of (kHook Hd.kf Hd.ka Hd.FF)) (Hook.keeps (kHook Hd.kf Hd.ka Hd.FF)) (fun s e => xl_of s (Bool.and_eq_true_iff.mp e).1) XL.keeps (by rfl) (by rfl) (by rfl) (fun s e => recFacts_of (Bool.and_eq_true_iff.mp e).2) rfl said (by kernel_rfl) ⟨rfl, rfl, rfl, rfl, rfl, by kernel_rfl⟩ ?hw ?hc
 case hw => w_witness2
 k_fill
 refine I.Fg (l := PySem.Challenge.rw_shootdays_k33_bounds) (n := 2 * Hd.D9 + 2) rfl rfl (by decide) (fun w h Y => PySem.W.kIn_of Y) (fun w => by kernel_rfl) ?F
 case F =>
  intro w mg mb fa h s0 GG KX G hmg
  have hs12 : (PySem.W.tabIn (L2.yB KX) "cost").isSome = true := by dsimp only [L2.yB]; kernel_rfl
  obtain ⟨⟨tc12, tP12⟩, tt12⟩ := Option.isSome_iff_exists.mp hs12
  have tT12 := PySem.W.tab_of (x := PySem.Str.ofString "cost") (W.Ground.T GG) KX rfl tt12
  have hs13 : (PySem.W.tabIn (L2.yB KX) "days_due").isSome = true := by dsimp only [L2.yB]; kernel_rfl
  obtain ⟨⟨tc13, tP13⟩, tt13⟩ := Option.isSome_iff_exists.mp hs13
  have tT13 := PySem.W.tab_of (x := PySem.Str.ofString "days_due") (W.Ground.T GG) KX rfl tt13
  have hs16 : (PySem.W.tabIn (L2.yB KX) "only_in_first").isSome = true := by dsimp only [L2.yB]; kernel_rfl
  obtain ⟨⟨tc16, tP16⟩, tt16⟩ := Option.isSome_iff_exists.mp hs16
  have tT16 := PySem.W.tab_of (x := PySem.Str.ofString "only_in_first") (W.Ground.T GG) KX rfl tt16
  have hs20 : (PySem.W.tabIn (L2.yB KX) "bound").isSome = true := by dsimp only [L2.yB]; kernel_rfl
  obtain ⟨⟨tc20, tP20⟩, tt20⟩ := Option.isSome_iff_exists.mp hs20
  have tT20 := PySem.W.tab_of (x := PySem.Str.ofString "bound") (W.Ground.T GG) KX rfl tt20
  refine' Hd.B5 (tabs := [(tc12, tP12), (tc13, tP13), (tc16, tP16), (tc20, tP20)]) KX G hmg ⟨tT12, tT13, tT16, tT20, trivial⟩ ⟨nofun, nofun, nofun, nofun, nofun, nofun, nofun, nofun, nofun, nofun, nofun, nofun, (fun _ => ⟨_, (.head _), tt12⟩), (fun _ => ⟨_, (.tail _ (.head _)), tt13⟩), nofun, nofun, (fun _ => ⟨_, (.tail _ (.tail _ (.head _))), tt16⟩), nofun, nofun, nofun, (fun _ => ⟨_, (.tail _ (.tail _ (.tail _ (.head _)))), tt20⟩), nofun, nofun, nofun, nofun, nofun, nofun, nofun, nofun, nofun, nofun, nofun, nofun, nofun, nofun, nofun, nofun, nofun, nofun, nofun, trivial⟩ (I.aw (x := "law") (st := Hd.au 54) ?_ ?_ ?_ ?_) ⟨I.aw .., I.aw .., I.aw .., I.aw .., I.aw .., I.aw .., I.aw .., I.aw .., I.aw .., I.aw .., I.aw .., I.aw .., I.aw .., I.aw .., I.aw .., I.aw .., I.aw .., I.aw .., I.aw .., I.aw .., I.aw .., I.aw .., I.aw .., I.aw .., I.aw .., I.aw .., I.aw .., I.aw .., I.aw .., I.aw .., I.aw .., I.aw .., I.aw .., I.aw .., I.aw .., I.aw .., I.aw .., I.aw .., I.aw .., I.aw .., trivial⟩ ⟨I.fI .., I.fI .., I.fI .., I.fI .., I.fI .., I.fI .., I.fI .., I.fI .., I.fI .., trivial⟩ ⟨I.bJ .., I.bJ .., I.bJ .., I.bJ .., I.bJ .., I.bJ .., I.bJ .., I.bJ .., I.bJ .., I.bJ .., I.bJ .., I.bJ .., I.bJ .., I.bJ .., I.bJ .., I.bJ .., I.bJ .., I.bJ .., trivial⟩
  all_goals first | k_is | skip
end
