import PyProof.Rows.All
import Wide.All
import OpenK.KLine
import OpenK.KOwn
import OpenK.KRaise
import OpenK.KDescr
import OpenK.KCall
import OpenK.KCls
import OpenK.KMake
import OpenK.KMore
import OpenK.Peek
import KE.KFromBytes
import KE.KIsAll
import KE.KItem
import KE.KxBytes
import Wide.FinOn
import PyProof.EqAt
import PyProof.EqKinds
import PyProof.NeKinds
import PyProof.TupleCall
import PyProof.ExcBaseAll.ValueError
import PyProof.NsDelKeeps
import KE.KDictOf
import KE.KDictList
import Lean
import PySem.Challenge.RW_fencegate_k21_setup
set_option Elab.async false
set_option linter.all false
set_option maxRecDepth 100000
set_option maxHeartbeats 4000000
section
namespace PySem.W
open PySem
def kIns : List Obj → Nat → BT → BT
 | [], _, t => t
 | o :: r, i, t => kIns r (i + 1) (t.ins i o)
noncomputable def headSeen {α : Type} (p q : Program) (loose : List Str) (X : Shared → Bool) (obs : Shared → α) (w : World) (m0 : Nat) (ann : Option Value) (n2 : Nat) (t : Thread) (s : Shared) :=
 ((topRun treeTable p w m0 ann n2 s t).bind fun s₁ => match staticsOk (importedModules p.main.body) (boot_heap w.params) s₁.heap && namesBound p s₁.heap && gensDone s₁ && laidKept (boot_heap w.params) s₁.heap with
  | true => some s₁
  | false => none).map fun s => (openSeen q loose (importedModules p.main.body) X true s, obs s)
theorem left_of {α : Type} {p q : Program} {loose : List Str} {X : Shared → Bool} {obs : Shared → α} {val : World → α} {m0 np nb n1 n2 : Nat} {ann : Option Value} {env : Env} {body : List Stmt} {code : Code} {pA pB pM fr : Pos}
  {sA : World → OsState → Shared} {sB : World → OsState → SharedT}
  (hb : ∀ w : World, (fencedOpening treeTable p w (np + (nb + (n1 + n2)))).map (fun s => (s.heap, s.gens, s.drawn, s.toks)) = some (boot_heap w.params, #[], boot_drawn, boot_toks))
  (pre : ∀ w os, topGo treeTable p w m0 ann np ⟨boot_heap w.params, #[], boot_drawn, boot_toks, os⟩ (topStub p) = some (sA w os, ⟨denote treeTable (.body (body ++ []) env), code, pA, [topFrame fr]⟩))
  (blk : ∀ w os, segRun treeTable p w m0 ann 1 nb (sA w os) (blockOf (body ++ []) env code pA [topFrame fr]) = some (.next, (sB w os).abs, code, pB))
  (mid : ∀ w os, (segRunT treeTable p w m0 ann 1 n1 (sB w os) (piecesOf body env code pB [topFrame fr])).map (fun r => (r.1, r.2.2.1, r.2.2.2, headSeen p q loose X obs w m0 ann n2 (restOf [] env code pM [topFrame fr]) r.2.1.abs)) = some (.next, code, pM, some (openGood q loose, val w)))
  (sz : ∀ w : World, (((boot_heap w.params).isNs mainGlobals && (#[] : Array GenState).size == 0), (boot_heap w.params).objs.size, (boot_heap w.params).nsMap mainGlobals "__annotations__") = (true, m0, ann)) :
  LeftO p q loose X obs val (np + (nb + (n1 + n2))) := fun w => by
 obtain ⟨⟨h, g, d, k, os⟩, hs, hv⟩ := Option.map_eq_some_iff.mp (hb w)
 simp only [Prod.mk.injEq] at hv
 obtain ⟨rfl, rfl, rfl, rfl⟩ := hv
 have R := mid w os
 obtain ⟨z1, z2, z3⟩ : _ ∧ _ ∧ _ := by simpa only [Prod.mk.injEq] using sz w
 cases e : segRunT treeTable p w m0 ann 1 n1 (sB w os) (piecesOf body env code pB [topFrame fr]) with
 | none => rw [e] at R; cases R
 | some r =>
  obtain ⟨f, s', c, pp⟩ := r
  rw [e] at R
  have R2 := Option.some.inj R
  simp only [Prod.mk.injEq] at R2
  obtain ⟨rfl, rfl, rfl, R3⟩ := R2
  unfold headSeen at R3
  have M := segRun_of e
  cases t : topRun treeTable p w m0 ann n2 s'.abs (restOf [] env c pp [topFrame fr]) with
  | none => rw [t] at R3; cases R3
  | some r =>
   rw [t] at R3
   have G := go_top (pre w os) (piece_block (blk w os) (piece_app M t))
   unfold openEnds
   rw [hs]
   show (topFrom treeTable p w _ _).map _ = _
   unfold topFrom
   dsimp only
   rw [z1, z2, z3, G]
   exact R3
theorem z8n {σ τ α β A B C : Type} {o : Option σ} {k1 : σ → A} {k2 : σ → B} {k3 : σ → C} {h : σ → Option τ} {g1 : τ → α} {g2 : τ → β} {a : A} {b : B} {c : C} {v1 : α} {v2 : β}
  (x : o.map (fun r => (k1 r, k2 r, k3 r, (h r).map g1)) = some (a, b, c, some v1)) (y : o.map (fun r => (k1 r, k2 r, k3 r, (h r).map g2)) = some (a, b, c, some v2)) :
  o.map (fun r => (k1 r, k2 r, k3 r, (h r).map fun s => (g1 s, g2 s))) = some (a, b, c, some (v1, v2)) := by
 cases o with
 | none => cases x
 | some r =>
  simp only [Option.map_some, Option.some.injEq, Prod.mk.injEq] at x y ⊢
  obtain ⟨x1, x2, x3, x4⟩ := x
  obtain ⟨-, -, -, y4⟩ := y
  refine ⟨x1, x2, x3, ?_⟩
  cases e : h r with
  | none => rw [e] at x4; cases x4
  | some t =>
   rw [e] at x4 y4
   simp only [Option.map_some, Option.some.injEq] at x4 y4 ⊢
   rw [x4, y4]
theorem zca {σ τ α β A B C : Type} {o : Option σ} {k1 : σ → A} {k2 : σ → B} {k3 : σ → C} {h : σ → Option τ} {g : τ → α} {F : τ → β} (φ : α → β) (e : ∀ s, F s = φ (g s)) {a : A} {b : B} {c : C} {v : α}
  (x : o.map (fun r => (k1 r, k2 r, k3 r, (h r).map g)) = some (a, b, c, some v)) : o.map (fun r => (k1 r, k2 r, k3 r, (h r).map F)) = some (a, b, c, some (φ v)) := by
 cases o with
 | none => cases x
 | some r =>
  simp only [Option.map_some, Option.some.injEq, Prod.mk.injEq] at x ⊢
  obtain ⟨x1, x2, x3, x4⟩ := x
  refine ⟨x1, x2, x3, ?_⟩
  cases e2 : h r with
  | none => rw [e2] at x4; cases x4
  | some t =>
   rw [e2] at x4
   simp only [Option.map_some, Option.some.injEq] at x4 ⊢
   rw [e, x4]
end PySem.W
namespace Fg
open PySem PySem.W PyProof.Rows PySem.Calls
def ktop (i : Nat) : Stmt := PySem.Challenge.pw_fencegate_k21_setup.main.body.getD i (.Pass ⟨0, 0, 0, 0⟩)
def zdk (s : Stmt) : Arguments := match s with
 | .FunctionDef _ a _ _ _ _ _ _ _ _ => a
 | _ => { posonlyargs := [], args := [], vararg := none, kwonlyargs := [], kw_defaults := [], kwarg := none, defaults := [] }
def zdl (s : Stmt) : List Stmt := match s with
 | .FunctionDef _ _ b _ _ _ _ _ _ _ => b
 | _ => []
def zcy (s : Stmt) : Scope := match s with
 | .FunctionDef _ _ _ _ _ _ sc _ _ _ => sc
 | _ => { kind := .function, names := [], isGenerator := false, isCoroutine := false }
def kcls (s : Stmt) (j : Nat) : Stmt := match s with
 | .ClassDef _ _ _ body _ _ _ _ _ _ _ => body.getD j (.Pass ⟨0, 0, 0, 0⟩)
 | _ => .Pass ⟨0, 0, 0, 0⟩
def kS (x : String) (n : Nat) : Value := .str (Str.ofString x) n
def kE (P : Params) (x : String) (n : Nat) (v : Value) : DictEntry := ⟨PyData.keyHash P (Str.ofString x), kS x n, v⟩
def kC (vs : Array Value) : Obj := { cls := .type "code", data := .fields vs }
def kF (n q : String) (s : Stmt) (m : Value) (c : Addr) : Obj := { cls := .type "function", data := .func { name := Str.ofString n, qualname := Str.ofString q, params := zdk s, body := .stmts (zdl s), scope := zcy s, globals := 3, closure := [], defaults := .none, kwdefaults := .none, pyModule := m, code := .ref c } }
def kk : Params → PySem.W.Frag := fun P => (nat_lit 2, { cls := .none, data := Data.dict #[] }) ::
 (nat_lit 3, { cls := .type "dict", data := Data.dict #[kE P "__name__" 165 (kS "law_fencegate_k21_setup" 1237), kE P "__doc__" 166 (.none), kE P "__package__" 167 (.none), kE P "__loader__" 168 (.builtin "__main__.__loader__#opaque"), kE P "__spec__" 169 (.none), kE P "__annotations__" 170 (.ref 6), kE P "__builtins__" 171 (.ref 4), kE P "__file__" 173 (kS "/claim/cut.py" 172), kE P "__cached__" 174 (.none), kE P "_wall" 193 (.ref 21), kE P "GateError" 220 (.ref 38), kE P "BadSetup" 243 (.ref 58), kE P "UnknownHolder" 266 (.ref 77), kE P "UnknownLock" 289 (.ref 96), kE P "UnknownStore" 312 (.ref 115), kE P "UnknownKeeper" 335 (.ref 134), kE P "BadTime" 358 (.ref 153), kE P "Asleep" 381 (.ref 172), kE P "NotHeld" 404 (.ref 191), kE P "ReadersOnly" 427 (.ref 210), kE P "Down" 450 (.ref 229), kE P "OldNumber" 473 (.ref 248), kE P "InTheWay" 496 (.ref 267), kE P "NotFree" 519 (.ref 286), kE P "MOST_TIME" 523 (.int 1000 522), kE P "MOST_SIGNS" 525 (.int 8 524), kE P "MOST_NAMES" 527 (.int 4 526), kE P "NAME_SIGNS" 529 (kS "abcdefghijklmnopqrstuvwxyz0123456789" 528), kE P "good_name" 535 (.ref 293), kE P "good_path" 541 (.ref 298), kE P "within" 550 (.ref 305), kE P "on_line" 558 (.ref 312), kE P "in_way" 568 (.ref 319), kE P "Keeper" 652 (.ref 379), kE P "Council" 782 (.ref 476), kE P "Store" 831 (.ref 511), kE P "ahead" 839 (.ref 520), kE P "chain_of" 849 (.ref 527), kE P "ring_of" 858 (.ref 534), kE P "last_in_ring" 867 (.ref 541), kE P "MOST_KEEPERS" 871 (.int 5 870), kE P "MOST_HOLDERS" 873 (.int 8 872), kE P "MOST_LOCKS" 875 (.int 10 874), kE P "MOST_STORES" 877 (.int 4 876), kE P "all_differ" 886 (.ref 548), kE P "good_setup" 892 (.ref 553), kE P "check_time" 899 (.ref 560), kE P "World" 1236 (.ref 819), kE P "_law_at" 1246 (.ref 830), kE P "_law_same" 1252 (.ref 835), kE P "_law_name" 1267 (.ref 842), kE P "_law_names" 1273 (.ref 847), kE P "_law_locks" 1287 (.ref 854), kE P "_law_some" 1298 (.ref 861), kE P "_law_setup" 1310 (.ref 868), kE P "_law_good" 1318 (.ref 875), kE P "_law_names_ok" 1324 (.ref 880), kE P "_law_ok" 1330 (.ref 885), kE P "_law_spoil" 1336 (.ref 890), kE P "_law_made" 1346 (.ref 897), kE P "law" 1352 (.ref 902)] 61 }) ::
 (nat_lit 37, { cls := .type "dict", data := Data.dict #[kE P "__module__" 203 (kS "fencegate.errors" 194), kE P "__firstlineno__" 207 (.int 5 206), kE P "word" 214 (.ref 35), kE P "__static_attributes__" 215 (.ref 36), kE P "__weakref__" 217 (.ref 39), kE P "__doc__" 218 (.none)] 3 }) ::
 (nat_lit 38, { cls := .type "type", data := Data.cls { name := Str.ofString "GateError", bases := [.type "ValueError"], mro := [.ref 38, .type "ValueError", .type "Exception", .type "BaseException", .type "object"], ns := 37, qualname := Str.ofString "GateError", subclasses := [.ref 58, .ref 77, .ref 96, .ref 115, .ref 134, .ref 153, .ref 172, .ref 191, .ref 210, .ref 229, .ref 248, .ref 267, .ref 286] }, slots := #[some (.ref 22), none, some (kS "GateError" 196), some (kS "GateError" 204), some (.builtin "ValueError.__new__"), some (.bool true)] }) ::
 (nat_lit 39, { cls := .type "getset_descriptor", data := Data.fields #[kS "__weakref__" 216, .ref 38, .builtin "ExceptionGroup.__weakref__", .none] }) ::
 (nat_lit 57, { cls := .type "dict", data := Data.dict #[kE P "__module__" 228 (kS "fencegate.errors" 194), kE P "__firstlineno__" 232 (.int 9 231), kE P "word" 239 (.ref 55), kE P "__static_attributes__" 240 (.ref 56), kE P "__doc__" 241 (.none)] 2 }) ::
 (nat_lit 58, { cls := .type "type", data := Data.cls { name := Str.ofString "BadSetup", bases := [.ref 38], mro := [.ref 58, .ref 38, .type "ValueError", .type "Exception", .type "BaseException", .type "object"], ns := 57, qualname := Str.ofString "BadSetup" }, slots := #[some (.ref 42), none, some (kS "BadSetup" 221), some (kS "BadSetup" 229), some (.builtin "ValueError.__new__"), some (.bool true)] }) ::
 (nat_lit 76, { cls := .type "dict", data := Data.dict #[kE P "__module__" 251 (kS "fencegate.errors" 194), kE P "__firstlineno__" 255 (.int 13 254), kE P "word" 262 (.ref 74), kE P "__static_attributes__" 263 (.ref 75), kE P "__doc__" 264 (.none)] 2 }) ::
 (nat_lit 77, { cls := .type "type", data := Data.cls { name := Str.ofString "UnknownHolder", bases := [.ref 38], mro := [.ref 77, .ref 38, .type "ValueError", .type "Exception", .type "BaseException", .type "object"], ns := 76, qualname := Str.ofString "UnknownHolder" }, slots := #[some (.ref 61), none, some (kS "UnknownHolder" 244), some (kS "UnknownHolder" 252), some (.builtin "ValueError.__new__"), some (.bool true)] }) ::
 (nat_lit 95, { cls := .type "dict", data := Data.dict #[kE P "__module__" 274 (kS "fencegate.errors" 194), kE P "__firstlineno__" 278 (.int 17 277), kE P "word" 285 (.ref 93), kE P "__static_attributes__" 286 (.ref 94), kE P "__doc__" 287 (.none)] 2 }) ::
 (nat_lit 96, { cls := .type "type", data := Data.cls { name := Str.ofString "UnknownLock", bases := [.ref 38], mro := [.ref 96, .ref 38, .type "ValueError", .type "Exception", .type "BaseException", .type "object"], ns := 95, qualname := Str.ofString "UnknownLock" }, slots := #[some (.ref 80), none, some (kS "UnknownLock" 267), some (kS "UnknownLock" 275), some (.builtin "ValueError.__new__"), some (.bool true)] }) ::
 (nat_lit 114, { cls := .type "dict", data := Data.dict #[kE P "__module__" 297 (kS "fencegate.errors" 194), kE P "__firstlineno__" 301 (.int 21 300), kE P "word" 308 (.ref 112), kE P "__static_attributes__" 309 (.ref 113), kE P "__doc__" 310 (.none)] 2 }) ::
 (nat_lit 115, { cls := .type "type", data := Data.cls { name := Str.ofString "UnknownStore", bases := [.ref 38], mro := [.ref 115, .ref 38, .type "ValueError", .type "Exception", .type "BaseException", .type "object"], ns := 114, qualname := Str.ofString "UnknownStore" }, slots := #[some (.ref 99), none, some (kS "UnknownStore" 290), some (kS "UnknownStore" 298), some (.builtin "ValueError.__new__"), some (.bool true)] }) ::
 (nat_lit 133, { cls := .type "dict", data := Data.dict #[kE P "__module__" 320 (kS "fencegate.errors" 194), kE P "__firstlineno__" 324 (.int 25 323), kE P "word" 331 (.ref 131), kE P "__static_attributes__" 332 (.ref 132), kE P "__doc__" 333 (.none)] 2 }) ::
 (nat_lit 134, { cls := .type "type", data := Data.cls { name := Str.ofString "UnknownKeeper", bases := [.ref 38], mro := [.ref 134, .ref 38, .type "ValueError", .type "Exception", .type "BaseException", .type "object"], ns := 133, qualname := Str.ofString "UnknownKeeper" }, slots := #[some (.ref 118), none, some (kS "UnknownKeeper" 313), some (kS "UnknownKeeper" 321), some (.builtin "ValueError.__new__"), some (.bool true)] }) ::
 (nat_lit 152, { cls := .type "dict", data := Data.dict #[kE P "__module__" 343 (kS "fencegate.errors" 194), kE P "__firstlineno__" 347 (.int 29 346), kE P "word" 354 (.ref 150), kE P "__static_attributes__" 355 (.ref 151), kE P "__doc__" 356 (.none)] 2 }) ::
 (nat_lit 153, { cls := .type "type", data := Data.cls { name := Str.ofString "BadTime", bases := [.ref 38], mro := [.ref 153, .ref 38, .type "ValueError", .type "Exception", .type "BaseException", .type "object"], ns := 152, qualname := Str.ofString "BadTime" }, slots := #[some (.ref 137), none, some (kS "BadTime" 336), some (kS "BadTime" 344), some (.builtin "ValueError.__new__"), some (.bool true)] }) ::
 (nat_lit 171, { cls := .type "dict", data := Data.dict #[kE P "__module__" 366 (kS "fencegate.errors" 194), kE P "__firstlineno__" 370 (.int 33 369), kE P "word" 377 (.ref 169), kE P "__static_attributes__" 378 (.ref 170), kE P "__doc__" 379 (.none)] 2 }) ::
 (nat_lit 172, { cls := .type "type", data := Data.cls { name := Str.ofString "Asleep", bases := [.ref 38], mro := [.ref 172, .ref 38, .type "ValueError", .type "Exception", .type "BaseException", .type "object"], ns := 171, qualname := Str.ofString "Asleep" }, slots := #[some (.ref 156), none, some (kS "Asleep" 359), some (kS "Asleep" 367), some (.builtin "ValueError.__new__"), some (.bool true)] }) ::
 (nat_lit 190, { cls := .type "dict", data := Data.dict #[kE P "__module__" 389 (kS "fencegate.errors" 194), kE P "__firstlineno__" 393 (.int 37 392), kE P "word" 400 (.ref 188), kE P "__static_attributes__" 401 (.ref 189), kE P "__doc__" 402 (.none)] 2 }) ::
 (nat_lit 191, { cls := .type "type", data := Data.cls { name := Str.ofString "NotHeld", bases := [.ref 38], mro := [.ref 191, .ref 38, .type "ValueError", .type "Exception", .type "BaseException", .type "object"], ns := 190, qualname := Str.ofString "NotHeld" }, slots := #[some (.ref 175), none, some (kS "NotHeld" 382), some (kS "NotHeld" 390), some (.builtin "ValueError.__new__"), some (.bool true)] }) ::
 (nat_lit 209, { cls := .type "dict", data := Data.dict #[kE P "__module__" 412 (kS "fencegate.errors" 194), kE P "__firstlineno__" 416 (.int 41 415), kE P "word" 423 (.ref 207), kE P "__static_attributes__" 424 (.ref 208), kE P "__doc__" 425 (.none)] 2 }) ::
 (nat_lit 210, { cls := .type "type", data := Data.cls { name := Str.ofString "ReadersOnly", bases := [.ref 38], mro := [.ref 210, .ref 38, .type "ValueError", .type "Exception", .type "BaseException", .type "object"], ns := 209, qualname := Str.ofString "ReadersOnly" }, slots := #[some (.ref 194), none, some (kS "ReadersOnly" 405), some (kS "ReadersOnly" 413), some (.builtin "ValueError.__new__"), some (.bool true)] }) ::
 (nat_lit 228, { cls := .type "dict", data := Data.dict #[kE P "__module__" 435 (kS "fencegate.errors" 194), kE P "__firstlineno__" 439 (.int 45 438), kE P "word" 446 (.ref 226), kE P "__static_attributes__" 447 (.ref 227), kE P "__doc__" 448 (.none)] 2 }) ::
 (nat_lit 229, { cls := .type "type", data := Data.cls { name := Str.ofString "Down", bases := [.ref 38], mro := [.ref 229, .ref 38, .type "ValueError", .type "Exception", .type "BaseException", .type "object"], ns := 228, qualname := Str.ofString "Down" }, slots := #[some (.ref 213), none, some (kS "Down" 428), some (kS "Down" 436), some (.builtin "ValueError.__new__"), some (.bool true)] }) ::
 (nat_lit 247, { cls := .type "dict", data := Data.dict #[kE P "__module__" 458 (kS "fencegate.errors" 194), kE P "__firstlineno__" 462 (.int 49 461), kE P "word" 469 (.ref 245), kE P "__static_attributes__" 470 (.ref 246), kE P "__doc__" 471 (.none)] 2 }) ::
 (nat_lit 248, { cls := .type "type", data := Data.cls { name := Str.ofString "OldNumber", bases := [.ref 38], mro := [.ref 248, .ref 38, .type "ValueError", .type "Exception", .type "BaseException", .type "object"], ns := 247, qualname := Str.ofString "OldNumber" }, slots := #[some (.ref 232), none, some (kS "OldNumber" 451), some (kS "OldNumber" 459), some (.builtin "ValueError.__new__"), some (.bool true)] }) ::
 (nat_lit 266, { cls := .type "dict", data := Data.dict #[kE P "__module__" 481 (kS "fencegate.errors" 194), kE P "__firstlineno__" 485 (.int 53 484), kE P "word" 492 (.ref 264), kE P "__static_attributes__" 493 (.ref 265), kE P "__doc__" 494 (.none)] 2 }) ::
 (nat_lit 267, { cls := .type "type", data := Data.cls { name := Str.ofString "InTheWay", bases := [.ref 38], mro := [.ref 267, .ref 38, .type "ValueError", .type "Exception", .type "BaseException", .type "object"], ns := 266, qualname := Str.ofString "InTheWay" }, slots := #[some (.ref 251), none, some (kS "InTheWay" 474), some (kS "InTheWay" 482), some (.builtin "ValueError.__new__"), some (.bool true)] }) ::
 (nat_lit 285, { cls := .type "dict", data := Data.dict #[kE P "__module__" 504 (kS "fencegate.errors" 194), kE P "__firstlineno__" 508 (.int 57 507), kE P "word" 515 (.ref 283), kE P "__static_attributes__" 516 (.ref 284), kE P "__doc__" 517 (.none)] 2 }) ::
 (nat_lit 286, { cls := .type "type", data := Data.cls { name := Str.ofString "NotFree", bases := [.ref 38], mro := [.ref 286, .ref 38, .type "ValueError", .type "Exception", .type "BaseException", .type "object"], ns := 285, qualname := Str.ofString "NotFree" }, slots := #[some (.ref 270), none, some (kS "NotFree" 497), some (kS "NotFree" 505), some (.builtin "ValueError.__new__"), some (.bool true)] }) ::
 (nat_lit 292, kC #[kS "good_name" 530, kS "good_name" 531, kS "/claim/cut.py" 532, .int 66 0, .int 1 0, .int 0 0, .int 0 0, .int 3 0, .ref 289, .bool true, .int 181 0, .ref 290, .none, .none, .none, .ref 291, .int 533 0, .int 66 0, kS "/claim/cut.py" 534]) ::
 (nat_lit 293, kF "good_name" "good_name" (ktop 21) (kS "fencegate.paths" 520) 292) ::
 (nat_lit 297, kC #[kS "good_path" 536, kS "good_path" 537, kS "/claim/cut.py" 538, .int 68 0, .int 1 0, .int 0 0, .int 0 0, .int 3 0, .ref 294, .bool true, .int 181 0, .ref 295, .none, .none, .none, .ref 296, .int 539 0, .int 68 0, kS "/claim/cut.py" 540]) ::
 (nat_lit 298, kF "good_path" "good_path" (ktop 22) (kS "fencegate.paths" 520) 297) ::
 (nat_lit 332, kC #[kS "__init__" 583, kS "Keeper.__init__" 584, kS "/claim/cut.py" 585, .int 81 0, .int 1 0, .int 0 0, .int 0 0, .int 3 0, .ref 327, .bool true, .int 181 0, .ref 328, .none, .ref 329, .ref 330, .ref 331, .int 587 0, .int 81 0, kS "/claim/cut.py" 588]) ::
 (nat_lit 333, kF "__init__" "Keeper.__init__" (kcls (ktop 27) 0) (kS "fencegate.keeper" 569) 332) ::
 (nat_lit 378, { cls := .type "dict", data := Data.dict #[kE P "__module__" 578 (kS "fencegate.keeper" 569), kE P "__firstlineno__" 582 (.int 79 581), kE P "__init__" 589 (.ref 333), kE P "fall" 596 (.ref 340), kE P "rise" 603 (.ref 347), kE P "live" 609 (.ref 352), kE P "names_in_way" 615 (.ref 357), kE P "says_free" 626 (.ref 364), kE P "take" 632 (.ref 369), kE P "drop" 641 (.ref 376), kE P "__static_attributes__" 645 (.ref 377), kE P "__dict__" 647 (.ref 380), kE P "__weakref__" 649 (.ref 381), kE P "__doc__" 650 (.none)] 4 }) ::
 (nat_lit 379, { cls := .type "type", data := Data.cls { name := Str.ofString "Keeper", bases := [.type "object"], mro := [.ref 379, .type "object"], ns := 378, qualname := Str.ofString "Keeper" }, slots := #[none, none, some (kS "Keeper" 571), some (kS "Keeper" 579), some (.builtin "object.__new__"), some (.bool true)] }) ::
 (nat_lit 380, { cls := .type "getset_descriptor", data := Data.fields #[kS "__dict__" 646, .ref 379, .builtin "function.__dict__", .builtin "function.__dict__#set"] }) ::
 (nat_lit 381, { cls := .type "getset_descriptor", data := Data.fields #[kS "__weakref__" 648, .ref 379, .builtin "ExceptionGroup.__weakref__", .none] }) ::
 (nat_lit 394, kC #[kS "__init__" 667, kS "Council.__init__" 668, kS "/claim/cut.py" 669, .int 118 0, .int 2 0, .int 0 0, .int 0 0, .int 3 0, .ref 391, .bool true, .int 181 0, .ref 392, .none, .none, .none, .ref 393, .int 670 0, .int 118 0, kS "/claim/cut.py" 671]) ::
 (nat_lit 395, kF "__init__" "Council.__init__" (kcls (ktop 29) 0) (kS "fencegate.council" 653) 394) ::
 (nat_lit 475, { cls := .type "dict", data := Data.dict #[kE P "__module__" 662 (kS "fencegate.council" 653), kE P "__firstlineno__" 666 (.int 116 665), kE P "__init__" 672 (.ref 395), kE P "keeper_at" 680 (.ref 402), kE P "up_keepers" 686 (.ref 407), kE P "fall" 694 (.ref 414), kE P "rise" 702 (.ref 421), kE P "ups" 709 (.ref 428), kE P "notes" 718 (.ref 435), kE P "sayers" 724 (.ref 440), kE P "give" 730 (.ref 445), kE P "drop" 739 (.ref 452), kE P "having" 748 (.ref 459), kE P "free_by" 757 (.ref 466), kE P "named" 772 (.ref 473), kE P "__static_attributes__" 775 (.ref 474), kE P "__dict__" 777 (.ref 477), kE P "__weakref__" 779 (.ref 478), kE P "__doc__" 780 (.none)] 4 }) ::
 (nat_lit 476, { cls := .type "type", data := Data.cls { name := Str.ofString "Council", bases := [.type "object"], mro := [.ref 476, .type "object"], ns := 475, qualname := Str.ofString "Council" }, slots := #[none, none, some (kS "Council" 655), some (kS "Council" 663), some (.builtin "object.__new__"), some (.bool true)] }) ::
 (nat_lit 477, { cls := .type "getset_descriptor", data := Data.fields #[kS "__dict__" 776, .ref 476, .builtin "function.__dict__", .builtin "function.__dict__#set"] }) ::
 (nat_lit 478, { cls := .type "getset_descriptor", data := Data.fields #[kS "__weakref__" 778, .ref 476, .builtin "ExceptionGroup.__weakref__", .none] }) ::
 (nat_lit 493, kC #[kS "__init__" 797, kS "Store.__init__" 798, kS "/claim/cut.py" 799, .int 172 0, .int 1 0, .int 0 0, .int 0 0, .int 3 0, .ref 488, .bool true, .int 181 0, .ref 489, .none, .ref 490, .ref 491, .ref 492, .int 801 0, .int 172 0, kS "/claim/cut.py" 802]) ::
 (nat_lit 494, kF "__init__" "Store.__init__" (kcls (ktop 31) 0) (kS "fencegate.store" 783) 493) ::
 (nat_lit 510, { cls := .type "dict", data := Data.dict #[kE P "__module__" 792 (kS "fencegate.store" 783), kE P "__firstlineno__" 796 (.int 170 795), kE P "__init__" 803 (.ref 494), kE P "take" 814 (.ref 501), kE P "taken" 821 (.ref 508), kE P "__static_attributes__" 824 (.ref 509), kE P "__dict__" 826 (.ref 512), kE P "__weakref__" 828 (.ref 513), kE P "__doc__" 829 (.none)] 4 }) ::
 (nat_lit 511, { cls := .type "type", data := Data.cls { name := Str.ofString "Store", bases := [.type "object"], mro := [.ref 511, .type "object"], ns := 510, qualname := Str.ofString "Store" }, slots := #[none, none, some (kS "Store" 785), some (kS "Store" 793), some (.builtin "object.__new__"), some (.bool true)] }) ::
 (nat_lit 512, { cls := .type "getset_descriptor", data := Data.fields #[kS "__dict__" 825, .ref 511, .builtin "function.__dict__", .builtin "function.__dict__#set"] }) ::
 (nat_lit 513, { cls := .type "getset_descriptor", data := Data.fields #[kS "__weakref__" 827, .ref 511, .builtin "ExceptionGroup.__weakref__", .none] }) ::
 (nat_lit 547, kC #[kS "all_differ" 878, kS "all_differ" 879, kS "/claim/cut.py" 880, .int 219 0, .int 3 0, .int 0 0, .int 0 0, .int 3 0, .ref 542, .bool true, .int 181 0, .ref 543, .none, .ref 544, .ref 545, .ref 546, .int 884 0, .int 219 0, kS "/claim/cut.py" 885]) ::
 (nat_lit 548, kF "all_differ" "all_differ" (ktop 42) (kS "fencegate.world" 868) 547) ::
 (nat_lit 552, kC #[kS "good_setup" 887, kS "good_setup" 888, kS "/claim/cut.py" 889, .int 221 0, .int 5 0, .int 0 0, .int 0 0, .int 3 0, .ref 549, .bool true, .int 181 0, .ref 550, .none, .none, .none, .ref 551, .int 890 0, .int 221 0, kS "/claim/cut.py" 891]) ::
 (nat_lit 553, kF "good_setup" "good_setup" (ktop 43) (kS "fencegate.world" 868) 552) ::
 (nat_lit 571, kC #[kS "__init__" 912, kS "World.__init__" 913, kS "/claim/cut.py" 914, .int 228 0, .int 6 0, .int 0 0, .int 0 0, .int 3 0, .ref 568, .bool true, .int 181 0, .ref 569, .none, .none, .none, .ref 570, .int 915 0, .int 228 0, kS "/claim/cut.py" 916]) ::
 (nat_lit 572, kF "__init__" "World.__init__" (kcls (ktop 45) 0) (kS "fencegate.world" 868) 571) ::
 (nat_lit 815, kC #[kS "log" 1210, kS "World.log" 1211, kS "/claim/cut.py" 1212, .int 406 0, .int 1 0, .int 0 0, .int 0 0, .int 3 0, .ref 810, .bool true, .int 181 0, .ref 811, .none, .ref 812, .ref 813, .ref 814, .int 1214 0, .int 406 0, kS "/claim/cut.py" 1215]) ::
 (nat_lit 816, kF "log" "World.log" (kcls (ktop 45) 36) (kS "fencegate.world" 868) 815) ::
 (nat_lit 818, { cls := .type "dict", data := Data.dict #[kE P "__module__" 907 (kS "fencegate.world" 868), kE P "__firstlineno__" 911 (.int 226 910), kE P "__init__" 917 (.ref 572), kE P "check_holder" 925 (.ref 579), kE P "check_lock" 933 (.ref 586), kE P "check_store" 941 (.ref 593), kE P "check_awake" 949 (.ref 600), kE P "check_carries" 958 (.ref 607), kE P "check_asking" 969 (.ref 614), kE P "ask" 980 (.ref 621), kE P "settle" 987 (.ref 628), kE P "give_all" 995 (.ref 635), kE P "first_to_give" 1003 (.ref 642), kE P "is_free" 1012 (.ref 649), kE P "give_to" 1025 (.ref 656), kE P "break_ring" 1031 (.ref 661), kE P "leave_row" 1037 (.ref 666), kE P "asking_of" 1046 (.ref 673), kE P "on_whom" 1055 (.ref 680), kE P "back" 1064 (.ref 687), kE P "write" 1077 (.ref 694), kE P "pause" 1085 (.ref 701), kE P "wake" 1093 (.ref 708), kE P "became" 1101 (.ref 715), kE P "fall" 1109 (.ref 722), kE P "rise" 1117 (.ref 729), kE P "turned" 1127 (.ref 736), kE P "tick" 1136 (.ref 743), kE P "carried" 1142 (.ref 748), kE P "row" 1149 (.ref 755), kE P "waits_on" 1157 (.ref 762), kE P "chain" 1163 (.ref 767), kE P "having" 1171 (.ref 774), kE P "free_by" 1179 (.ref 781), kE P "notes" 1187 (.ref 788), kE P "ups" 1194 (.ref 795), kE P "sleepers" 1201 (.ref 802), kE P "taken" 1209 (.ref 809), kE P "log" 1216 (.ref 816), kE P "__static_attributes__" 1229 (.ref 817), kE P "__dict__" 1231 (.ref 820), kE P "__weakref__" 1233 (.ref 821), kE P "__doc__" 1234 (.none)] 4 }) ::
 (nat_lit 819, { cls := .type "type", data := Data.cls { name := Str.ofString "World", bases := [.type "object"], mro := [.ref 819, .type "object"], ns := 818, qualname := Str.ofString "World" }, slots := #[none, none, some (kS "World" 900), some (kS "World" 908), some (.builtin "object.__new__"), some (.bool true)] }) ::
 (nat_lit 820, { cls := .type "getset_descriptor", data := Data.fields #[kS "__dict__" 1230, .ref 819, .builtin "function.__dict__", .builtin "function.__dict__#set"] }) ::
 (nat_lit 821, { cls := .type "getset_descriptor", data := Data.fields #[kS "__weakref__" 1232, .ref 819, .builtin "ExceptionGroup.__weakref__", .none] }) ::
 (nat_lit 829, kC #[kS "_law_at" 1239, kS "_law_at" 1240, kS "/claim/cut.py" 1241, .int 409 0, .int 2 0, .int 0 0, .int 0 0, .int 3 0, .ref 824, .bool true, .int 181 0, .ref 825, .none, .ref 826, .ref 827, .ref 828, .int 1244 0, .int 409 0, kS "/claim/cut.py" 1245]) ::
 (nat_lit 830, kF "_law_at" "_law_at" (ktop 47) (kS "law_fencegate_k21_setup" 1237) 829) ::
 (nat_lit 834, kC #[kS "_law_same" 1247, kS "_law_same" 1248, kS "/claim/cut.py" 1249, .int 413 0, .int 2 0, .int 0 0, .int 0 0, .int 3 0, .ref 831, .bool true, .int 181 0, .ref 832, .none, .none, .none, .ref 833, .int 1250 0, .int 413 0, kS "/claim/cut.py" 1251]) ::
 (nat_lit 835, kF "_law_same" "_law_same" (ktop 48) (kS "law_fencegate_k21_setup" 1237) 834) ::
 (nat_lit 841, kC #[kS "_law_name" 1253, kS "_law_name" 1254, kS "/claim/cut.py" 1255, .int 423 0, .int 2 0, .int 0 0, .int 0 0, .int 3 0, .ref 836, .bool true, .int 181 0, .ref 837, .none, .ref 838, .ref 839, .ref 840, .int 1265 0, .int 423 0, kS "/claim/cut.py" 1266]) ::
 (nat_lit 842, kF "_law_name" "_law_name" (ktop 49) (kS "law_fencegate_k21_setup" 1237) 841) ::
 (nat_lit 846, kC #[kS "_law_names" 1268, kS "_law_names" 1269, kS "/claim/cut.py" 1270, .int 441 0, .int 2 0, .int 0 0, .int 0 0, .int 3 0, .ref 843, .bool true, .int 181 0, .ref 844, .none, .none, .none, .ref 845, .int 1271 0, .int 441 0, kS "/claim/cut.py" 1272]) ::
 (nat_lit 847, kF "_law_names" "_law_names" (ktop 50) (kS "law_fencegate_k21_setup" 1237) 846) ::
 (nat_lit 853, kC #[kS "_law_locks" 1274, kS "_law_locks" 1275, kS "/claim/cut.py" 1276, .int 443 0, .int 3 0, .int 0 0, .int 0 0, .int 3 0, .ref 848, .bool true, .int 181 0, .ref 849, .none, .ref 850, .ref 851, .ref 852, .int 1285 0, .int 443 0, kS "/claim/cut.py" 1286]) ::
 (nat_lit 854, kF "_law_locks" "_law_locks" (ktop 51) (kS "law_fencegate_k21_setup" 1237) 853) ::
 (nat_lit 860, kC #[kS "_law_some" 1288, kS "_law_some" 1289, kS "/claim/cut.py" 1290, .int 462 0, .int 2 0, .int 0 0, .int 0 0, .int 3 0, .ref 855, .bool true, .int 181 0, .ref 856, .none, .ref 857, .ref 858, .ref 859, .int 1296 0, .int 462 0, kS "/claim/cut.py" 1297]) ::
 (nat_lit 861, kF "_law_some" "_law_some" (ktop 52) (kS "law_fencegate_k21_setup" 1237) 860) ::
 (nat_lit 867, kC #[kS "_law_setup" 1299, kS "_law_setup" 1300, kS "/claim/cut.py" 1301, .int 470 0, .int 1 0, .int 0 0, .int 0 0, .int 3 0, .ref 862, .bool true, .int 181 0, .ref 863, .none, .ref 864, .ref 865, .ref 866, .int 1308 0, .int 470 0, kS "/claim/cut.py" 1309]) ::
 (nat_lit 868, kF "_law_setup" "_law_setup" (ktop 53) (kS "law_fencegate_k21_setup" 1237) 867) ::
 (nat_lit 874, kC #[kS "_law_good" 1311, kS "_law_good" 1312, kS "/claim/cut.py" 1313, .int 477 0, .int 1 0, .int 0 0, .int 0 0, .int 3 0, .ref 869, .bool true, .int 181 0, .ref 870, .none, .ref 871, .ref 872, .ref 873, .int 1316 0, .int 477 0, kS "/claim/cut.py" 1317]) ::
 (nat_lit 875, kF "_law_good" "_law_good" (ktop 54) (kS "law_fencegate_k21_setup" 1237) 874) ::
 (nat_lit 879, kC #[kS "_law_names_ok" 1319, kS "_law_names_ok" 1320, kS "/claim/cut.py" 1321, .int 484 0, .int 3 0, .int 0 0, .int 0 0, .int 3 0, .ref 876, .bool true, .int 181 0, .ref 877, .none, .none, .none, .ref 878, .int 1322 0, .int 484 0, kS "/claim/cut.py" 1323]) ::
 (nat_lit 880, kF "_law_names_ok" "_law_names_ok" (ktop 55) (kS "law_fencegate_k21_setup" 1237) 879) ::
 (nat_lit 884, kC #[kS "_law_ok" 1325, kS "_law_ok" 1326, kS "/claim/cut.py" 1327, .int 488 0, .int 2 0, .int 0 0, .int 0 0, .int 3 0, .ref 881, .bool true, .int 181 0, .ref 882, .none, .none, .none, .ref 883, .int 1328 0, .int 488 0, kS "/claim/cut.py" 1329]) ::
 (nat_lit 885, kF "_law_ok" "_law_ok" (ktop 56) (kS "law_fencegate_k21_setup" 1237) 884) ::
 (nat_lit 889, kC #[kS "_law_spoil" 1331, kS "_law_spoil" 1332, kS "/claim/cut.py" 1333, .int 502 0, .int 3 0, .int 0 0, .int 0 0, .int 3 0, .ref 886, .bool true, .int 181 0, .ref 887, .none, .none, .none, .ref 888, .int 1334 0, .int 502 0, kS "/claim/cut.py" 1335]) ::
 (nat_lit 890, kF "_law_spoil" "_law_spoil" (ktop 57) (kS "law_fencegate_k21_setup" 1237) 889) ::
 (nat_lit 896, kC #[kS "_law_made" 1337, kS "_law_made" 1338, kS "/claim/cut.py" 1339, .int 521 0, .int 2 0, .int 0 0, .int 0 0, .int 3 0, .ref 891, .bool true, .int 181 0, .ref 892, .none, .ref 893, .ref 894, .ref 895, .int 1344 0, .int 521 0, kS "/claim/cut.py" 1345]) ::
 (nat_lit 897, kF "_law_made" "_law_made" (ktop 58) (kS "law_fencegate_k21_setup" 1237) 896) ::
 (nat_lit 901, kC #[kS "law" 1347, kS "law" 1348, kS "/claim/cut.py" 1349, .int 527 0, .int 1 0, .int 0 0, .int 0 0, .int 3 0, .ref 898, .bool true, .int 181 0, .ref 899, .none, .none, .none, .ref 900, .int 1350 0, .int 527 0, kS "/claim/cut.py" 1351]) ::
 (nat_lit 902, kF "law" "law" (ktop 59) (kS "law_fencegate_k21_setup" 1237) 901) :: []
def ka : List Addr := 2 :: 3 :: 37 :: 38 :: 39 :: 57 :: 58 :: 76 :: 77 :: 95 :: 96 :: 114 :: 115 :: 133 :: 134 :: 152 :: 153 :: 171 :: 172 :: 190 :: 191 :: 209 :: 210 :: 228 :: 229 :: 247 :: 248 :: 266 :: 267 :: 285 :: 286 :: 292 :: 293 :: 297 :: 298 :: 332 :: 333 :: 378 :: 379 :: 380 :: 381 :: 394 :: 395 :: 475 :: 476 :: 477 :: 478 :: 493 :: 494 :: 510 :: 511 :: 512 :: 513 :: 547 :: 548 :: 552 :: 553 :: 571 :: 572 :: 815 :: 816 :: 818 :: 819 :: 820 :: 821 :: 829 :: 830 :: 834 :: 835 :: 841 :: 842 :: 846 :: 847 :: 853 :: 854 :: 860 :: 861 :: 867 :: 868 :: 874 :: 875 :: 879 :: 880 :: 884 :: 885 :: 889 :: 890 :: 896 :: 897 :: 901 :: 902 :: []
def vw : Program := { PySem.Challenge.pw_fencegate_k21_setup with main := { PySem.Challenge.pw_fencegate_k21_setup.main with body := ktop 0 :: ktop 2 :: ktop 3 :: ktop 4 :: ktop 5 :: ktop 6 :: ktop 7 :: ktop 8 :: ktop 9 :: ktop 10 :: ktop 11 :: ktop 12 :: ktop 13 :: ktop 14 :: ktop 15 :: ktop 17 :: ktop 18 :: ktop 19 :: ktop 20 :: ktop 21 :: ktop 22 :: ktop 23 :: ktop 24 :: ktop 25 :: ktop 27 :: ktop 29 :: ktop 31 :: ktop 33 :: ktop 34 :: ktop 35 :: ktop 36 :: ktop 38 :: ktop 39 :: ktop 40 :: ktop 41 :: ktop 42 :: ktop 43 :: ktop 44 :: ktop 45 :: ktop 47 :: ktop 48 :: ktop 49 :: ktop 50 :: ktop 51 :: ktop 52 :: ktop 53 :: ktop 54 :: ktop 55 :: ktop 56 :: ktop 57 :: ktop 58 :: ktop 59 :: [] } }
theorem ka_eq (P : Params) : ka = (kk P).map (·.1) := by kernel_rfl
def kT (vs : Array Value) : Obj := { cls := .type "tuple", data := .seq vs }
noncomputable def hA (P : Params) : List Obj := PySem.W.boot_o_0 P ::
 PySem.W.boot_o_1 P ::
 PySem.W.boot_o_2 P ::
 PySem.W.boot_o_3 P ::
 PySem.W.boot_o_4 P ::
 PySem.W.boot_o_5 P ::
 PySem.W.boot_o_6 P ::
 PySem.W.boot_o_7 P ::
 PySem.W.boot_o_8 P ::
 PySem.W.boot_o_9 P ::
 PySem.W.boot_o_10 P ::
 kT #[] ::
 { cls := .none, data := Data.fields #[] } ::
 kC #[kS "<module>" 182, kS "<module>" 183, kS "/claim/cut.py" 184, .int 1 0, .int 0 0, .int 0 0, .int 0 0, .int 0 0, .ref 11, .bool false, .int 181 0, .ref 12, .none, .none, .none, .none, .int 185 0, .int 1 0, kS "/claim/cut.py" 186] ::
 { cls := .type "frame", slots := #[some (.ref 13), some (.ref 3), some (.ref 3), none, some (kS "__main__" 164), none, some (.ref 0)] } :: []
noncomputable def hB (P : Params) : List Obj := PySem.W.boot_o_0 P ::
 PySem.W.boot_o_1 P ::
 PySem.W.boot_o_2 P ::
 PySem.W.boot_o_3 P ::
 PySem.W.boot_o_4 P ::
 PySem.W.boot_o_5 P ::
 PySem.W.boot_o_6 P ::
 PySem.W.boot_o_7 P ::
 PySem.W.boot_o_8 P ::
 PySem.W.boot_o_9 P ::
 PySem.W.boot_o_10 P ::
 kT #[] ::
 { cls := .none, data := Data.fields #[] } ::
 kC #[kS "<module>" 182, kS "<module>" 183, kS "/claim/cut.py" 184, .int 1 0, .int 0 0, .int 0 0, .int 0 0, .int 0 0, .ref 11, .bool false, .int 181 0, .ref 12, .none, .none, .none, .none, .int 185 0, .int 1 0, kS "/claim/cut.py" 186] ::
 { cls := .type "frame", slots := #[some (.ref 13), some (.ref 3), some (.ref 3), none, some (kS "__main__" 164), none, some (.ref 0)] } :: []
noncomputable def kB (w : World) (os : OsState) : PySem.W.SharedT := ⟨PySem.W.kIns (hB w.params) 0 .nil, 15, {}, #[], {}, 187, os⟩
def kenv : Env := { scope := PySem.Challenge.pw_fencegate_k21_setup.main.scope, locals := mainNs, globals := mainNs, cells := [], code := Value.ref 13, frame := some 14 }
noncomputable def kA (w : World) (os : OsState) : Shared := ⟨Heap.mk (Array.mk (hA w.params)) {}, #[], {}, 187, os⟩
theorem zcz (w : World) (os : OsState) : PySem.W.topGo treeTable PySem.Challenge.rw_fencegate_k21_setup.row.prog w 11 (some (Value.ref 6)) 12 ⟨PySem.W.boot_heap w.params, #[], PySem.W.boot_drawn, PySem.W.boot_toks, os⟩ (PySem.W.topStub PySem.Challenge.rw_fencegate_k21_setup.row.prog) = some (kA w os, ⟨denote treeTable (.body (PySem.Challenge.pw_fencegate_k21_setup.main.body ++ []) kenv), (Code.body (PySem.W.behindTheImports PySem.Challenge.pw_fencegate_k21_setup) kenv), ⟨0, 0, 0, 0⟩, [PySem.W.topFrame ⟨0, 0, 0, 0⟩]⟩) := by kernel_rfl
theorem zd0 (w : World) (os : OsState) : PySem.W.segRun treeTable PySem.Challenge.rw_fencegate_k21_setup.row.prog w 11 (some (Value.ref 6)) 1 1 (kA w os) (PySem.W.blockOf (PySem.Challenge.pw_fencegate_k21_setup.main.body ++ []) kenv (Code.body (PySem.W.behindTheImports PySem.Challenge.pw_fencegate_k21_setup) kenv) ⟨0, 0, 0, 0⟩ [PySem.W.topFrame ⟨0, 0, 0, 0⟩]) = some (.next, (kB w os).abs, (Code.body (PySem.W.behindTheImports PySem.Challenge.pw_fencegate_k21_setup) kenv), ⟨0, 0, 0, 0⟩) := by kernel_rfl
set_option maxHeartbeats 0 in
theorem zdm (w : World) (os : OsState) : (PySem.W.Fast.tw10110043849684766642 PySem.W.Fast.tw14364793385576792824 PySem.Challenge.rw_fencegate_k21_setup.row.prog w 11 (some (Value.ref 6)) 1 6998 (kB w os) (PySem.W.piecesOf PySem.Challenge.pw_fencegate_k21_setup.main.body kenv (Code.body (PySem.W.behindTheImports PySem.Challenge.pw_fencegate_k21_setup) kenv) ⟨0, 0, 0, 0⟩ [PySem.W.topFrame ⟨0, 0, 0, 0⟩])).map (fun r => (r.1, r.2.2.1, r.2.2.2, (((PySem.W.Fast.tw14082659384304107361 PySem.W.Fast.tw14364793385576792824 PySem.Challenge.rw_fencegate_k21_setup.row.prog w 11 (some (Value.ref 6)) 200 r.2.1.abs (PySem.W.restOf [] kenv (Code.body (PySem.W.behindTheImports PySem.Challenge.pw_fencegate_k21_setup) kenv) ⟨527, 0, 542, 38⟩ [PySem.W.topFrame ⟨0, 0, 0, 0⟩])).bind fun s₁ => match PySem.W.staticsOk (importedModules PySem.Challenge.rw_fencegate_k21_setup.row.prog.main.body) (PySem.W.boot_heap w.params) s₁.heap && PySem.W.namesBound PySem.Challenge.rw_fencegate_k21_setup.row.prog s₁.heap && PySem.W.gensDone s₁ && PySem.W.laidKept (PySem.W.boot_heap w.params) s₁.heap with
  | true => some s₁
  | false => none).map (fun s => (seen ((recsOf vw).map (·.name)) (ownsOf vw) [] { s with gens := #[] }, s.heap.bltView, s.heap.keysOk (looseW vw []) ((recsOf vw).map (·.name)) ((litsOf vw).map (·.1)) ((clssOf vw (looseW vw [])).map (·.name)) && s.heap.accountedOkI (importedModules PySem.Challenge.rw_fencegate_k21_setup.row.prog.main.body) && s.heap.isNs mainGlobals && s.heap.isNs builtinsNs && tablesOk vw s.heap && (PySem.W.xlAt vw [] s && PySem.W.recOk (PySem.W.RowW.records (PySem.W.OpenRow.toRowW PySem.Challenge.rw_fencegate_k21_setup.row)) s) && (if true then s.gens.size == 0 else !leftWithCleanup s.gens), tabsOk vw s))))) = some (.next, (Code.body (PySem.W.behindTheImports PySem.Challenge.pw_fencegate_k21_setup) kenv), ⟨527, 0, 542, 38⟩, some (expectedOf vw, bltViewBooted, true, true)) := by kernel_rfl
set_option maxHeartbeats 0 in
theorem zdn (w : World) (os : OsState) : (PySem.W.Fast.tw10110043849684766642 PySem.W.Fast.tw14364793385576792824 PySem.Challenge.rw_fencegate_k21_setup.row.prog w 11 (some (Value.ref 6)) 1 6998 (kB w os) (PySem.W.piecesOf PySem.Challenge.pw_fencegate_k21_setup.main.body kenv (Code.body (PySem.W.behindTheImports PySem.Challenge.pw_fencegate_k21_setup) kenv) ⟨0, 0, 0, 0⟩ [PySem.W.topFrame ⟨0, 0, 0, 0⟩])).map (fun r => (r.1, r.2.2.1, r.2.2.2, (((PySem.W.Fast.tw14082659384304107361 PySem.W.Fast.tw14364793385576792824 PySem.Challenge.rw_fencegate_k21_setup.row.prog w 11 (some (Value.ref 6)) 200 r.2.1.abs (PySem.W.restOf [] kenv (Code.body (PySem.W.behindTheImports PySem.Challenge.pw_fencegate_k21_setup) kenv) ⟨527, 0, 542, 38⟩ [PySem.W.topFrame ⟨0, 0, 0, 0⟩])).bind fun s₁ => match PySem.W.staticsOk (importedModules PySem.Challenge.rw_fencegate_k21_setup.row.prog.main.body) (PySem.W.boot_heap w.params) s₁.heap && PySem.W.namesBound PySem.Challenge.rw_fencegate_k21_setup.row.prog s₁.heap && PySem.W.gensDone s₁ && PySem.W.laidKept (PySem.W.boot_heap w.params) s₁.heap with
  | true => some s₁
  | false => none).map (fun s => plainSeenE vw (looseW vw []) s)))) = some (.next, (Code.body (PySem.W.behindTheImports PySem.Challenge.pw_fencegate_k21_setup) kenv), ⟨527, 0, 542, 38⟩, some (plainGoodE vw (looseW vw []))) := by kernel_rfl
set_option maxHeartbeats 0 in
theorem zdo (w : World) (os : OsState) : (PySem.W.Fast.tw10110043849684766642 PySem.W.Fast.tw14364793385576792824 PySem.Challenge.rw_fencegate_k21_setup.row.prog w 11 (some (Value.ref 6)) 1 6998 (kB w os) (PySem.W.piecesOf PySem.Challenge.pw_fencegate_k21_setup.main.body kenv (Code.body (PySem.W.behindTheImports PySem.Challenge.pw_fencegate_k21_setup) kenv) ⟨0, 0, 0, 0⟩ [PySem.W.topFrame ⟨0, 0, 0, 0⟩])).map (fun r => (r.1, r.2.2.1, r.2.2.2, (((PySem.W.Fast.tw14082659384304107361 PySem.W.Fast.tw14364793385576792824 PySem.Challenge.rw_fencegate_k21_setup.row.prog w 11 (some (Value.ref 6)) 200 r.2.1.abs (PySem.W.restOf [] kenv (Code.body (PySem.W.behindTheImports PySem.Challenge.pw_fencegate_k21_setup) kenv) ⟨527, 0, 542, 38⟩ [PySem.W.topFrame ⟨0, 0, 0, 0⟩])).bind fun s₁ => match PySem.W.staticsOk (importedModules PySem.Challenge.rw_fencegate_k21_setup.row.prog.main.body) (PySem.W.boot_heap w.params) s₁.heap && PySem.W.namesBound PySem.Challenge.rw_fencegate_k21_setup.row.prog s₁.heap && PySem.W.gensDone s₁ && PySem.W.laidKept (PySem.W.boot_heap w.params) s₁.heap with
  | true => some s₁
  | false => none).map (fun s => (pinSeenD vw (drecsOf vw) s, plainSeenD vw [] s, wideSeen vw s, clsSeenW vw [] s, (PySem.W.kHook kk ka ka_eq).obs s))))) = some (.next, (Code.body (PySem.W.behindTheImports PySem.Challenge.pw_fencegate_k21_setup) kenv), ⟨527, 0, 542, 38⟩, some (pinGoodD (drecsOf vw), plainGoodD vw [], wideGood vw, clsGoodW vw [], (PySem.W.kHook kk ka ka_eq).val w)) := by kernel_rfl
theorem zcb (w : World) : (((PySem.W.boot_heap w.params).isNs mainGlobals && (#[] : Array GenState).size == 0), (PySem.W.boot_heap w.params).objs.size, (PySem.W.boot_heap w.params).nsMap mainGlobals "__annotations__") = (true, 11, (some (Value.ref 6))) := by kernel_rfl
theorem left_ok : PySem.W.LeftO PySem.Challenge.rw_fencegate_k21_setup.row.prog vw [] (fun s => PySem.W.xlAt vw [] s && PySem.W.recOk (PySem.W.RowW.records (PySem.W.OpenRow.toRowW PySem.Challenge.rw_fencegate_k21_setup.row)) s) (PySem.W.kHook kk ka ka_eq).obs (PySem.W.kHook kk ka ka_eq).val (12 + (1 + (6998 + 200))) :=
 PySem.W.left_of (PySem.W.boot_open (p := PySem.Challenge.rw_fencegate_k21_setup.row.prog) (N := 12 + (1 + (6998 + 200))) (by kernel_rfl) (by decide) (fun s => by kernel_rfl)) zcz zd0
  (fun w os => by
   unfold PySem.W.headSeen
   have x := z8n (z8n (zdm w os) (zdn w os)) (zdo w os)
   rw [← PySem.W.Fast.te10110043849684766642, ← PySem.W.Fast.te14082659384304107361, ← PySem.W.Fast.te14364793385576792824] at x
   exact zca (fun v => ((v.1.1.1, v.1.1.2.1, v.1.1.2.2.1, v.1.1.2.2.2, v.2.1, v.1.2, v.2.2.1, v.2.2.2.1, v.2.2.2.2.1), v.2.2.2.2.2)) (fun s => rfl) x) zcb
end Fg
end
section
namespace L2
open PySem PySem.Spec PyProof.Rows
abbrev Key := Sum Int Str
def z4n : Key → Value → Bool
 | .inl k, v => Value.isInt k v
 | .inr x, v => Value.isStrOf x v
def keyH (w : World) : Key → Int
 | .inl k => hashInt k
 | .inr x => hashStr w x
theorem z1c : ∀ {k : Key} {v : Value}, z4n k v = true → (∃ i t, k = Sum.inl i ∧ v = Value.int i t) ∨ (∃ x t, k = Sum.inr x ∧ v = Value.str x t)
 | .inl i, v, h => by
  obtain ⟨t, e⟩ := Value.isInt_shape (k := i) (v := v) h
  exact .inl ⟨i, t, rfl, e⟩
 | .inr x, v, h => by
  obtain ⟨t, e⟩ := Value.isStrOf_shape (x := x) (v := v) h
  exact .inr ⟨x, t, rfl, e⟩
theorem z9w (i : Int) (t : Tok) : z4n (.inl i) (.int i t) = true := by simp [z4n, Value.isInt]
theorem z9x (x : Str) (t : Tok) : z4n (.inr x) (.str x t) = true := by simp [z4n, Value.isStrOf]
theorem zd1 (a b : Int) : decide ((Sum.inl a : Key) = Sum.inl b) = (a == b) := by
 by_cases e : a = b
 ·subst e; simp
 ·have h : ¬ (Sum.inl a : Key) = Sum.inl b := fun q => e (Sum.inl.inj q)
  rw [decide_eq_false h]
  exact (beq_eq_false_iff_ne.mpr e).symm
theorem zd2 (a b : Str) : decide ((Sum.inr a : Key) = Sum.inr b) = decide (a = b) := by
 by_cases e : a = b
 ·subst e; simp
 ·have h : ¬ (Sum.inr a : Key) = Sum.inr b := fun q => e (Sum.inr.inj q)
  rw [decide_eq_false h, decide_eq_false e]
theorem zd3 (a : Int) (b : Str) : decide ((Sum.inl a : Key) = Sum.inr b) = false := decide_eq_false (fun q => nomatch q)
theorem zd4 (a : Str) (b : Int) : decide ((Sum.inr a : Key) = Sum.inl b) = false := decide_eq_false (fun q => nomatch q)
def z1i (prog : Program) (w : World) : PySem.KeyKind prog w Key where
 is := z4n
 hash := keyH w
 inj := fun v a b ha hb => by
  rcases z1c ha with ⟨i, t, rfl, rfl⟩ | ⟨x, t, rfl, rfl⟩
  ·rcases z1c hb with ⟨j, u, rfl, e⟩ | ⟨y, u, rfl, e⟩
   ·injection e with e1 _; rw [e1]
   ·exact nomatch e
  ·rcases z1c hb with ⟨j, u, rfl, e⟩ | ⟨y, u, rfl, e⟩
   ·exact nomatch e
   ·injection e with e1 _; rw [e1]
 byValue := fun k v h => by
  rcases z1c h with ⟨i, t, rfl, rfl⟩ | ⟨x, t, rfl, rfl⟩ <;> rfl
 pyHash := fun hv h => by
  rcases z1c hv with ⟨i, t, rfl, rfl⟩ | ⟨x, t, rfl, rfl⟩
  ·exact wpAny_pyHash_int h
  ·exact wpAny_pyHash_str h
 eqBool := fun hu hv h => by
  rcases z1c hu with ⟨i, t, rfl, rfl⟩ | ⟨x, t, rfl, rfl⟩
  ·rcases z1c hv with ⟨j, u, rfl, rfl⟩ | ⟨y, u, rfl, rfl⟩
   ·rw [zd1] at h; exact wpAny_eqBool_int h
   ·rw [zd3] at h; exact SeqAt.EqAt.int_str i t y u _ _ _ _ h
  ·rcases z1c hv with ⟨j, u, rfl, rfl⟩ | ⟨y, u, rfl, rfl⟩
   ·rw [zd4] at h; exact SeqAt.EqAt.str_int x t j u _ _ _ _ h
   ·rw [zd2] at h; exact wpAny_eqBool_str h
 «strs» := fun k x t v h => by
  rcases z1c h with ⟨i, u, rfl, e⟩ | ⟨y, u, rfl, e⟩
  ·exact nomatch e
  ·injection e with e1 _
   subst e1
   cases v <;> rfl
theorem z8b (prog : Program) (w : World) (i : Int) (t : Tok) : (z1i prog w).is (.inl i) (.int i t) = true := z9w i t
theorem z8c (prog : Program) (w : World) (x : Str) (t : Tok) : (z1i prog w).is (.inr x) (.str x t) = true := z9x x t
end L2
namespace L2
open PySem PySem.Spec PyProof.Rows
inductive V where
 | non | bl (b : Bool) | int (i : Int) | str (x : Str) | byt (b : Array UInt8) | flt (b : UInt64) | ref (a : Addr) | ty (n : String)
 deriving DecidableEq
def RelV : V → Value → Prop
 | .non, u => u = Value.none
 | .bl b, u => u = Value.bool b
 | .int i, u => ∃ t, u = Value.int i t
 | .str x, u => ∃ t, u = Value.str x t
 | .byt b, u => ∃ t, u = Value.bytes b t
 | .flt b, u => ∃ t, u = Value.float b t
 | .ref a, u => u = Value.ref a
 | .ty n, u => u = Value.type n
abbrev Vals : List V → List Value → Prop := Paired RelV
theorem Vals.length {xs : List V} {us : List Value} (r : Vals xs us) : xs.length = us.length := Paired.length r
theorem Vals.get : ∀ {xs : List V} {us : List Value} {i : Nat} {x : V}, Vals xs us → xs[i]? = some x → ∃ u, us[i]? = some u ∧ RelV x u
 | _, _, _, _, .nil, e => by simp at e
 | _, _, 0, _, .cons r _, e => by simp at e; subst e; exact ⟨_, rfl, r⟩
 | _, _, i + 1, x, .cons _ t, e => by
  obtain ⟨u, h1, h2⟩ := Vals.get (i := i) (x := x) t (by simpa using e)
  exact ⟨u, by simpa using h1, h2⟩
theorem Vals.set {x : V} {u : Value} (r : RelV x u) : ∀ {xs : List V} {us : List Value} (i : Nat), Vals xs us → Vals (xs.set i x) (us.set i u)
 | _, _, _, .nil => .nil
 | _, _, 0, .cons _ t => .cons r t
 | _, _, i + 1, .cons q t => .cons q (Vals.set r i t)
theorem Vals.append : ∀ {xs ys : List V} {us ws : List Value}, Vals xs us → Vals ys ws → Vals (xs ++ ys) (us ++ ws)
 | _, _, _, _, .nil, s => s
 | _, _, _, _, .cons r t, s => .cons r (Vals.append t s)
theorem Vals.take : ∀ {xs : List V} {us : List Value} (n : Nat), Vals xs us → Vals (xs.take n) (us.take n)
 | _, _, 0, _ => .nil
 | _, _, _ + 1, .nil => .nil
 | _, _, n + 1, .cons r t => .cons r (Vals.take n t)
theorem Vals.drop : ∀ {xs : List V} {us : List Value} (n : Nat), Vals xs us → Vals (xs.drop n) (us.drop n)
 | _, _, 0, r => r
 | _, _, _ + 1, .nil => .nil
 | _, _, n + 1, .cons _ t => Vals.drop n t
theorem Vals.none_of : ∀ {xs : List V} {us : List Value} {i : Nat}, Vals xs us → xs[i]? = none → us[i]? = none := fun {xs us i} r e => by
 have h1 := r.length
 have h2 : xs.length ≤ i := List.getElem?_eq_none_iff.mp e
 exact List.getElem?_eq_none_iff.mpr (by omega)
def RelO : Option V → Option Value → Prop
 | some v, some u => RelV v u
 | none, none => True
 | _, _ => False
def KV {κ : Type} : List (κ × V) → List (κ × Value) → Prop := Paired fun (p : κ × V) (q : κ × Value) => p.1 = q.1 ∧ RelV p.2 q.2
def kV : Key → V
 | .inl i => .int i
 | .inr x => .str x
inductive HO where
 | lst (xs : List V)
 | tup (xs : List V)
 | dK (kvs : List (Key × V)) | dT (kvs : List (List Key × V))
 | set (S : Int → Bool) (n : Nat)
 | ins (C dx : Addr) (fs : List (Str × V))
 | own (x : Addr)
 | xd (fs : List (Str × V))
 | met (f x : Addr)
 | rng (lo hi : Int)
 | frz (o : Obj) (u : HO)
 | tbl (ps : Array Value)
 | ext (φ : Heap → Prop)
abbrev Hp := Addr → Option HO
def upd (H : Hp) (a : Addr) (o : HO) : Hp := fun b => if b = a then some o else H b
theorem z7 {H : Hp} {a : Addr} {o : HO} : upd H a o a = some o := by unfold upd; rw [if_pos rfl]
theorem zc {H : Hp} {a b : Addr} {o : HO} (h : b ≠ a) : upd H a o b = H b := by unfold upd; rw [if_neg h]
theorem zi {H : Hp} {a b : Addr} {o : HO} (h : H a = some o) (h' : H b = none) : a ≠ b := by
 intro e; subst e; rw [h] at h'; cases h'
section
variable (P : Program) (w : World)
def ObjOk (H : Hp) (h : Heap) (a : Addr) : HO → Prop
 | .lst xs => xs.length ≤ sizeLine ∧ ∃ (its : List Value) (n : Nat), Vals xs its ∧ h.get? a = some { cls := .type "list", data := .seq its.toArray n }
 | .tup xs => xs.length ≤ sizeLine ∧ ∃ its : List Value, Vals xs its ∧ IsTup h a its.toArray
 | .dK kvs => kvs.length ≤ sizeLine ∧ (a == sysModules) = false ∧ ∃ vs, KV kvs vs ∧ h.DictOf (z1i P w) a vs
 | .dT kvs => kvs.length ≤ sizeLine ∧ (a == sysModules) = false ∧ ∃ xs : List (List Key × Addr × Value),
   Paired (fun (p : List Key × V) (q : List Key × Addr × Value) => p.1 = q.1 ∧ H q.2.1 = some (.tup (p.1.map kV)) ∧ RelV p.2 q.2.2) kvs xs ∧
   ∃ o es ep, h.get? a = some o ∧ o.ExactDict ∧ o.data = .dict es ep ∧ es.toList = xs.map (entryOfKey (tupleKind (z1i P w))) ∧ (xs.map (·.1)).Nodup
 | .set S n => h.SetOf (intKind P w) a S n
 | .ins C dx fs => H dx = some (.own a) ∧ fs.length ≤ 1000 ∧ dx ≠ a ∧ h.get? a = some (PySem.W.instObj C dx) ∧
   ∃ mA, h.Ns1 dx mA ∧ (∀ f, RelO (fs.lookup f) (mA f)) ∧ PySem.Within mA (fs.map (·.1))
 | .own _ => ∃ o, h.get? a = some o
 | .xd fs => ∃ mA, h.Ns1 a mA ∧ ∀ f, RelO (fs.lookup f) (mA f)
 | .rng lo hi => ∃ t u v, h.get? a = some { cls := .type "range", data := .fields #[.int lo t, .int hi u, .int 1 v] }
 | .frz o u => h.get? a = some o ∧ ObjOk H h a u
 | .tbl ps => h.get? a = some { cls := .none, data := .fields ps }
 | .met f x => h.get? a = some (PySem.W.methodObj (.ref f) (.ref x))
 | .ext φ => φ h ∧ (∃ o, h.get? a = some o) ∧ ∀ h1 h2 : Heap, φ h1 → (∀ o, h1.get? a = some o → h2.get? a = some o) → φ h2
def HOk (H : Hp) (h : Heap) : Prop := ∀ a o, H a = some o → ObjOk P w H h a o
end
section
variable {P : Program} {w : World} {H H' : Hp} {h h' : Heap} {a : Addr} {o : HO}
theorem ObjOk.lt (x : ObjOk P w H h a o) : a < h.objs.size := by
 cases o with
 | lst xs => obtain ⟨_, _, _, _, e⟩ := x; exact Heap.lt_size e
 | tup xs => obtain ⟨_, _, _, p⟩ := x; exact p.lt
 | dK kvs => obtain ⟨_, _, _, _, o, _, _, e, _⟩ := x; exact Heap.lt_size e
 | dT kvs => obtain ⟨_, _, _, _, o, _, _, e, _⟩ := x; exact Heap.lt_size e
 | set S n => obtain ⟨o, _, _, _, e, _⟩ := x; exact Heap.lt_size e
 | ins C dx fs => obtain ⟨_, _, _, e, _⟩ := x; exact Heap.lt_size e
 | own y => obtain ⟨_, e⟩ := x; exact Heap.lt_size e
 | xd fs => obtain ⟨_, ⟨_, _, _, e, _⟩, _⟩ := x; exact Heap.lt_size e
 | rng lo hi => obtain ⟨_, _, _, e⟩ := x; exact Heap.lt_size e
 | frz ob u => obtain ⟨e, _⟩ := x; exact Heap.lt_size e
 | tbl ps => exact Heap.lt_size (show h.get? a = some _ from x)
 | met f y => exact Heap.lt_size (show h.get? a = some _ from x)
 | ext φ => obtain ⟨_, ⟨_, e⟩, _⟩ := x; exact Heap.lt_size e
theorem Paired.mapP {α β : Type} {F G : α → β → Prop} : ∀ {l₁ : List α} {l₂ : List β}, Paired F l₁ l₂ → (∀ a b, F a b → G a b) → Paired G l₁ l₂
 | _, _, .nil, _ => .nil
 | _, _, .cons r t, f => .cons (f _ _ r) (Paired.mapP t f)
theorem ObjOk.stay (x : ObjOk P w H h a o) (k : ∀ b u, (b = a ∨ H b = some (.own a)) → h.get? b = some u → h'.get? b = some u)
  (ho : ∀ b, H b = some (.own a) → H' b = some (.own a)) (ht : ∀ b xs, H b = some (.tup xs) → H' b = some (.tup xs)) : ObjOk P w H' h' a o := by
 induction o with
 | lst xs => obtain ⟨z, its, n, r, e⟩ := x; exact ⟨z, its, n, r, k _ _ (.inl rfl) e⟩
 | tup xs => obtain ⟨z, its, r, ob, e, c⟩ := x; exact ⟨z, its, r, ob, k _ _ (.inl rfl) e, c⟩
 | dK kvs => obtain ⟨z, y, vs, r, ob, es, ep, e, c⟩ := x; exact ⟨z, y, vs, r, ob, es, ep, k _ _ (.inl rfl) e, c⟩
 | dT kvs =>
  obtain ⟨z, y, xs, r, ob, es, ep, e, c⟩ := x
  exact ⟨z, y, xs, Paired.mapP r fun p q z => ⟨z.1, ht _ _ z.2.1, z.2.2⟩, ob, es, ep, k _ _ (.inl rfl) e, c⟩
 | set S n => obtain ⟨ob, es, ep, t, e, c⟩ := x; exact ⟨ob, es, ep, t, k _ _ (.inl rfl) e, c⟩
 | ins C dx fs =>
  obtain ⟨d, z, ne, e, mA, ⟨od, es, ep, e2, c⟩, r⟩ := x
  exact ⟨ho _ d, z, ne, k _ _ (.inl rfl) e, mA, ⟨od, es, ep, k _ _ (.inr d) e2, c⟩, r⟩
 | own y => obtain ⟨ob, e⟩ := x; exact ⟨ob, k _ _ (.inl rfl) e⟩
 | xd fs => obtain ⟨mA, ⟨od, es, ep, e, c⟩, r⟩ := x; exact ⟨mA, ⟨od, es, ep, k _ _ (.inl rfl) e, c⟩, r⟩
 | rng lo hi => obtain ⟨t, u, v, e⟩ := x; exact ⟨t, u, v, k _ _ (.inl rfl) e⟩
 | frz ob u ih => obtain ⟨e, q⟩ := x; exact ⟨k _ _ (.inl rfl) e, ih q⟩
 | tbl ps =>
  have e : h.get? a = some { cls := .none, data := .fields ps } := x
  show h'.get? a = some { cls := .none, data := .fields ps }
  exact k a _ (.inl rfl) e
 | met f y =>
  have e : h.get? a = some (PySem.W.methodObj (.ref f) (.ref y)) := x
  show h'.get? a = some (PySem.W.methodObj (.ref f) (.ref y))
  exact k a _ (.inl rfl) e
 | ext φ => obtain ⟨p, ⟨o, e⟩, st⟩ := x; exact ⟨st _ _ p fun o q => k _ _ (.inl rfl) q, ⟨o, k _ _ (.inl rfl) e⟩, st⟩
theorem HOk.lt (x : HOk P w H h) (e : H a = some o) : a < h.objs.size := (x a o e).lt
theorem HOk.fresh (x : HOk P w H h) (e : h.objs.size ≤ a) : H a = none := by
 cases q : H a with
 | none => rfl
 | some u => exact absurd (Nat.lt_of_lt_of_le (x.lt q) e) (Nat.lt_irrefl _)
theorem HOk.kept (x : HOk P w H h) (k : ∀ b u, h.get? b = some u → h'.get? b = some u) : HOk P w H h' := fun a o e =>
 (x a o e).stay (fun b u _ q => k b u q) (fun _ q => q) fun _ _ q => q
theorem HOk.laid (x : HOk P w H h) (k : ∀ b u, h.get? b = some u → h'.get? b = some u) (hp : h.objs.size ≤ a) (new : ObjOk P w (upd H a o) h' a o) : HOk P w (upd H a o) h' := fun b u e => by
 have hn := x.fresh hp
 by_cases hb : b = a
 ·subst hb; rw [z7] at e; cases e; exact new
 ·rw [zc hb] at e
  exact (x b u e).stay (fun c v _ q => k c v q) (fun c q => by rw [zc (zi q hn)]; exact q) fun c xs q => by rw [zc (zi q hn)]; exact q
end
def Rd (H : Hp) (a : Addr) (u : HO) : Prop := H a = some u ∨ ∃ o, H a = some (.frz o u)
theorem Rd.of {H : Hp} {a : Addr} {u : HO} (h : H a = some u) : Rd H a u := .inl h
theorem Rd.ok {P : Program} {w : World} {H : Hp} {h : Heap} {a : Addr} {u : HO} (r : Rd H a u) (x : HOk P w H h) : ObjOk P w H h a u := by
 rcases r with r | ⟨o, r⟩
 ·exact x a u r
 ·obtain ⟨_, q⟩ := x a _ r
  exact q
def Mut : Option HO → Prop
 | some (.lst _) => True
 | some (.dK _) => True
 | some (.dT _) => True
 | some (.set _ _) => True
 | some (.ins _ _ _) => True
 | some (.ext _) => True
 | _ => False
section
variable {P : Program} {w : World} {H : Hp} {h h' : Heap} {x e : Addr} {o' : HO}
theorem HOk.write (ok : HOk P w H h) (mu : Mut (H x)) (he : e = x ∨ H e = some (.own x)) (k : ∀ b u, b ≠ e → h.get? b = some u → h'.get? b = some u) (heo : ∃ u, h'.get? e = some u)
  (new : ObjOk P w (upd H x o') h' x o') : HOk P w (upd H x o') h' := fun b u q => by
 have nown : ∀ c y, H c = some (.own y) → c ≠ x := fun c y r z => by subst z; rw [r] at mu; exact mu
 have ntup : ∀ c xs, H c = some (.tup xs) → c ≠ x := fun c xs r z => by subst z; rw [r] at mu; exact mu
 by_cases hb : b = x
 ·subst hb; rw [z7] at q; cases q; exact new
 ·rw [zc hb] at q
  by_cases hbe : b = e
  ·have q' : H b = some (.own x) := by
    rcases he with z | z
    ·exact absurd (hbe.trans z) hb
    ·rw [hbe]; exact z
   rw [q] at q'; cases q'
   obtain ⟨v, hv⟩ := heo
   exact ⟨v, by rw [hbe]; exact hv⟩
  ·refine (ok b u q).stay (fun c v hc r => k c v ?_ r) (fun c r => by rw [zc (nown c b r)]; exact r) fun c xs r => by rw [zc (ntup c xs r)]; exact r
   rcases hc with rfl | hc
   ·exact hbe
   ·rintro rfl
    rcases he with z | z
    ·exact nown c b hc z
    ·rw [hc] at z; cases z; exact hb rfl
end
structure Un (fs ex : List Addr) (H H' : Hp) (h h' : Heap) : Prop where
 keep : ∀ b o, h.get? b = some o → H b = none → b ∉ fs → b ∉ ex → h'.get? b = some o
 slot : ∀ b o, h.get? b = some o → H b = none → b ∈ fs → b ∉ ex → ∃ sl, h'.get? b = some { o with slots := sl }
 free : ∀ b o, h.get? b = some o → H b = none → b ∉ ex → H' b = none
 there : ∀ b o, h.get? b = some o → b ∉ ex → ∃ o', h'.get? b = some o'
 tups : ∀ b xs, H b = some (.tup xs) → H' b = some (.tup xs)
 frzs : ∀ b o u, H b = some (.frz o u) → H' b = some (.frz o u)
 tbls : ∀ b ps, H b = some (.tbl ps) → ∃ more, H' b = some (.tbl (ps ++ more))
section
variable {fs fs' ex ex' : List Addr} {H H1 H2 : Hp} {h h1 h2 h' : Heap} {a x e : Addr} {o : HO}
theorem Un.any (u : Un fs ex H H1 h h1) {b : Addr} {ob : Obj} (q : h.get? b = some ob) (n : H b = none) (hx : b ∉ ex) : ∃ sl, h1.get? b = some { ob with slots := sl } := by
 by_cases hb : b ∈ fs
 ·exact u.slot b ob q n hb hx
 ·exact ⟨ob.slots, u.keep b ob q n hb hx⟩
theorem Un.trans (a : Un fs ex H H1 h h1) (b : Un fs ex H1 H2 h1 h2) : Un fs ex H H2 h h2 where
 keep := fun c ob q n hc hx => b.keep c ob (a.keep c ob q n hc hx) (a.free c ob q n hx) hc hx
 slot := fun c ob q n hc hx => by
  obtain ⟨sl, e1⟩ := a.slot c ob q n hc hx
  obtain ⟨sl', e2⟩ := b.slot c _ e1 (a.free c ob q n hx) hc hx
  exact ⟨sl', e2⟩
 free := fun c ob q n hx => by
  obtain ⟨o', e1⟩ := a.there c ob q hx
  exact b.free c o' e1 (a.free c ob q n hx) hx
 there := fun c ob q hx => by
  obtain ⟨o', e1⟩ := a.there c ob q hx
  exact b.there c o' e1 hx
 tups := fun c xs q => b.tups c xs (a.tups c xs q)
 frzs := fun c ob xs q => b.frzs c ob xs (a.frzs c ob xs q)
 tbls := fun c ps q => by
  obtain ⟨m1, e1⟩ := a.tbls c ps q
  obtain ⟨m2, e2⟩ := b.tbls c _ e1
  exact ⟨m1 ++ m2, by rw [e2, Array.append_assoc]⟩
theorem Un.kept (k : ∀ b u, h.get? b = some u → h'.get? b = some u) : Un fs ex H H h h' :=
 ⟨fun b ob q _ _ _ => k b ob q, fun b ob q _ _ _ => ⟨ob.slots, k b ob q⟩, fun _ _ _ n _ => n, fun b ob q _ => ⟨ob, k b ob q⟩, fun _ _ q => q, fun _ _ _ q => q, fun _ ps q => ⟨#[], by rw [q]; simp⟩⟩
theorem Un.refl : Un fs ex H H h h := Un.kept fun _ _ q => q
theorem Un.laid (k : ∀ b u, h.get? b = some u → h'.get? b = some u) (hp : h.objs.size ≤ a) (hn : H a = none) : Un fs ex H (upd H a o) h h' where
 keep := fun b u q _ _ _ => k b u q
 slot := fun b u q _ _ _ => ⟨u.slots, k b u q⟩
 free := fun b u q n _ => by rw [zc (Nat.ne_of_lt (Nat.lt_of_lt_of_le (Heap.lt_size q) hp))]; exact n
 there := fun b u q _ => ⟨u, k b u q⟩
 tups := fun b xs q => by rw [zc (zi q hn)]; exact q
 frzs := fun b u xs q => by rw [zc (zi q hn)]; exact q
 tbls := fun b ps q => ⟨#[], by rw [zc (zi q hn), q]; simp⟩
theorem Un.write (mu : Mut (H x)) (he : e = x ∨ H e = some (.own x)) (k : ∀ b u, b ≠ e → h.get? b = some u → h'.get? b = some u) (heo : ∃ u, h'.get? e = some u) : Un fs ex H (upd H x o) h h' := by
 have hx : ∀ b, H b = none → b ≠ x := fun b n z => by subst z; rw [n] at mu; exact mu
 have hb : ∀ b, H b = none → b ≠ e := fun b n z => by
  subst z
  rcases he with r | r
  ·exact hx b n r
  ·rw [n] at r; cases r
 have hm : ∀ b u, H b = some u → ¬ Mut (some u) → b ≠ x := fun b u q nm z => by subst z; rw [q] at mu; exact nm mu
 refine ⟨fun b u q n _ _ => k b u (hb b n) q, fun b u q n _ _ => ⟨u.slots, k b u (hb b n) q⟩, fun b u q n _ => by rw [zc (hx b n)]; exact n, fun b u q _ => ?_,
  fun b xs q => by rw [zc (hm b _ q fun z => z)]; exact q, fun b u xs q => by rw [zc (hm b _ q fun z => z)]; exact q, fun b ps q => ⟨#[], by rw [zc (hm b _ q fun z => z), q]; simp⟩⟩
 by_cases hbe : b = e
 ·subst hbe; exact heo
 ·exact ⟨u, k b u hbe q⟩
theorem Un.mono (u : Un fs ex H H1 h h1) (hs : ∀ b ∈ fs, b ∈ fs') (hx : ∀ b ∈ ex, b ∈ ex') : Un fs' ex' H H1 h h1 :=
 ⟨fun b ob q n hb he => u.keep b ob q n (fun z => hb (hs b z)) fun z => he (hx b z), fun _ _ q n _ he => u.any q n fun z => he (hx _ z), fun b ob q n he => u.free b ob q n fun z => he (hx b z), fun b ob q he => u.there b ob q fun z => he (hx b z), u.tups, u.frzs, u.tbls⟩
end
def trk (h : Heap) (H : Hp) : List Addr := (List.range h.objs.size).filter fun a => (H a).isSome
def hidT (h : Heap) (H : Hp) : Heap := PySem.W.hideAll h (trk h H)
theorem z9y (h : Heap) (H : Hp) : (hidT h H).objs.size = h.objs.size := PySem.W.hideAll_size _ _
theorem zbb {h : Heap} {H : Hp} {b : Addr} {o : Obj} (e : h.get? b = some o) (n : H b = none) : (hidT h H).get? b = some o :=
 PySem.W.hideAll_get _ e fun hm => by
  have q : (H b).isSome = true := (List.mem_filter.mp hm).2
  rw [n] at q; simp at q
theorem zcc {h : Heap} {H : Hp} {b : Addr} {o : Obj} (e : (hidT h H).get? b = some o) : h.get? b = some o ∧ H b = none := by
 have e' : h.get? b = some o := PySem.W.of_hideAll (trk h H) e
 refine ⟨e', ?_⟩
 cases q : H b with
 | none => rfl
 | some x =>
  have hm : b ∈ trk h H := List.mem_filter.mpr ⟨List.mem_range.mpr (Heap.lt_size e'), by simp [q]⟩
  have z : (hidT h H).get? b = none := PySem.W.hideAll_none (trk h H) hm
  rw [z] at e; cases e
def zcd (g h : Heap) (L : Addr) : List (Addr × Obj) := (List.range h.objs.size).filterMap fun a => if a = L ∨ (g.get? a).isSome = true then none else (h.get? a).map fun o => (a, o)
def rest (g h : Heap) (L d : Addr) : List (Addr × Obj) := (zcd g h L).filter fun p => decide (p.1 ≠ d)
end L2
namespace L2
open PySem PySem.Spec PyProof.Rows
structure Mod (K : PySem.W.Frag) (mg : Str → Option Value) (base : Heap) : Prop where
 kin : K.In base
 glob : base.Ns mainGlobals mg
 blt : ∃ mb, base.Ns builtinsNs mb ∧ ∀ x : Str, x ≠ "__name__" → mb x = bootBuiltins x
 nolimit : base.NoLimit
structure Cx where
 prog : Program
 w : World
 K : PySem.W.Frag
 mg : Str → Option Value
 base : Heap
 A : Around
 N : List Str
 s₀ : Shared
 H₀ : Hp
 env : Env
 outer : List Env
 stack : List Env
 ex : List Addr
 fn : Str → Bool
 calm : Bool
 pn : List (Addr × Obj)
 xe : Value → Shared → Prop
def frs (l : List Env) : List Addr := l.filterMap (·.frame)
abbrev Cx.fs (X : Cx) : List Addr := frs X.outer
def Vis (sc : Scope) (x : Str) : Prop := sc.names.lookup x = some .local ∨ sc.names.lookup x = some .cell ∨ sc.names.lookup x = some .free
def Loc (sc : Scope) (x : Str) : Prop := sc.names.lookup x = some .local ∨ sc.names.lookup x = some .cell
def Look (env : Env) (h : Heap) (m : Str → Option Value) (x : Str) (u : Value) : Prop :=
 (env.kindOf x = some .local ∧ m x = some u) ∨ ((env.kindOf x = some .cell ∨ env.kindOf x = some .free) ∧ ∃ c, env.cells.lookup x = some c ∧ h.IsCell c (some u))
structure Cx.Ok (X : Cx) : Prop where
 mod : Mod X.K X.mg X.base
 kind : X.env.scope.kind = .function
 glob : X.env.globals = mainGlobals
 blt : X.env.builtins = builtinsNs
 above : X.s₀.heap.objs.size ≤ X.env.locals
 inj : ∀ x y c, X.env.cells.lookup x = some c → X.env.cells.lookup y = some c → x = y
 has : ∀ x, (X.env.kindOf x = some .cell ∨ X.env.kindOf x = some .free) → ∃ c, X.env.cells.lookup x = some c
 cab : ∀ x c, X.fn x = true → X.env.cells.lookup x = some c → X.s₀.heap.objs.size ≤ c
 hd : X.calm = true → X.A.handled = none
 frames : X.A.frames = some X.stack
 stk : X.stack = X.outer ∨ (X.stack = X.env :: X.outer ∧ X.env.frame = some X.env.locals)
 exf : ∀ b ∈ X.ex, b ≠ X.env.locals ∧ ∀ x c, X.env.cells.lookup x = some c → c ≠ b
 bs : ∀ b o, X.base.get? b = some o → X.s₀.heap.get? b = some o ∧ X.H₀ b = none
 bsz : X.base.objs.size ≤ X.s₀.heap.objs.size
 noex : ∀ b o, X.base.get? b = some o → b ∉ X.ex
 exfs : ∀ b ∈ X.ex, b ∉ X.fs
 funs : X.s₀.heap.FunFrames X.base X.outer
 frf : ∀ b ∈ X.fs, X.H₀ b = none
structure Inv (X : Cx) (pins : List (Addr × Obj)) (σ : List (Option V)) (H : Hp) (s : Shared) : Prop where
 ok : X.Ok
 os : s.os = X.s₀.os
 bare : AllBare s.gens
 base : Un X.fs X.ex X.H₀ H X.s₀.heap s.heap
 loc : ∃ m, s.heap.Ns X.env.locals m ∧ ∀ (i : Nat) (x : Str) (v : V), X.N[i]? = some x → σ[i]? = some (some v) → Vis X.env.scope x → ∃ u, RelV v u ∧ Look X.env s.heap m x u
 cell : ∀ x c, X.env.cells.lookup x = some c → ∃ v, s.heap.IsCell c v
 free : H X.env.locals = none
 freeC : ∀ x c, X.env.cells.lookup x = some c → H c = none
 pin : ∀ p ∈ X.pn ++ pins, s.heap.get? p.1 = some p.2 ∧ H p.1 = none ∧ p.1 ≠ X.env.locals ∧ p.1 ∉ X.fs ∧ ∀ v, p.2.data ≠ .cell v
 hok : HOk X.prog X.w H s.heap
 len : σ.length = X.N.length
section
variable {X : Cx} {pins : List (Addr × Obj)} {σ : List (Option V)} {H H' : Hp} {s : Shared} {h' : Heap}
theorem Cx.Ok.nofr (ok : X.Ok) {b : Addr} {o : Obj} (e : X.base.get? b = some o) : b ∉ X.fs := fun hb => by
 have := (ok.funs.mem hb).1
 rw [e] at this; cases this
theorem Inv.bs (I : Inv X pins σ H s) : ∀ b o, X.base.get? b = some o → s.heap.get? b = some o ∧ H b = none := fun b o e =>
 ⟨I.base.keep b o (I.ok.bs b o e).1 (I.ok.bs b o e).2 (I.ok.nofr e) (I.ok.noex b o e), I.base.free b o (I.ok.bs b o e).1 (I.ok.bs b o e).2 (I.ok.noex b o e)⟩
theorem Inv.bk (I : Inv X pins σ H s) : ∀ b o, X.base.get? b = some o → s.heap.get? b = some o := fun b o e => (I.bs b o e).1
theorem Inv.mod (I : Inv X pins σ H s) : Mod X.K X.mg X.base := I.ok.mod
theorem Inv.kIn (I : Inv X pins σ H s) : X.K.In s.heap := I.ok.mod.kin.keeps I.bk
theorem Inv.nolimit (I : Inv X pins σ H s) : s.heap.NoLimit := I.ok.mod.nolimit.keeps I.bk
theorem Inv.fr (I : Inv X pins σ H s) : ∃ m, Fr X.base X.env.locals s.heap m :=
 let ⟨m, hn, _⟩ := I.loc
 ⟨m, hn, I.bk, Nat.le_trans I.ok.bsz I.ok.above⟩
theorem Inv.lt (I : Inv X pins σ H s) : X.env.locals < s.heap.objs.size := let ⟨_, hn, _⟩ := I.loc; hn.lt
theorem Inv.sz (I : Inv X pins σ H s) : X.s₀.heap.objs.size ≤ s.heap.objs.size := Nat.le_trans I.ok.above (Nat.le_of_lt I.lt)
theorem Inv.nofs (I : Inv X pins σ H s) {a : Addr} (h : s.heap.objs.size ≤ a) : a ∉ X.fs := fun hb => by
 obtain ⟨_, o, ho, _⟩ := I.ok.funs.mem hb
 exact absurd (Nat.lt_of_lt_of_le (Heap.lt_size ho) (Nat.le_trans I.sz h)) (Nat.lt_irrefl _)
theorem Inv.cne (I : Inv X pins σ H s) : ∀ x c, X.env.cells.lookup x = some c → c ≠ X.env.locals := fun x c e z => by
 obtain ⟨v, o, ho, hd⟩ := I.cell x c e
 obtain ⟨m, ⟨o', es, ep, ho', hd', _⟩, _⟩ := I.loc
 rw [z, ho'] at ho; cases ho; rw [hd'] at hd; cases hd
theorem Inv.funs (I : Inv X pins σ H s) : s.heap.FunFrames X.base X.outer := by
 have all : ∀ (l : List Env), (∀ b ∈ frs l, b ∈ X.fs) → X.s₀.heap.FunFrames X.base l → s.heap.FunFrames X.base l := by
  intro l
  induction l with
  | nil => intro _ _; trivial
  | cons env r ih =>
   intro hs hl
   obtain ⟨hk, ⟨L, o, hf, hn, ho, hd⟩, hr⟩ := hl
   have hL : L ∈ X.fs := hs L (by unfold frs; rw [List.filterMap_cons, hf]; exact List.mem_cons_self)
   obtain ⟨sl, e⟩ := I.base.slot L o ho (I.ok.frf L hL) hL fun z => I.ok.exfs L z hL
   exact ⟨hk, ⟨L, _, hf, hn, e, hd⟩, ih (fun b hb => hs b (by unfold frs; rw [List.filterMap_cons, hf]; exact List.mem_cons_of_mem _ hb)) hr⟩
 exact all X.outer (fun _ hb => hb) I.ok.funs
theorem Inv.stack (I : Inv X pins σ H s) : s.heap.FunFrames X.base X.stack := by
 rcases I.ok.stk with e | ⟨e, hf⟩
 ·rw [e]; exact I.funs
 ·rw [e]
  obtain ⟨m, hn, _⟩ := I.loc
  refine .cons (by rw [I.ok.kind]; decide) hf hn ?_ I.funs
  exact Heap.get?_none_of_le (Nat.le_trans I.ok.bsz I.ok.above)
theorem Inv.stkSub (I : Inv X pins σ H s) : ∀ b ∈ frs X.stack, b ∈ X.env.locals :: X.fs := fun b hb => by
 rcases I.ok.stk with e | ⟨e, hf⟩
 ·rw [e] at hb; exact List.mem_cons_of_mem _ hb
 ·rw [e] at hb
  unfold frs at hb
  rw [List.filterMap_cons, hf] at hb
  exact hb
theorem Inv.stkFree (I : Inv X pins σ H s) : ∀ b ∈ frs X.stack, H b = none := fun b hb => by
 rcases List.mem_cons.mp (I.stkSub b hb) with e | hb
 ·rw [e]; exact I.free
 ·obtain ⟨_, o, ho, _⟩ := I.ok.funs.mem hb
  exact I.base.free b o ho (I.ok.frf b hb) fun z => I.ok.exfs b z hb
theorem Inv.step {g' : Array GenState} {t' : Nat} {d' : Drawn} {ch : List Addr} (I : Inv X pins σ H s)
  (hch : ∀ b ∈ ch, (b ∈ X.ex ∨ X.s₀.heap.objs.size ≤ b) ∧ b ≠ X.env.locals ∧ (∀ x c, X.env.cells.lookup x = some c → c ≠ b) ∧ ∀ p ∈ X.pn ++ pins, p.1 ≠ b)
  (keep : ∀ b o, b ≠ X.env.locals → b ∉ X.fs → b ∉ ch → s.heap.get? b = some o → H b = none → h'.get? b = some o)
  (slot : ∀ b o, b ≠ X.env.locals → b ∈ X.fs → b ∉ ch → s.heap.get? b = some o → H b = none → ∃ sl, h'.get? b = some { o with slots := sl }) (free : ∀ b o, b ∉ ch → s.heap.get? b = some o → H b = none → H' b = none)
  (there : ∀ b o, b ∉ ch → s.heap.get? b = some o → ∃ o', h'.get? b = some o')
  (tups : ∀ b xs, H b = some (.tup xs) → H' b = some (.tup xs)) (frzs : ∀ b o u, H b = some (.frz o u) → H' b = some (.frz o u)) (tbls : ∀ b ps, H b = some (.tbl ps) → ∃ more, H' b = some (.tbl (ps ++ more)))
  (ns : ∀ m, s.heap.Ns X.env.locals m → h'.Ns X.env.locals m) (hok : HOk X.prog X.w H' h') (hg : AllBare g') :
  Inv X pins σ H' { s with heap := h', gens := g', drawn := d', toks := t' } := by
 have neL : ∀ b o, X.s₀.heap.get? b = some o → b ≠ X.env.locals := fun b o e => Nat.ne_of_lt (Nat.lt_of_lt_of_le (Heap.lt_size e) I.ok.above)
 have neC : ∀ b o, X.s₀.heap.get? b = some o → b ∉ X.ex → b ∉ ch := fun b o e hx hb => by
  rcases (hch b hb).1 with z | z
  ·exact hx z
  ·exact absurd (Nat.lt_of_lt_of_le (Heap.lt_size e) z) (Nat.lt_irrefl _)
 have cellK : ∀ x c, X.env.cells.lookup x = some c → ∀ v, s.heap.IsCell c v → h'.IsCell c v := fun x c e v ⟨o, ho, hd⟩ => by
  have nch : c ∉ ch := fun z => (hch c z).2.2.1 x c e rfl
  by_cases hc : c ∈ X.fs
  ·obtain ⟨sl, q⟩ := slot c o (I.cne x c e) hc nch ho (I.freeC x c e)
   exact ⟨_, q, hd⟩
  ·exact ⟨o, keep c o (I.cne x c e) hc nch ho (I.freeC x c e), hd⟩
 refine ⟨I.ok, I.os, hg, ⟨fun b o e n hb hx => ?_, fun b o e n hb hx => ?_, fun b o e n hx => ?_, fun b o e hx => ?_, fun b xs e => tups b xs (I.base.tups b xs e), fun b o xs e => frzs b o xs (I.base.frzs b o xs e), fun b ps e => ?_⟩, ?_, fun x c e => ?_, ?_, fun x c e => ?_, fun p hp => ?_, hok, I.len⟩
 ·exact keep b o (neL b o e) hb (neC b o e hx) (I.base.keep b o e n hb hx) (I.base.free b o e n hx)
 ·obtain ⟨sl, e1⟩ := I.base.slot b o e n hb hx
  obtain ⟨sl', e2⟩ := slot b _ (neL b o e) hb (neC b o e hx) e1 (I.base.free b o e n hx)
  exact ⟨sl', e2⟩
 ·obtain ⟨o', e1⟩ := I.base.there b o e hx
  exact free b o' (neC b o e hx) e1 (I.base.free b o e n hx)
 ·obtain ⟨o', e1⟩ := I.base.there b o e hx
  exact there b o' (neC b o e hx) e1
 ·obtain ⟨m1, e1⟩ := I.base.tbls b ps e
  obtain ⟨m2, e2⟩ := tbls b _ e1
  exact ⟨m1 ++ m2, by rw [e2, Array.append_assoc]⟩
 ·obtain ⟨m, hn, hl⟩ := I.loc
  refine ⟨m, ns m hn, fun i x v e1 e2 e3 => ?_⟩
  obtain ⟨u, r, l⟩ := hl i x v e1 e2 e3
  refine ⟨u, r, ?_⟩
  rcases l with l | ⟨k, c, e, z⟩
  ·exact .inl l
  ·exact .inr ⟨k, c, e, cellK x c e _ z⟩
 ·obtain ⟨v, z⟩ := I.cell x c e
  exact ⟨v, cellK x c e v z⟩
 ·obtain ⟨m, ⟨o, _, _, ho, _⟩, _⟩ := I.loc
  exact free _ o (fun z => (hch _ z).2.1 rfl) ho I.free
 ·obtain ⟨v, o, ho, hd⟩ := I.cell x c e
  exact free c o (fun z => (hch c z).2.2.1 x c e rfl) ho (I.freeC x c e)
 ·obtain ⟨e, n, ne, nf, d⟩ := I.pin p hp
  have nch : p.1 ∉ ch := fun z => (hch p.1 z).2.2.2 p hp rfl
  exact ⟨keep p.1 p.2 ne nf nch e n, free p.1 p.2 nch e n, ne, nf, d⟩
theorem Inv.un {t' : Nat} (I : Inv X pins σ H s) (u : Un X.fs [] H H' s.heap h') (hok : HOk X.prog X.w H' h') : Inv X pins σ H' { s with heap := h', toks := t' } := by
 obtain ⟨m, ⟨o, es, ep, ho, r⟩, _⟩ := id I.loc
 obtain ⟨sl, hL⟩ := u.any ho I.free (by simp)
 exact I.step (g' := s.gens) (d' := s.drawn) (ch := []) (fun _ z => nomatch z) (fun b o _ hb _ e n => u.keep b o e n hb (by simp)) (fun b o _ hb _ e n => u.slot b o e n hb (by simp)) (fun b o _ e n => u.free b o e n (by simp)) (fun b o _ e => u.there b o e (by simp)) u.tups u.frzs u.tbls (fun m' hm => by
  obtain ⟨o', es', ep', ho', r'⟩ := hm
  rw [ho] at ho'; cases ho'
  exact ⟨_, es', ep', hL, r'⟩) hok I.bare
theorem Inv.call {g' : Array GenState} {t' : Nat} {d' : Drawn} {ch : List Addr} (I : Inv X pins σ H s) (u : Un (frs X.stack) ch H H' s.heap h') (hok : HOk X.prog X.w H' h') (hg : AllBare g')
  (hch : ∀ b ∈ ch, (b ∈ X.ex ∨ X.s₀.heap.objs.size ≤ b) ∧ b ≠ X.env.locals ∧ (∀ x c, X.env.cells.lookup x = some c → c ≠ b) ∧ ∀ p ∈ X.pn ++ pins, p.1 ≠ b) :
  Inv X pins σ H' { s with heap := h', gens := g', drawn := d', toks := t' } := by
 obtain ⟨m, ⟨o, es, ep, ho, r⟩, _⟩ := id I.loc
 obtain ⟨sl, hL⟩ := u.any ho I.free fun z => (hch _ z).2.1 rfl
 exact I.step (ch := ch) hch (fun b o hL hb hc e n => u.keep b o e n (fun z => (List.mem_cons.mp (I.stkSub b z)).elim hL hb) hc) (fun b o _ _ hc e n => u.any e n hc) (fun b o hc e n => u.free b o e n hc) (fun b o hc e => u.there b o e hc) u.tups u.frzs u.tbls (fun m' hm => by
  obtain ⟨o', es', ep', ho', r'⟩ := hm
  rw [ho] at ho'; cases ho'
  exact ⟨_, es', ep', hL, r'⟩) hok hg
theorem Inv.turned {t' : Nat} {it : Addr} (I : Inv X pins σ H s) (k : ∀ b o, b ≠ it → s.heap.get? b = some o → h'.get? b = some o) (hn : H it = none) (hL : it ≠ X.env.locals)
  (h1 : it ∈ X.ex ∨ X.s₀.heap.objs.size ≤ it) (h2 : ∀ x c, X.env.cells.lookup x = some c → c ≠ it) (h3 : ∀ p ∈ X.pn ++ pins, p.1 ≠ it) : Inv X pins σ H { s with heap := h', toks := t' } := by
 have nit : ∀ b u, H b = some u → b ≠ it := fun b u e z => by rw [z, hn] at e; cases e
 refine I.step (g' := s.gens) (d' := s.drawn) (ch := [it]) (fun b hb => ?_) (fun b o _ _ hc e _ => k b o (fun z => hc (by simp [z])) e) (fun b o _ _ hc e _ => ⟨o.slots, k b o (fun z => hc (by simp [z])) e⟩) (fun _ _ _ _ n => n)
  (fun b o hc e => ⟨o, k b o (fun z => hc (by simp [z])) e⟩) (fun _ _ e => e) (fun _ _ _ e => e) (fun b ps e => ⟨#[], by rw [e]; simp⟩) (fun m hm => ?_) (fun b u e => ?_) I.bare
 ·have e : b = it := by simpa using hb
  subst e
  exact ⟨h1, hL, h2, h3⟩
 ·obtain ⟨o, es, ep, ho, r⟩ := hm
  exact ⟨o, es, ep, k _ o (Ne.symm hL) ho, r⟩
 ·refine (I.hok b u e).stay (fun c v hc q => k c v ?_ q) (fun _ q => q) fun _ _ q => q
  rcases hc with z | z
  ·rw [z]; exact nit b u e
  ·exact nit c _ z
theorem Inv.tok (I : Inv X pins σ H s) (t : Nat) : Inv X pins σ H { s with toks := t } := I.un (h' := s.heap) (t' := t) Un.refl I.hok
theorem Inv.kept {t' : Nat} (I : Inv X pins σ H s) (k : ∀ b u, s.heap.get? b = some u → h'.get? b = some u) : Inv X pins σ H { s with heap := h', toks := t' } := I.un (Un.kept k) (I.hok.kept k)
theorem Inv.laid {a : Addr} {o : HO} {t' : Nat} (I : Inv X pins σ H s) (k : ∀ b u, s.heap.get? b = some u → h'.get? b = some u) (hp : s.heap.objs.size ≤ a) (new : ObjOk X.prog X.w (upd H a o) h' a o) :
  Inv X pins σ (upd H a o) { s with heap := h', toks := t' } := I.un (Un.laid k hp (I.hok.fresh hp)) (I.hok.laid k hp new)
theorem Inv.write {x e : Addr} {o : HO} {t' : Nat} (I : Inv X pins σ H s) (mu : Mut (H x)) (he : e = x ∨ H e = some (.own x)) (k : ∀ b u, b ≠ e → s.heap.get? b = some u → h'.get? b = some u) (heo : ∃ u, h'.get? e = some u)
  (new : ObjOk X.prog X.w (upd H x o) h' x o) : Inv X pins σ (upd H x o) { s with heap := h', toks := t' } := I.un (Un.write mu he k heo) (I.hok.write mu he k heo new)
theorem Inv.weak {σ' : List (Option V)} (I : Inv X pins σ H s) (hl : σ'.length = σ.length) (w : ∀ (i : Nat) v, σ'[i]? = some (some v) → σ[i]? = some (some v)) : Inv X pins σ' H s :=
 ⟨I.ok, I.os, I.bare, I.base, let ⟨m, hn, hl'⟩ := I.loc; ⟨m, hn, fun i x v e1 e2 e3 => hl' i x v e1 (w i v e2) e3⟩, I.cell, I.free, I.freeC, I.pin, I.hok, hl.trans I.len⟩
theorem Inv.pins_of {pins' : List (Addr × Obj)} (I : Inv X pins σ H s) (h : ∀ p ∈ pins', s.heap.get? p.1 = some p.2 ∧ H p.1 = none ∧ p.1 ≠ X.env.locals ∧ p.1 ∉ X.fs ∧ ∀ v, p.2.data ≠ .cell v) : Inv X pins' σ H s :=
 ⟨I.ok, I.os, I.bare, I.base, I.loc, I.cell, I.free, I.freeC, fun p hp => (List.mem_append.mp hp).elim (fun z => I.pin p (List.mem_append_left _ z)) (h p), I.hok, I.len⟩
theorem z7e {N : List Str} (hN : N.Nodup) {i j : Nat} {x : Str} (a : N[i]? = some x) (b : N[j]? = some x) : i = j := by
 obtain ⟨h1, e1⟩ := List.getElem?_eq_some_iff.mp a
 obtain ⟨h2, e2⟩ := List.getElem?_eq_some_iff.mp b
 exact (List.getElem_inj hN).mp (e1.trans e2.symm)
theorem z6f {M : Model} {A : Around} {E : Value → Shared → Prop} {i : Nat} {x : Str} {v : V} {u : Value} {Q : Unit → Shared → Prop} (I : Inv X pins σ H s) (hN : X.N.Nodup) (hi : X.N[i]? = some x) (hx : Loc X.env.scope x) (r : RelV v u)
  (h : ∀ s', Inv X pins (σ.set i (some v)) H s' → (∃ a, Heap.SameBut a s.heap s'.heap ∧ (a = X.env.locals ∨ X.env.cells.lookup x = some a)) → Q () s') (hf : X.fn x = true ∨ X.env.scope.names.lookup x = some .local := by first | exact .inl rfl | exact .inr rfl | assumption) : wpAny M A (storeName X.env x u) Q E s := by
 obtain ⟨m, hn, hl⟩ := id I.loc
 have hcls : (X.env.scope.kind == .class || (X.env.scope.kind == .module && X.env.locals != X.env.globals)) = false := by rw [I.ok.kind]; rfl
 have hiσ : i < σ.length := by rw [I.len]; exact (List.getElem?_eq_some_iff.mp hi).1
 have cne := I.cne
 have tracked : ∀ {a : Addr} {h' : Heap}, (∃ o, s.heap.get? a = some o ∧ H a = none) → Heap.SameBut a s.heap h' → HOk X.prog X.w H h' := fun {a h'} ha hs b ob e => by
  obtain ⟨_, _, hfree⟩ := ha
  refine (I.hok b ob e).stay (fun c w' hc q => (hs.2 c ?_).trans q) (fun _ q => q) fun _ _ q => q
  rintro rfl
  rcases hc with rfl | hc
  ·rw [hfree] at e; cases e
  ·rw [hfree] at hc; cases hc
 rcases hx with hk | hk
 ·refine wpAny_storeName_local hk hn (fun h' hn' hs => ?_) hcls
  obtain ⟨oL, _, _, hoL, _⟩ := id hn
  refine h _ ⟨I.ok, I.os, I.bare, ⟨fun b o e n hb hx => ?_, fun b o e n hb hx => ?_, I.base.free, fun b o e hx => ?_, I.base.tups, I.base.frzs, I.base.tbls⟩, ⟨_, hn', fun j y v' e1 e2 e3 => ?_⟩, fun y c e => ?_, I.free, I.freeC, fun p hp => ?_, tracked ⟨oL, hoL, I.free⟩ hs, by simpa using I.len⟩ ⟨_, hs, .inl rfl⟩
  ·exact (hs.2 b (Nat.ne_of_lt (Nat.lt_of_lt_of_le (Heap.lt_size e) I.ok.above))).trans (I.base.keep b o e n hb hx)
  ·obtain ⟨sl, e1⟩ := I.base.slot b o e n hb hx
   exact ⟨sl, (hs.2 b (Nat.ne_of_lt (Nat.lt_of_lt_of_le (Heap.lt_size e) I.ok.above))).trans e1⟩
  ·obtain ⟨o', e1⟩ := I.base.there b o e hx
   exact ⟨o', (hs.2 b (Nat.ne_of_lt (Nat.lt_of_lt_of_le (Heap.lt_size e) I.ok.above))).trans e1⟩
  ·by_cases hj : j = i
   ·subst hj
    rw [hi] at e1; cases e1
    rw [List.getElem?_set_self hiσ] at e2
    cases e2
    exact ⟨u, r, .inl ⟨hk, by simp⟩⟩
   ·rw [List.getElem?_set_ne (Ne.symm hj)] at e2
    obtain ⟨u', r', q⟩ := hl j y v' e1 e2 e3
    refine ⟨u', r', ?_⟩
    rcases q with ⟨k, e⟩ | ⟨k, c, e, z⟩
    ·refine .inl ⟨k, ?_⟩
     have : y ≠ x := fun e => hj (z7e hN e1 (e ▸ hi))
     simp [this, e]
    ·exact .inr ⟨k, c, e, z.sameBut hs (cne y c e)⟩
  ·obtain ⟨w', z⟩ := I.cell y c e
   exact ⟨w', z.sameBut hs (cne y c e)⟩
  ·obtain ⟨e, n, ne, nf, d⟩ := I.pin p hp
   exact ⟨(hs.2 p.1 ne).trans e, n, ne, nf, d⟩
 ·have hfn : X.fn x = true := by
   rcases hf with z | z
   ·exact z
   ·rw [z] at hk; cases hk
  obtain ⟨c, hc⟩ := I.ok.has x (.inl hk)
  obtain ⟨w', z⟩ := I.cell x c hc
  refine wpAny_storeName_cell I.ok.kind hk hc z (fun h' hc' hs => ?_)
  obtain ⟨oc, hoc, hocd⟩ := id z
  refine h { s with heap := h' } ⟨I.ok, I.os, I.bare, ⟨fun b o e n hb hx => ?_, fun b o e n hb hx => ?_, I.base.free, fun b o e hx => ?_, I.base.tups, I.base.frzs, I.base.tbls⟩, ⟨m, hn.sameBut hs (Ne.symm (cne x c hc)), fun j y v' e1 e2 e3 => ?_⟩, fun y c' e => ?_, I.free, I.freeC, fun p hp => ?_, tracked ⟨oc, hoc, I.freeC x c hc⟩ hs, by simpa using I.len⟩ ⟨c, hs, .inr hc⟩
  ·exact (hs.2 b (Nat.ne_of_lt (Nat.lt_of_lt_of_le (Heap.lt_size e) (I.ok.cab x c hfn hc)))).trans (I.base.keep b o e n hb hx)
  ·obtain ⟨sl, e1⟩ := I.base.slot b o e n hb hx
   exact ⟨sl, (hs.2 b (Nat.ne_of_lt (Nat.lt_of_lt_of_le (Heap.lt_size e) (I.ok.cab x c hfn hc)))).trans e1⟩
  ·obtain ⟨o', e1⟩ := I.base.there b o e hx
   exact ⟨o', (hs.2 b (Nat.ne_of_lt (Nat.lt_of_lt_of_le (Heap.lt_size e) (I.ok.cab x c hfn hc)))).trans e1⟩
  ·by_cases hj : j = i
   ·subst hj
    rw [hi] at e1; cases e1
    rw [List.getElem?_set_self hiσ] at e2
    cases e2
    exact ⟨u, r, .inr ⟨.inl hk, c, hc, hc'⟩⟩
   ·rw [List.getElem?_set_ne (Ne.symm hj)] at e2
    obtain ⟨u', r', q⟩ := hl j y v' e1 e2 e3
    refine ⟨u', r', ?_⟩
    rcases q with q | ⟨k, c', e, z'⟩
    ·exact .inl q
    ·refine .inr ⟨k, c', e, z'.sameBut hs ?_⟩
     rintro rfl
     exact hj (z7e hN e1 (I.ok.inj _ _ _ e hc ▸ hi))
  ·by_cases hcc : c' = c
   ·subst hcc; exact ⟨_, hc'⟩
   ·obtain ⟨w2, z2⟩ := I.cell y c' e
    exact ⟨w2, z2.sameBut hs hcc⟩
  ·obtain ⟨e, n, ne, nf, d⟩ := I.pin p hp
   refine ⟨(hs.2 p.1 ?_).trans e, n, ne, nf, d⟩
   intro q
   rw [q, hoc] at e
   have q' : oc = p.2 := Option.some.inj e
   exact d w' (by rw [← q']; exact hocd)
theorem z2x {M : Model} {A : Around} {E : Value → Shared → Prop} {i : Nat} {x : Str} {v : V} {u : Value} {Q : Unit → Shared → Prop} (I : Inv X pins σ H s) (hN : X.N.Nodup) (hi : X.N[i]? = some x) (hx : Loc X.env.scope x) (r : RelV v u)
  (h : ∀ s', Inv X pins (σ.set i (some v)) H s' → Q () s') (hf : X.fn x = true ∨ X.env.scope.names.lookup x = some .local := by first | exact .inl rfl | exact .inr rfl | assumption) : wpAny M A (storeName X.env x u) Q E s :=
 z6f I hN hi hx r (fun s' I' _ => h s' I') hf
theorem Inv.call' {s' : Shared} {ch : List Addr} (I : Inv X pins σ H s) (ho : s'.os = s.os) (u : Un (frs X.stack) ch H H' s.heap s'.heap) (hok : HOk X.prog X.w H' s'.heap) (hg : AllBare s'.gens)
  (hch : ∀ b ∈ ch, (b ∈ X.ex ∨ X.s₀.heap.objs.size ≤ b) ∧ b ≠ X.env.locals ∧ (∀ x c, X.env.cells.lookup x = some c → c ≠ b) ∧ ∀ p ∈ X.pn ++ pins, p.1 ≠ b) : Inv X pins σ H' s' := by
 obtain ⟨h', g', d', t', o'⟩ := s'
 have e : o' = s.os := ho
 subst e
 exact I.call (g' := g') (t' := t') (d' := d') u hok hg hch
end
abbrev XK := Value → Option Addr → Hp → Prop
abbrev St := List (Option V)
abbrev VK := V → Hp → Prop
abbrev TE := St → Hp → VK → Prop
abbrev TT := St → Hp → (Bool → Hp → Prop) → Prop
abbrev TA := St → Hp → (List V → Hp → Prop) → Prop
structure Ends where
 nx : St → Hp → Prop
 rt : VK
 bk : St → Hp → Prop := fun _ _ => False
 ct : St → Hp → Prop := fun _ _ => False
abbrev TS := Ends → St → Hp → Prop
def EP (X : Cx) (pins : List (Addr × Obj)) (σ : St) (Q : VK) (u : Value) (s' : Shared) : Prop := ∃ v H', Inv X pins σ H' s' ∧ RelV v u ∧ Q v H'
def TP (X : Cx) (pins : List (Addr × Obj)) (σ : St) (Q : Bool → Hp → Prop) (b : Bool) (s' : Shared) : Prop := ∃ H', Inv X pins σ H' s' ∧ Q b H'
def AP (X : Cx) (pins : List (Addr × Obj)) (σ : St) (Q : List V → Hp → Prop) (us : List Value) (s' : Shared) : Prop := ∃ vs H', Inv X pins σ H' s' ∧ Vals vs us ∧ Q vs H'
def SP (X : Cx) (pins : List (Addr × Obj)) (D : Ends) (f : Flow) (s' : Shared) : Prop :=
 match f with
 | .next => ∃ σ' H', Inv X pins σ' H' s' ∧ D.nx σ' H'
 | .brk => ∃ σ' H', Inv X pins σ' H' s' ∧ D.bk σ' H'
 | .cont => ∃ σ' H', Inv X pins σ' H' s' ∧ D.ct σ' H'
 | .ret u => ∃ v σ' H', Inv X pins σ' H' s' ∧ RelV v u ∧ D.rt v H'
def PE (X : Cx) (e : Expr) (t : TE) : Prop :=
 ∀ (pins : List (Addr × Obj)) (s : Shared) (σ : St) (H : Hp) (Q : VK), Inv X pins σ H s → t σ H Q → wpAny (model X.prog X.w) X.A (eval e X.env) (EP X pins σ Q) X.xe s
def PT (X : Cx) (e : Expr) (t : TT) : Prop :=
 ∀ (pins : List (Addr × Obj)) (s : Shared) (σ : St) (H : Hp) (Q : Bool → Hp → Prop), Inv X pins σ H s → t σ H Q → wpAny (model X.prog X.w) X.A (isTrue e X.env (eval e X.env)) (TP X pins σ Q) X.xe s
def PW (X : Cx) (e : Expr) (t : TT) : Prop :=
 ∀ (whole : Sem Value) (pins : List (Addr × Obj)) (s : Shared) (σ : St) (H : Hp) (Q : Bool → Hp → Prop), Inv X pins σ H s → t σ H Q → wpAny (model X.prog X.w) X.A (isTrue e X.env whole) (TP X pins σ Q) X.xe s
theorem PW.pt {X : Cx} {e : Expr} {t : TT} (h : PW X e t) : PT X e t := h _
def PA (X : Cx) (es : List Expr) (t : TA) : Prop :=
 ∀ (pos : Pos) (pins : List (Addr × Obj)) (s : Shared) (σ : St) (H : Hp) (Q : List V → Hp → Prop), Inv X pins σ H s → t σ H Q → wpAny (model X.prog X.w) X.A (spliced (backTo pos (starEach es X.env))) (AP X pins σ Q) X.xe s
def PS (X : Cx) (st : Stmt) (t : TS) : Prop :=
 ∀ (pins : List (Addr × Obj)) (s : Shared) (σ : St) (H : Hp) (D : Ends), Inv X pins σ H s → t D σ H → wpAny (model X.prog X.w) X.A (exec st X.env) (SP X pins D) X.xe s
def PSs (X : Cx) (st : List Stmt) (t : TS) : Prop :=
 ∀ (pins : List (Addr × Obj)) (s : Shared) (σ : St) (H : Hp) (D : Ends), Inv X pins σ H s → t D σ H → wpAny (model X.prog X.w) X.A (execs st X.env) (SP X pins D) X.xe s
theorem thn {α : Type} {t : Sem α} {Q Q' : α → Shared → Prop} {M : Model} {A : Around} {E : Value → Shared → Prop} {s : Shared} (h : wpAny M A t Q E s) (hQ : ∀ a s, Q a s → Q' a s) : wpAny M A t Q' E s := wpAny_mono h hQ fun _ _ x => x
end L2
namespace L2
open PySem PySem.Spec PyProof.Rows
section
variable {X : Cx}
def tVar (i : Nat) : TE := fun σ H Q => ∃ v, σ[i]? = some (some v) ∧ Q v H
def tC (v : V) : TE := fun _ H Q => Q v H
theorem zd5 {i : Nat} {x : Str} {pos : Pos} (hN : X.N[i]? = some x) (hv : Vis X.env.scope x) (hd : (x == ("__debug__" : Str)) = false := by decide) (hcd : (x == ("__classdict__" : Str)) = false := by decide) : PE X (.Name x pos) (tVar i) := by
 intro pins s σ H Q I h
 obtain ⟨v, e, h⟩ := h
 obtain ⟨m, hn, hl⟩ := I.loc
 obtain ⟨u, r, l⟩ := hl i x v hN e hv
 have fin : EP X pins σ Q u s := ⟨v, H, I, r, h⟩
 rcases l with ⟨hk, hm⟩ | ⟨hk, c, hc, hcell⟩
 ·exact wpAny_Name (wpAny_loadName_local I.ok.kind hk hn hm fin) hd
 ·rcases hk with hk | hk
  ·exact wpAny_Name (wpAny_loadName_cell I.ok.kind hk hc hcell fin) hd
  ·exact wpAny_Name (wpAny_loadName_free I.ok.kind hk hc hcell fin hcd) hd
theorem z6 {i j pos} : PE X (.Constant (.int i) j pos) (tC (.int i)) := fun _ _ _ H _ I h => wpAny_Constant_int ⟨.int i, H, I.tok _, ⟨_, rfl⟩, h⟩
theorem z1k {b j pos} : PE X (.Constant (.bool b) j pos) (tC (.bl b)) := fun _ _ _ H _ I h => Constant_bool ⟨.bl b, H, I, rfl, h⟩
theorem z1d {x j pos} : PE X (.Constant (.str x) j pos) (tC (.str x)) := fun _ _ _ H _ I h => Calls.Constant_str ⟨.str x, H, I.tok _, ⟨_, rfl⟩, h⟩
def Gl (X : Cx) (x : Str) : Prop := X.env.kindOf x = some .globalImplicit
theorem z2m {E : Value → Shared → Prop} {pins : List (Addr × Obj)} {s : Shared} {σ : St} {H : Hp} {x : Str} {u : Value} {pos : Pos} {Q : Value → Shared → Prop} (I : Inv X pins σ H s) (hg : Gl X x) (hm : X.mg x = some u) (h : Q u s)
  (hd : (x == ("__debug__" : Str)) = false := by decide) : wpAny (model X.prog X.w) X.A (eval (.Name x pos) X.env) Q E s :=
 Calls.Name_function_global I.ok.kind hg (Calls.loadGlobal_global (by rw [I.ok.glob]; exact I.mod.glob.keeps I.bk) hm h) hd
theorem z48 {E : Value → Shared → Prop} {pins : List (Addr × Obj)} {s : Shared} {σ : St} {H : Hp} {x : Str} {u : Value} {pos : Pos} {Q : Value → Shared → Prop} (I : Inv X pins σ H s) (hg : Gl X x) (hm : X.mg x = none) (hv : bootBuiltins x = some u) (h : Q u s)
  (hn : x ≠ "__name__" := by decide) (hd : (x == ("__debug__" : Str)) = false := by decide) : wpAny (model X.prog X.w) X.A (eval (.Name x pos) X.env) Q E s := by
 obtain ⟨mb, h1, h2⟩ := I.mod.blt
 exact Calls.Name_function_global I.ok.kind hg (Calls.loadGlobal_builtin (by rw [I.ok.glob]; exact I.mod.glob.keeps I.bk) hm (by rw [I.ok.blt]; exact h1.keeps I.bk) ((h2 x hn).trans hv) h) hd
theorem z26 {x : Str} {v : V} {u : Value} {pos : Pos} (hg : Gl X x) (hm : X.mg x = some u) (r : RelV v u) (hd : (x == ("__debug__" : Str)) = false := by decide) : PE X (.Name x pos) (tC v) :=
 fun _ _ _ H _ I h => z2m I hg hm ⟨v, H, I, r, h⟩ hd
theorem zn {x : Str} {v : V} {u : Value} {pos : Pos} (hg : Gl X x) (hm : X.mg x = none) (hv : bootBuiltins x = some u) (r : RelV v u) (hn : x ≠ "__name__" := by decide) (hd : (x == ("__debug__" : Str)) = false := by decide) : PE X (.Name x pos) (tC v) :=
 fun _ _ _ H _ I h => z48 I hg hm hv ⟨v, H, I, r, h⟩ hn hd
variable {a b : Expr} {ta tb : TE} {pos : Pos}
def tB (t : TE) : TT := fun σ H Q => t σ H fun x H1 => ∃ c, x = .bl c ∧ Q c H1
theorem z1w {e : Expr} {t : TE} (h : PE X e t) (he : ∀ whole, isTrue e X.env whole = (do let v ← whole; standAt e.pos; holding [v] (truthy v)) := by intro _; rfl) : PT X e (tB t) := by
 intro pins s σ H Q I hw
 refine isTrue_plain (thn (h pins s σ H _ I hw) fun v s1 ⟨x, H1, I1, r1, q1⟩ => ?_) (he _)
 obtain ⟨d, rfl, q⟩ := q1
 cases r1
 exact wpAny_truthy_bool ⟨H1, I1, q⟩
variable {tA tB' : TT} {rest : List Expr}
def tAnd (t u : TT) : TT := fun σ H Q => t σ H fun c H1 => if c = true then u σ H1 Q else Q false H1
def tOr (t u : TT) : TT := fun σ H Q => t σ H fun c H1 => if c = true then Q true H1 else u σ H1 Q
def tNot (t : TT) : TT := fun σ H Q => t σ H fun c H1 => Q (!c) H1
theorem z4o (ha : PT X a tA) : PW X (.BoolOp .And [a] pos) tA := by
 intro wh pins s σ H Q I h
 refine isTrue_and (thn (ha pins s σ H Q I h) fun c s1 e => ?_)
 cases c with
 | true => exact isTrue_and_nil e
 | false => exact e
theorem z2g (ha : PT X a tA) : PW X (.BoolOp .Or [a] pos) tA := by
 intro wh pins s σ H Q I h
 refine isTrue_or (thn (ha pins s σ H Q I h) fun c s1 e => ?_)
 cases c with
 | false => exact isTrue_or_nil e
 | true => exact e
theorem z5k (ha : PT X a tA) (hb : PW X (.BoolOp .And (b :: rest) pos) tB') : PW X (.BoolOp .And (a :: b :: rest) pos) (tAnd tA tB') := by
 intro wh pins s σ H Q I h
 refine isTrue_and (thn (ha pins s σ H _ I h) fun c s1 ⟨H1, I1, q1⟩ => ?_)
 cases c with
 | true => exact hb wh pins s1 σ H1 Q I1 q1
 | false => exact ⟨H1, I1, q1⟩
theorem z2h (ha : PT X a tA) (hb : PW X (.BoolOp .Or (b :: rest) pos) tB') : PW X (.BoolOp .Or (a :: b :: rest) pos) (tOr tA tB') := by
 intro wh pins s σ H Q I h
 refine isTrue_or (thn (ha pins s σ H _ I h) fun c s1 ⟨H1, I1, q1⟩ => ?_)
 cases c with
 | true => exact ⟨H1, I1, q1⟩
 | false => exact hb wh pins s1 σ H1 Q I1 q1
theorem z2y (ha : PT X a tA) : PT X (.UnaryOp .Not a pos) (tNot tA) := by
 intro pins s σ H Q I h
 exact isTrue_not (ha pins s σ H (fun c H1 => Q (!c) H1) I h)
def zbw (ta tb : TE) : TE := fun σ H Q => ta σ H fun x H1 => ∃ c, x = .bl c ∧ if c = true then tb σ H1 Q else Q (.bl false) H1
theorem z1q {op} {t : TE} (h : PE X a t) : PE X (.BoolOp op [a] pos) t := fun pins s σ H Q I hw => BoolOp_one (h pins s σ H Q I hw)
theorem z1r (ha : PE X a ta) (hb : PE X (.BoolOp .And (b :: rest) pos) tb) : PE X (.BoolOp .And (a :: b :: rest) pos) (zbw ta tb) := by
 intro pins s σ H Q I h
 refine BoolOp_and (thn (ha pins s σ H _ I h) fun v s1 ⟨x, H1, I1, r1, q1⟩ => ?_)
 obtain ⟨c, rfl, q1⟩ := q1
 cases r1
 refine wpAny_truthy_bool ?_
 cases c with
 | true => exact hb pins s1 σ H1 Q I1 q1
 | false => exact ⟨.bl false, H1, I1, rfl, q1⟩
end
end L2
namespace L2
open PySem PySem.Spec PyProof.Rows
def SqL (K : PySem.W.Frag) (H : Hp) (a : Addr) (xs : List V) : Prop :=
 Rd H a (.lst xs) ∨
  ∃ (o : Obj) (its : Array Value) (n : Nat), K.lookup a = some o ∧ o.cls = .type "list" ∧ o.dict = none ∧ o.data = .seq its n ∧ its.size ≤ sizeLine ∧ Vals xs its.toList
def SqT (K : PySem.W.Frag) (H : Hp) (a : Addr) (xs : List V) : Prop :=
 Rd H a (.tup xs) ∨
  ∃ (o : Obj) (its : Array Value) (n : Nat), K.lookup a = some o ∧ o.cls = .type "tuple" ∧ o.data = .seq its n ∧ its.size ≤ sizeLine ∧ Vals xs its.toList
def absV : Value → Option V
 | .none => some .non
 | .bool b => some (.bl b)
 | .int i _ => some (.int i)
 | .str x _ => some (.str x)
 | .bytes b _ => some (.byt b)
 | .float b _ => some (.flt b)
 | .ref a => some (.ref a)
 | .type n => some (.ty n)
 | _ => none
theorem RelV.abs {x : V} {u : Value} (r : RelV x u) : absV u = some x := by
 cases x with
 | non => cases r; rfl
 | bl _ => cases r; rfl
 | int _ => obtain ⟨t, rfl⟩ := r; rfl
 | str _ => obtain ⟨t, rfl⟩ := r; rfl
 | byt _ => obtain ⟨t, rfl⟩ := r; rfl
 | flt _ => obtain ⟨t, rfl⟩ := r; rfl
 | ref _ => cases r; rfl
 | ty _ => cases r; rfl
theorem RelV.inj {x y : V} {u : Value} (r : RelV x u) (q : RelV y u) : x = y := Option.some.inj (r.abs.symm.trans q.abs)
theorem Vals.inj : ∀ {xs ys : List V} {us : List Value}, Vals xs us → Vals ys us → xs = ys
 | _, _, _, .nil, .nil => rfl
 | _, _, _, .cons r t, .cons r' t' => by rw [r.inj r', Vals.inj t t']
section
variable {X : Cx} {pins : List (Addr × Obj)} {σ : St} {H : Hp} {s : Shared} {a : Addr} {xs ys : List V}
theorem SqL.of {K : PySem.W.Frag} (h : H a = some (.lst xs)) : SqL K H a xs := .inl (.inl h)
theorem SqT.of {K : PySem.W.Frag} (h : H a = some (.tup xs)) : SqT K H a xs := .inl (.inl h)
theorem Inv.list (I : Inv X pins σ H s) (h : SqL X.K H a xs) : ∃ its : List Value, Vals xs its ∧ PlainL s.heap a its.toArray ∧ xs.length ≤ sizeLine := by
 rcases h with h | ⟨o, its, n, hk, hc, hd, hs, hz, r⟩
 ·obtain ⟨z, its, n, r, e⟩ := h.ok I.hok
  exact ⟨its, r, ⟨_, n, e, rfl, rfl, rfl⟩, z⟩
 ·refine ⟨its.toList, r, ⟨o, n, I.kIn a o hk, hc, hd, by simpa using hs⟩, ?_⟩
  have e := r.length
  simp only [Array.length_toList] at e
  omega
theorem Inv.tuple (I : Inv X pins σ H s) (h : SqT X.K H a xs) : ∃ its : List Value, Vals xs its ∧ IsTup s.heap a its.toArray ∧ xs.length ≤ sizeLine := by
 rcases h with h | ⟨o, its, n, hk, hc, hs, hz, r⟩
 ·obtain ⟨z, its, r, p⟩ := h.ok I.hok
  exact ⟨its, r, p, z⟩
 ·refine ⟨its.toList, r, ⟨o, I.kIn a o hk, hc, n, by simpa using hs⟩, ?_⟩
  have e := r.length
  simp only [Array.length_toList] at e
  omega
theorem Inv.list_inj (I : Inv X pins σ H s) (h : SqL X.K H a xs) (h' : SqL X.K H a ys) : xs = ys := by
 obtain ⟨its, r, ⟨o, n, e, _, _, d⟩, _⟩ := I.list h
 obtain ⟨its', r', ⟨o', n', e', _, _, d'⟩, _⟩ := I.list h'
 rw [e] at e'; cases e'
 rw [d] at d'
 injection d' with d1 _
 have : its = its' := by simpa using congrArg Array.toList d1
 subst this
 exact r.inj r'
end
abbrev Cx.wish (X : Cx) (E : Value → Shared → Prop) : Cx := { X with xe := E }
abbrev Cx.nox (X : Cx) : Cx := X.wish fun _ _ => False
theorem Cx.Ok.wish {X : Cx} (ok : X.Ok) (E : Value → Shared → Prop) : (X.wish E).Ok :=
 ⟨ok.mod, ok.kind, ok.glob, ok.blt, ok.above, ok.inj, ok.has, ok.cab, ok.hd, ok.frames, ok.stk, ok.exf, ok.bs, ok.bsz, ok.noex, ok.exfs, ok.funs, ok.frf⟩
theorem Cx.Ok.unwish {X : Cx} {E : Value → Shared → Prop} (ok : (X.wish E).Ok) : X.Ok :=
 ⟨ok.mod, ok.kind, ok.glob, ok.blt, ok.above, ok.inj, ok.has, ok.cab, ok.hd, ok.frames, ok.stk, ok.exf, ok.bs, ok.bsz, ok.noex, ok.exfs, ok.funs, ok.frf⟩
section
variable {X : Cx} {pins : List (Addr × Obj)} {σ : St} {H : Hp} {s : Shared} {E : Value → Shared → Prop}
theorem Inv.wish (I : Inv X pins σ H s) (E : Value → Shared → Prop) : Inv (X.wish E) pins σ H s := ⟨I.ok.wish E, I.os, I.bare, I.base, I.loc, I.cell, I.free, I.freeC, I.pin, I.hok, I.len⟩
theorem Inv.unwish (I : Inv (X.wish E) pins σ H s) : Inv X pins σ H s := ⟨I.ok.unwish, I.os, I.bare, I.base, I.loc, I.cell, I.free, I.freeC, I.pin, I.hok, I.len⟩
theorem SP.unwish {D : Ends} {f : Flow} {s' : Shared} (h : SP (X.wish E) pins D f s') : SP X pins D f s' := by
 cases f with
 | next => obtain ⟨σ', H', I, q⟩ := h; exact ⟨σ', H', I.unwish, q⟩
 | brk => obtain ⟨σ', H', I, q⟩ := h; exact ⟨σ', H', I.unwish, q⟩
 | cont => obtain ⟨σ', H', I, q⟩ := h; exact ⟨σ', H', I.unwish, q⟩
 | ret u => obtain ⟨v, σ', H', I, r, q⟩ := h; exact ⟨v, σ', H', I.unwish, r, q⟩
theorem PE.nox {e : Expr} {t : TE} (h : PE X.nox e t) : PE X e t := fun pins s σ H Q I hw =>
 wpAny_mono (h pins s σ H Q (I.wish _) hw) (fun _ _ ⟨v, H', I', r, q⟩ => ⟨v, H', I'.unwish, r, q⟩) fun _ _ z => False.elim z
theorem PT.nox {e : Expr} {t : TT} (h : PT X.nox e t) : PT X e t := fun pins s σ H Q I hw =>
 wpAny_mono (h pins s σ H Q (I.wish _) hw) (fun _ _ ⟨H', I', q⟩ => ⟨H', I'.unwish, q⟩) fun _ _ z => False.elim z
theorem PSs.nox {st : List Stmt} {t : TS} (h : PSs X.nox st t) : PSs X st t := fun pins s σ H D I hw =>
 wpAny_mono (h pins s σ H D (I.wish _) hw) (fun _ _ q => q.unwish) fun _ _ z => False.elim z
end
section
variable {X : Cx} {st : Stmt} {rest : List Stmt} {t u : TS} {e : Expr} {te : TE} {pos : Pos}
def zbx : TS := fun D σ H => D.nx σ H
def tSeq (t u : TS) : TS := fun D σ H => t { D with nx := u D } σ H
theorem zl : PSs X [] zbx := fun _ _ σ H _ I h => wpAny_execs_nil ⟨σ, H, I, h⟩
theorem z9 (h1 : PS X st t) (h2 : PSs X rest u) : PSs X (st :: rest) (tSeq t u) := by
 intro pins s σ H D I h
 refine wpAny_execs_cons (thn (h1 pins s σ H { D with nx := u D } I h) fun f s1 q => ?_)
 cases f with
 | next =>
  obtain ⟨σ', H', I', q⟩ := q
  exact h2 pins s1 σ' H' D I' q
 | ret v => exact q
 | brk => exact q
 | cont => exact q
theorem za (h1 : PS X st t) : PSs X [st] t := by
 intro pins s σ H D I h
 refine wpAny_execs_cons (thn (h1 pins s σ H D I h) fun f s1 q => ?_)
 cases f with
 | next => exact wpAny_execs_nil q
 | ret v => exact q
 | brk => exact q
 | cont => exact q
theorem Inv.quiet {pins : List (Addr × Obj)} {σ : St} {H : Hp} {s : Shared} (I : Inv X pins σ H s) : interactive X.env = false := by simp [interactive, I.ok.kind]
def zby (te : TE) : TS := fun D σ H => te σ H fun _ H1 => D.nx σ H1
theorem z4p (he : PE X e te) (hs : swapsWith e none pos.line X.env = pure false := by rfl) : PS X (.Expr e pos) (zby te) := by
 intro pins s σ H D I h
 exact wpAny_Expr_any (thn (he pins s σ H _ I h) fun v s1 ⟨x, H1, I1, r1, q1⟩ => ⟨σ, H1, I1, q1⟩) I.quiet hs
def tRet (te : TE) : TS := fun D σ H => te σ H D.rt
theorem zk (he : PE X e te) : PS X (.Return (some e) pos) (tRet te) := by
 intro pins s σ H D I h
 exact wpAny_Return_some (thn (he pins s σ H _ I h) fun v s1 ⟨x, H1, I1, r1, q1⟩ => ⟨x, σ, H1, I1, r1, q1⟩)
def tIfS (c : TT) (t u : TS) : TS := fun D σ H => c σ H fun b H1 => if b = true then t D σ H1 else u D σ H1
theorem zr {c : Expr} {a b : List Stmt} {tc : TT} (hc : PT X c tc) (ha : PSs X a t) (hb : PSs X b u) : PS X (.If c a b pos) (tIfS tc t u) := by
 intro pins s σ H D I h
 refine wpAny_If (thn (hc pins s σ H _ I h) fun d s1 ⟨H1, I1, q1⟩ => ?_)
 cases d with
 | true => exact ha pins s1 σ H1 D I1 q1
 | false => exact hb pins s1 σ H1 D I1 q1
end
abbrev TG := V → St → Hp → (St → Hp → Prop) → Prop
def PG (X : Cx) (target : Expr) (t : TG) : Prop :=
 ∀ (pins : List (Addr × Obj)) (s : Shared) (σ : St) (H : Hp) (v : V) (u : Value) (Q : St → Hp → Prop), Inv X pins σ H s → RelV v u → t v σ H Q →
  wpAny (model X.prog X.w) X.A (assign target X.env u) (fun _ s' => ∃ σ' H', Inv X pins σ' H' s' ∧ Q σ' H') X.xe s
abbrev TSet := V → V → V → Hp → (Hp → Prop) → Prop
def PSet (X : Cx) (t : TSet) : Prop :=
 ∀ (pins : List (Addr × Obj)) (s : Shared) (σ : St) (H : Hp) (o i v : V) (ov iv u : Value) (Q : Hp → Prop), Inv X pins σ H s → RelV o ov → RelV i iv → RelV v u → t o i v H Q →
  wpAny (model X.prog X.w) X.A (setItem ov iv u) (fun _ s' => ∃ H', Inv X pins σ H' s' ∧ Q H') X.xe s
section
variable {X : Cx} {pos : Pos}
def z79 (i : Nat) : TG := fun v σ H Q => Q (σ.set i (some v)) H
theorem z3r {i : Nat} {x : Str} (hN : X.N.Nodup) (hi : X.N[i]? = some x) (hx : Loc X.env.scope x) (hf : X.fn x = true ∨ X.env.scope.names.lookup x = some .local := by first | exact .inl rfl | exact .inr rfl | assumption) : PG X (.Name x pos) (z79 i) := by
 intro pins s σ H v u Q I r h
 exact wpAny_assign_Name (z2x I hN hi hx r (fun s' I' => ⟨_, H, I', h⟩) hf)
def gSub (to ti : TE) (t : TSet) : TG := fun v σ H Q => to σ H fun o H1 => ti σ H1 fun i H2 => t o i v H2 fun H3 => Q σ H3
theorem z7f {o i : Expr} {to ti : TE} {t : TSet} (ho : PE X o to) (hi : PE X i ti) (hs : PSet X t)
  (ha : ∀ v, assign (.Subscript o i pos) X.env v = (do
   let ov ← holding [v] (eval o X.env)
   let iv ← holding [v, ov] (eval i X.env)
   standAt pos
   holding [v, ov, iv] (setItem ov iv v)
   release [v, ov, iv] []) := by intro _; rfl) : PG X (.Subscript o i pos) (gSub to ti t) := by
 intro pins s σ H v u Q I r h
 rw [ha]
 refine wpAny_bind (wpAny_holding (thn (ho pins s σ H _ I h) fun ov s1 ⟨x, H1, I1, r1, q1⟩ => ?_))
 refine wpAny_bind (wpAny_holding (thn (hi pins s1 σ H1 _ I1 q1) fun iv s2 ⟨y, H2, I2, r2, q2⟩ => ?_))
 refine wpAny_bind (wpAny_standAt (wpAny_bind (wpAny_holding (thn (hs pins s2 σ H2 x y v ov iv u _ I2 r1 r2 r q2) fun _ s3 ⟨H3, I3, q3⟩ => ?_))))
 exact wpAny_release ⟨σ, H3, I3, q3⟩
def tAsg (te : TE) (g : TG) : TS := fun D σ H => te σ H fun x H1 => g x σ H1 D.nx
theorem z7g {tg e : Expr} {te : TE} {g : TG} (he : PE X e te) (hg : PG X tg g) (hs : swapsWithSole [tg] e pos.line X.env = pure false := by rfl) (hw : swappedStores [tg] e X.env = pure none := by rfl)
  (h1 : (assignEach [tg] X.env).map (·.2) = [assign tg X.env] := by rfl) : PS X (.Assign [tg] e pos) (tAsg te g) := by
 intro pins s σ H D I h
 refine wpAny_Assign_stores (thn (he pins s σ H _ I h) fun v s1 ⟨x, H1, I1, r1, q1⟩ => ?_) hs hw
 rw [h1]
 exact thn (hg pins s1 σ H1 x v _ I1 r1 q1) fun _ s2 q => q
theorem zo {i : Nat} {x : Str} {e : Expr} {te : TE} {pos' : Pos} (hN : X.N.Nodup) (hi : X.N[i]? = some x) (hx : Loc X.env.scope x) (he : PE X e te) (hs : swapsWith e (some (.Name x pos')) pos.line X.env = pure false := by rfl) (hf : X.fn x = true ∨ X.env.scope.names.lookup x = some .local := by first | exact .inl rfl | exact .inr rfl | assumption) :
  PS X (.Assign [.Name x pos'] e pos) (tAsg te (z79 i)) := by
 intro pins s σ H D I h
 refine wpAny_Assign_Name (thn (he pins s σ H _ I h) fun v s1 ⟨y, H1, I1, r1, q1⟩ => ?_) hs
 exact z2x I1 hN hi hx r1 (fun s2 I2 => ⟨_, H1, I2, q1⟩) hf
end
section
variable {X : Cx} {pos : Pos}
end
structure It where
 go : Nat → Hp → Prop
 yld : Nat → Hp → V → Hp → Prop
 stop : Nat → Hp → Prop
def FpOk (X : Cx) (pins : List (Addr × Obj)) (H : Hp) (b : Addr) : Prop :=
 H b = none ∧ b ≠ X.env.locals ∧ b ∉ X.fs ∧ (b ∈ X.ex ∨ X.s₀.heap.objs.size ≤ b) ∧ (∀ x c, X.env.cells.lookup x = some c → c ≠ b) ∧ ∀ p ∈ X.pn ++ pins, p.1 ≠ b
theorem Inv.fpOk {X : Cx} {pins : List (Addr × Obj)} {σ : St} {H H' : Hp} {s : Shared} {b : Addr} (I : Inv X pins σ H s) (hb : s.heap.objs.size ≤ b) (hn : H' b = none) : FpOk X pins H' b := by
 refine ⟨hn, Nat.ne_of_gt (Nat.lt_of_lt_of_le I.lt hb), I.nofs hb, .inr (Nat.le_trans I.sz hb), fun x c e z => ?_, fun p hp z => ?_⟩
 ·obtain ⟨v, q⟩ := I.cell x c e
  exact absurd (Nat.lt_of_lt_of_le q.lt (by rw [z]; exact hb)) (Nat.lt_irrefl _)
 ·exact absurd (Nat.lt_of_lt_of_le (Heap.lt_size (I.pin p hp).1) (by rw [z]; exact hb)) (Nat.lt_irrefl _)
structure Turn (P : Program) (w : World) (K : PySem.W.Frag) (tg : Expr) (J : It) (fp : List Addr) (it : Addr) (tn : Nat → Heap → Prop) : Prop where
 mem : it ∈ fp
 obj : ∀ i h, tn i h → ∀ b ∈ fp, ∃ o, h.get? b = some o ∧ ∀ v, o.data ≠ .cell v
 keep : ∀ i h h', tn i h → (∀ b ∈ fp, ∀ o, h.get? b = some o → h'.get? b = some o) → tn i h'
 item : ∀ (X : Cx), X.prog = P → X.w = w → X.K = K → X.calm = true → ∀ (i : Nat) (pins : List (Addr × Obj)) (s : Shared) (σ : St) (H : Hp) (E : Value → Shared → Prop), Inv X pins σ H s → (∀ b ∈ fp, FpOk X pins H b) → tn i s.heap → J.go i H →
  wpAny (model P w) X.A (pyNext (.ref it)) (fun r s1 => ∃ u, r = some u ∧
   wpAny (model P w) X.A (letOwnedTupleGo tg (.ref it) u) (fun _ s2 => ∃ x H', Inv X pins σ H' s2 ∧ RelV x u ∧ J.yld i H x H' ∧ tn (i + 1) s2.heap ∧ ∀ b ∈ fp, H' b = none) E s1) E s
 done : ∀ (X : Cx), X.prog = P → X.w = w → X.K = K → X.calm = true → ∀ (i : Nat) (pins : List (Addr × Obj)) (s : Shared) (σ : St) (H : Hp) (E : Value → Shared → Prop), Inv X pins σ H s → (∀ b ∈ fp, FpOk X pins H b) → tn i s.heap → J.stop i H →
  wpAny (model P w) X.A (pyNext (.ref it)) (fun r s1 => r = none ∧ Inv X pins σ H s1) E s
 self : ∀ (A : Around) (i : Nat) (s : Shared) (Q : Value → Shared → Prop) (E : Value → Shared → Prop), tn i s.heap → Q (.ref it) s → wpAny (model P w) A (pyIter (.ref it)) Q E s
abbrev TI := St → Hp → (It → Hp → Prop) → Prop
def PIE (X : Cx) (pins : List (Addr × Obj)) (σ : St) (tg : Expr) (R : It → Hp → Prop) (itv : Value) (s2 : Shared) : Prop :=
 ∃ (it : Addr) (fp : List Addr) (tn : Nat → Heap → Prop) (J : It) (H' : Hp), itv = .ref it ∧ Inv X pins σ H' s2 ∧ Turn X.prog X.w X.K tg J fp it tn ∧ tn 0 s2.heap ∧ (∀ b ∈ fp, FpOk X pins H' b) ∧ R J H'
def PI (X : Cx) (tg iter : Expr) (wi : TI) : Prop :=
 ∀ (pins : List (Addr × Obj)) (s : Shared) (σ : St) (H : Hp) (R : It → Hp → Prop), Inv X pins σ H s → wi σ H R →
  wpAny (model X.prog X.w) X.A (eval iter X.env) (fun v s1 => wpAny (model X.prog X.w) X.A (pyIter v) (PIE X pins σ tg R) X.xe s1) X.xe s
theorem z7a {M : Model} {A : Around} {E : Value → Shared → Prop} {s : Shared} {tg : Expr} {it : Addr} {u : Value} {o : Obj} {n : String} {vs : Array Value} {Q : Unit → Shared → Prop} (ho : s.heap.get? it = some o) (hc : o.cls = .type n) (hd : o.data = .fields vs)
    (hn : ["enumerate", "zip", "dict_itemiterator", "dict_reverseitemiterator", "odict_iterator", "itertools.zip_longest", "itertools.pairwise"].contains n = false) (hQ : Q () s) : wpAny M A (letOwnedTupleGo tg (.ref it) u) Q E s := by
  unfold letOwnedTupleGo
  cases tg <;> first
    | exact wpAny_pure hQ
    | (cases u <;> first
        | exact wpAny_pure hQ
        | (refine wpAny_bind (wpAny_load ho ?_)
           rw [hc, hd]
           show wpAny M A (if (["enumerate", "zip", "dict_itemiterator", "dict_reverseitemiterator", "odict_iterator", "itertools.zip_longest", "itertools.pairwise"].contains n && vs[0]? == some (rawInt _)) = true then _ else _) Q E s
           rw [if_neg (by intro h; rw [hn, Bool.false_and] at h; cases h)]
           exact wpAny_pure hQ))
def Itl (K : PySem.W.Frag) (a : Addr) : It :=
 ⟨fun i H => ∃ xs x, SqL K H a xs ∧ xs[i]? = some x, fun i H x H' => H' = H ∧ ∀ xs, SqL K H a xs → xs[i]? = some x, fun i H => ∃ xs, SqL K H a xs ∧ xs.length ≤ i⟩
def Itr (lo : Int) (n : Nat) : It := ⟨fun i _ => i < n, fun i H x H' => H' = H ∧ x = .int (lo + i), fun i _ => n ≤ i⟩
theorem z9z {P : Program} {w : World} {K : PySem.W.Frag} {tg : Expr} (a it : Addr) : Turn P w K tg (Itl K a) [it] it (fun i h => h.IsListIter it a i) where
 mem := by simp
 obj := fun i h st b hb => by
  have e : b = it := by simpa using hb
  subst e
  obtain ⟨o, e, c, d⟩ := st
  exact ⟨o, e, fun v z => by rw [d] at z; cases z⟩
 keep := fun i h h' st k => st.at fun o e => k it (by simp) o e
 item := by
  intro X hP hw hK hc i pins s σ H E I hf st hg
  subst hP hw hK
  obtain ⟨xs, x, hq, hx⟩ := hg
  obtain ⟨its, rv, p, hz⟩ := I.list hq
  obtain ⟨u, hu, ru⟩ := rv.get hx
  obtain ⟨f0, f1, f2, f3, f4, f5⟩ := hf it (by simp)
  refine wpAny_pyNext_list_item st p.isList (x := u) (by simpa using hu) fun h' st' sb => ?_
  have I1 : Inv X pins σ H { s with heap := h' } := I.turned (t' := s.toks) (fun b o hb e => (sb.2 b hb).trans e) f0 f1 f3 f4 f5
  obtain ⟨o, e, c, d⟩ := id st'
  exact ⟨u, rfl, z7a (s := { s with heap := h' }) e c d (by decide) ⟨x, H, I1, ru, ⟨rfl, fun ys hy => by rw [I.list_inj hy hq]; exact hx⟩, st', fun b hb => (hf b hb).1⟩⟩
 done := by
  intro X hP hw hK hc i pins s σ H E I hf st hg
  subst hP hw hK
  obtain ⟨xs, hq, hx⟩ := hg
  obtain ⟨its, rv, p, hz⟩ := I.list hq
  obtain ⟨f0, f1, f2, f3, f4, f5⟩ := hf it (by simp)
  have hl := rv.length
  exact wpAny_pyNext_list_end (I.ok.hd hc) st p.isList (by simp; omega) fun h' eb => ⟨rfl, I.turned (t' := s.toks) (fun b o hb e => eb b o hb e) f0 f1 f3 f4 f5⟩
 self := fun _ _ _ _ _ st h => wpAny_pyIter_listiter st h
theorem z97 {P : Program} {w : World} {K : PySem.W.Frag} {tg : Expr} (it : Addr) (lo : Int) (n : Nat) : Turn P w K tg (Itr lo n) [it] it (fun i h => IsRangeIter h it (lo + (i : Nat) * 1) ((n : Int) - (i : Nat)) 1) where
 mem := by simp
 obj := fun i h st b hb => by
  have e : b = it := by simpa using hb
  subst e
  exact ⟨_, st, fun v z => by
   have z' : Data.fields _ = Data.cell v := z
   cases z'⟩
 keep := fun i h h' st k => k it (by simp) _ st
 item := by
  intro X hP hw hK hc i pins s σ H E I hf st hg
  subst hP hw hK
  obtain ⟨f0, f1, f2, f3, f4, f5⟩ := hf it (by simp)
  have W := Walks.range (prog := X.prog) (w := X.w) (I.ok.hd hc) it lo 1 n
  refine W.item i s _ _ hg st fun v h' tk hv st' kk => ?_
  obtain ⟨t, rfl⟩ := hv
  have I1 : Inv X pins σ H { s with heap := h', toks := tk } := I.turned (fun b o hb e => kk b o (by simpa using hb) e) f0 f1 f3 f4 f5
  refine ⟨_, rfl, z7a (s := { s with heap := h', toks := tk }) (n := "range_iterator") st' rfl rfl (by decide) ⟨.int (lo + i), H, I1, ⟨t, ?_⟩, ⟨rfl, rfl⟩, st', fun b hb => (hf b hb).1⟩⟩
  rw [Int.mul_one]
 done := by
  intro X hP hw hK hc i pins s σ H E I hf st hg
  subst hP hw hK
  obtain ⟨f0, f1, f2, f3, f4, f5⟩ := hf it (by simp)
  exact wpAny_pyNext_range_end (I.ok.hd hc) st (by have : n ≤ i := hg; omega) fun h' eb => ⟨rfl, I.turned (t' := s.toks) (fun b o hb e => eb b o hb e) f0 f1 f3 f4 f5⟩
 self := fun _ _ _ _ _ st h => wpAny_pyIter_rangeiter st h
end L2
namespace L2
open PySem PySem.Spec PyProof.Rows
section
variable {X : Cx} {tg : Expr}
def zbz (K : PySem.W.Frag) (tl : TE) : TI := fun σ H R => tl σ H fun x H1 => ∃ a, x = .ref a ∧ (∃ xs, SqL K H1 a xs) ∧ R (Itl K a) H1
theorem z1m {l : Expr} {tl : TE} (hl : PE X l tl) : PI X tg l (zbz X.K tl) := by
 intro pins s σ H R I h
 refine thn (hl pins s σ H _ I h) fun v s1 ⟨x, H1, I1, r1, q1⟩ => ?_
 obtain ⟨a, e, ⟨xs, hq⟩, q⟩ := q1
 subst e
 cases r1
 obtain ⟨its, rv, p, hz⟩ := I1.list hq
 refine wpAny_pyIter_list p.isList ?_
 refine ⟨s1.heap.objs.size, [s1.heap.objs.size], _, _, H1, rfl, I1.kept (t' := s1.toks) fun b o e => Heap.get?_push_of_some _ e, z9z a _, ⟨_, Heap.get?_push_size _ rfl, rfl, rfl⟩, fun b hb => ?_, q⟩
 have e : b = s1.heap.objs.size := by simpa using hb
 subst e
 exact I1.fpOk (Nat.le_refl _) (I1.hok.fresh (Nat.le_refl _))
theorem z7h {pins : List (Addr × Obj)} {σ : St} {H : Hp} {s : Shared} {R : It → Hp → Prop} {E : Value → Shared → Prop} {lo hi : Int} {t u v : Tok} {tk : Nat} (I : Inv X pins σ H s) (h1 : -(2 ^ 62) ≤ lo) (h2 : lo < 2 ^ 62) (h3 : -(2 ^ 62) ≤ hi) (h4 : hi < 2 ^ 62)
  (q : R (Itr lo (hi - lo).toNat) H) : wpAny (model X.prog X.w) X.A (pyIter (.ref s.heap.objs.size)) (PIE X pins σ tg R) E { s with heap := s.heap.push { cls := .type "range", data := .fields #[.int lo t, .int hi u, .int 1 v] }, toks := tk } := by
 refine wpAny_pyIter_range (IsRange.new ..) (small_one h1 h2 h3 h4) ?_
 have I1 : Inv X pins σ H { s with heap := s.heap.push { cls := .type "range", data := .fields #[.int lo t, .int hi u, .int 1 v] }, toks := tk } := I.kept fun b o e => Heap.get?_push_of_some _ e
 refine ⟨(s.heap.push { cls := .type "range", data := .fields #[.int lo t, .int hi u, .int 1 v] }).objs.size, [(s.heap.push { cls := .type "range", data := .fields #[.int lo t, .int hi u, .int 1 v] }).objs.size], _, _, H, rfl,
  I1.kept (t' := tk) fun b o e => Heap.get?_push_of_some _ e, z97 _ lo (hi - lo).toNat, ?_, fun b hb => ?_, q⟩
 ·have e1 : lo + ((0 : Nat) : Int) * 1 = lo := by simp
  have e2 : (((hi - lo).toNat : Nat) : Int) - ((0 : Nat) : Int) = Builtin.Range.rangeSize lo hi 1 := by rw [rangeSize_one]; split <;> omega
  show IsRangeIter _ _ (lo + ((0 : Nat) : Int) * 1) ((((hi - lo).toNat : Nat) : Int) - ((0 : Nat) : Int)) 1
  rw [e1, e2]
  exact Heap.get?_push_size _ rfl
 ·have e : b = (s.heap.push { cls := .type "range", data := .fields #[.int lo t, .int hi u, .int 1 v] }).objs.size := by simpa using hb
  subst e
  exact I1.fpOk (Nat.le_refl _) (I1.hok.fresh (Nat.le_refl _))
def z98 (ta : TA) : TI := fun σ H R => ta σ H fun vs H1 => ∃ j : Int, vs = [.int j] ∧ -(2 ^ 62) ≤ j ∧ j < 2 ^ 62 ∧ R (Itr 0 j.toNat) H1
def zc0 (ta : TA) : TI := fun σ H R => ta σ H fun vs H1 => ∃ i j : Int, vs = [.int i, .int j] ∧ (-(2 ^ 62) ≤ i ∧ i < 2 ^ 62 ∧ -(2 ^ 62) ≤ j ∧ j < 2 ^ 62) ∧ R (Itr i (j - i).toNat) H1
theorem z1u {a : Expr} {ta : TA} {p pos : Pos} (hg : Gl X "range") (hm : X.mg "range" = none) (ha : PA X [a] ta) (hs : starEach [a] X.env = [(false, eval a X.env)] := by rfl) : PI X tg (.Call (.Name "range" p) [a] [] pos) (z98 ta) := by
 intro pins s σ H R I h
 refine Call_ (z48 I hg hm boot_range (PyProof.Rows.callWith_type1 (thn (ha pos pins s σ H _ I h) fun us s1 ⟨vs, H1, I1, r1, q1⟩ => ?_) hs rfl))
 obtain ⟨j, e, q1, q2, q⟩ := q1
 subst e
 cases r1 with
 | cons r rr =>
  cases rr
  obtain ⟨t, rfl⟩ := r
  exact call_range_1 (z7h I1 (by omega) (by omega) q1 q2 (by simpa using q))
theorem za0 {a b : Expr} {ta : TA} {p pos : Pos} (hg : Gl X "range") (hm : X.mg "range" = none) (ha : PA X [a, b] ta) (hs : starEach [a, b] X.env = [(false, eval a X.env), (false, eval b X.env)] := by rfl) (hs2 : starEach [b] X.env = [(false, eval b X.env)] := by rfl) :
  PI X tg (.Call (.Name "range" p) [a, b] [] pos) (zc0 ta) := by
 intro pins s σ H R I h
 refine Call_ (z48 I hg hm boot_range (PyProof.Rows.callWith_type1 (thn (ha pos pins s σ H _ I h) fun us s1 ⟨vs, H1, I1, r1, q1⟩ => ?_) (by rw [hs, hs2]) (by rw [hs2]; rfl)))
 obtain ⟨i, j, e, ⟨q1, q2, q3, q4⟩, q⟩ := q1
 subst e
 cases r1 with
 | cons r rr =>
  cases rr with
  | cons r' rr =>
   cases rr
   obtain ⟨t, rfl⟩ := r
   obtain ⟨t', rfl⟩ := r'
   exact call_range_2 (z7h I1 q1 q2 q3 q4 q)
def tFor (wi : TI) (g : TG) (tb : TS) : TS := fun D σ H => wi σ H fun J H1 => ∃ W : Nat → Nat → St → Hp → Prop, (∃ m, W 0 m σ H1) ∧ ∀ i m σ H, W i m σ H →
 (J.stop i H ∧ D.nx σ H) ∨ (J.go i H ∧ ∃ N : St → Hp → Prop, (∀ σ' H', N σ' H' → ∃ m', m' < m ∧ W (i + 1) m' σ' H') ∧ ∀ x H', J.yld i H x H' → g x σ H' fun σ2 H2 => tb { D with nx := N, ct := N, bk := D.nx } σ2 H2)
def z3s (fp : List Addr) (h : Heap) : List (Addr × Obj) := fp.filterMap fun b => (h.get? b).map fun o => (b, o)
theorem z2u {fp : List Addr} {h : Heap} {b : Addr} {o : Obj} (hb : b ∈ fp) (e : h.get? b = some o) : (b, o) ∈ z3s fp h := List.mem_filterMap.mpr ⟨b, hb, by rw [e]; rfl⟩
theorem za1 {fp : List Addr} {h : Heap} {p : Addr × Obj} (hp : p ∈ z3s fp h) : p.1 ∈ fp ∧ h.get? p.1 = some p.2 := by
 obtain ⟨b, hb, e⟩ := List.mem_filterMap.mp hp
 cases q : h.get? b with
 | none => rw [q] at e; cases e
 | some o =>
  rw [q] at e
  have e' : (b, o) = p := Option.some.inj e
  subst e'
  exact ⟨hb, q⟩
theorem Inv.pinned {pins : List (Addr × Obj)} {σ : St} {H : Hp} {s : Shared} {fp : List Addr} (I : Inv X pins σ H s) (hf : ∀ b ∈ fp, FpOk X pins H b) (ho : ∀ b ∈ fp, ∃ o, s.heap.get? b = some o ∧ ∀ v, o.data ≠ .cell v) : Inv X (pins ++ z3s fp s.heap) σ H s :=
 I.pins_of fun p hp => (List.mem_append.mp hp).elim (fun z => I.pin p (List.mem_append_right _ z)) fun z => by
  obtain ⟨hb, e⟩ := za1 z
  obtain ⟨f0, f1, f2, _⟩ := hf p.1 hb
  obtain ⟨o, e', d⟩ := ho p.1 hb
  rw [e] at e'; cases e'
  exact ⟨e, f0, f1, f2, d⟩
theorem Inv.unpinned {pins pl : List (Addr × Obj)} {σ : St} {H : Hp} {s : Shared} (I : Inv X (pins ++ pl) σ H s) : Inv X pins σ H s := I.pins_of fun p hp => I.pin p (List.mem_append_right _ (List.mem_append_left _ hp))
theorem z49 {iter : Expr} {body : List Stmt} {wi : TI} {g : TG} {tb : TS} {pos : Pos} (hp : PassesOwn (model X.prog X.w) X.A X.env X.xe) (hc : X.calm = true) (hi : PI X tg iter wi) (hg : PG X tg g) (hb : PSs X body tb)
  (hs : ∀ x, foldedSetIterable iter X.env x = pure x := by intro _; rfl) : PS X (.For tg iter body [] pos) (tFor wi g tb) := by
 intro pins s σ H D I h
 refine wpAny_For (thn (hi pins s σ H _ I h) fun v s1 h1 => thn h1 fun itv s2 h2 => ?_) hs
 obtain ⟨it, fp, tn, J, H2, e, I2, T, st2, f2, W, ⟨m0, w0⟩, turn⟩ := h2
 subst e
 have stat : ∀ {H' : Hp}, (∀ b ∈ fp, H' b = none) → ∀ b ∈ fp, FpOk X pins H' b := fun hn b hb => ⟨hn b hb, (f2 b hb).2⟩
 refine codeAny_forLoop_any (fun n s' => ∃ i σ' H', Inv X pins σ' H' s' ∧ tn i s'.heap ∧ (∀ b ∈ fp, H' b = none) ∧ W i n σ' H') ?_ m0 ⟨0, σ, H2, I2, st2, fun b hb => (f2 b hb).1, w0⟩
 rintro n s3 ⟨i, σ3, H3, I3, st3, fr3, w3⟩
 rcases turn i n σ3 H3 w3 with ⟨stop, qn⟩ | ⟨go, N, hN, step⟩
 ·refine wpAny_passesOwn hp (thn (T.done X rfl rfl rfl hc i pins s3 σ3 H3 X.xe I3 (stat fr3) st3 stop) fun r s4 ⟨hr, I4⟩ => ?_)
  subst hr
  exact wpAny_execs_nil ⟨σ3, H3, I4, qn⟩
 ·refine wpAny_passesOwn hp (thn (T.item X rfl rfl rfl hc i pins s3 σ3 H3 X.xe I3 (stat fr3) st3 go) fun r s4 ⟨u, hr, h4⟩ => ?_)
  subst hr
  refine wpAny_passesOwn hp (thn h4 fun _ s5 ⟨x, H5, I5, r5, y5, st5, fr5⟩ => ?_)
  have I5' := I5.pinned (stat fr5) (T.obj _ _ st5)
  refine wpAny_passesOwn hp (thn (hg _ s5 σ3 H5 x u _ I5' r5 (step x H5 y5)) fun _ s6 ⟨σ6, H6, I6, q6⟩ => ?_)
  refine wpAny_passesOwn hp (thn (hb _ s6 σ6 H6 _ I6 q6) fun f s7 q7 => ?_)
  have again : ∀ {σ7 : St} {H7 : Hp}, Inv X (pins ++ z3s fp s5.heap) σ7 H7 s7 → N σ7 H7 → ∃ m, m < n ∧ ∃ i σ' H', Inv X pins σ' H' s7 ∧ tn i s7.heap ∧ (∀ b ∈ fp, H' b = none) ∧ W i m σ' H' := fun {σ7 H7} I7 n7 => by
   obtain ⟨m', hm, w7⟩ := hN σ7 H7 n7
   refine ⟨m', hm, i + 1, σ7, H7, I7.unpinned, T.keep _ _ _ st5 fun b hb o e => (I7.pin (b, o) (List.mem_append_right _ (List.mem_append_right _ (z2u hb e)))).1, fun b hb => ?_, w7⟩
   obtain ⟨o, e, d⟩ := T.obj _ _ st5 b hb
   exact (I7.pin (b, o) (List.mem_append_right _ (List.mem_append_right _ (z2u hb e)))).2.1
  cases f with
  | next => obtain ⟨σ7, H7, I7, n7⟩ := q7; exact again I7 n7
  | cont => obtain ⟨σ7, H7, I7, n7⟩ := q7; exact again I7 n7
  | brk => obtain ⟨σ7, H7, I7, q7⟩ := q7; exact ⟨σ7, H7, I7.unpinned, q7⟩
  | ret v => obtain ⟨x7, σ7, H7, I7, r7, q7⟩ := q7; exact ⟨x7, σ7, H7, I7.unpinned, r7, q7⟩
end
theorem zbc {K : PySem.W.Frag} {a : Addr} {xs : List V} {g : TG} {tb : TS} {D : Ends} {σ : St} {H : Hp} (Pv : Nat → St → Hp → Prop) (h0 : Pv 0 σ H) (hl : ∀ i σ H, i ≤ xs.length → Pv i σ H → SqL K H a xs)
  (hs : ∀ i x σ H, xs[i]? = some x → Pv i σ H → g x σ H fun σ2 H2 => tb { D with nx := Pv (i + 1), ct := Pv (i + 1), bk := D.nx } σ2 H2) (hd : ∀ σ H, Pv xs.length σ H → D.nx σ H) :
  ∃ W : Nat → Nat → St → Hp → Prop, (∃ m, W 0 m σ H) ∧ ∀ i m σ H, W i m σ H →
   ((Itl K a).stop i H ∧ D.nx σ H) ∨ ((Itl K a).go i H ∧ ∃ N : St → Hp → Prop, (∀ σ' H', N σ' H' → ∃ m', m' < m ∧ W (i + 1) m' σ' H') ∧ ∀ x H', (Itl K a).yld i H x H' → g x σ H' fun σ2 H2 => tb { D with nx := N, ct := N, bk := D.nx } σ2 H2) := by
 refine ⟨fun i m σ H => m = xs.length - i ∧ i ≤ xs.length ∧ Pv i σ H, ⟨xs.length, by simp, Nat.zero_le _, h0⟩, ?_⟩
 rintro i m σ H ⟨rfl, hi, p⟩
 have q := hl i σ H hi p
 by_cases hlt : i < xs.length
 ·refine .inr ⟨⟨xs, xs[i], q, by simp [hlt]⟩, Pv (i + 1), fun σ' H' p' => ⟨xs.length - (i + 1), by omega, rfl, hlt, p'⟩, fun x H' y => ?_⟩
  obtain ⟨e, y⟩ := y
  subst e
  exact hs i x σ _ (y xs q) p
 ·have e : i = xs.length := by omega
  subst e
  exact .inl ⟨⟨xs, q, Nat.le_refl _⟩, hd σ H p⟩
theorem za2 {lo : Int} {n : Nat} {g : TG} {tb : TS} {D : Ends} {σ : St} {H : Hp} (Pv : Nat → St → Hp → Prop) (h0 : Pv 0 σ H)
  (hs : ∀ i σ H, i < n → Pv i σ H → g (.int (lo + i)) σ H fun σ2 H2 => tb { D with nx := Pv (i + 1), ct := Pv (i + 1), bk := D.nx } σ2 H2) (hd : ∀ σ H, Pv n σ H → D.nx σ H) :
  ∃ W : Nat → Nat → St → Hp → Prop, (∃ m, W 0 m σ H) ∧ ∀ i m σ H, W i m σ H →
   ((Itr lo n).stop i H ∧ D.nx σ H) ∨ ((Itr lo n).go i H ∧ ∃ N : St → Hp → Prop, (∀ σ' H', N σ' H' → ∃ m', m' < m ∧ W (i + 1) m' σ' H') ∧ ∀ x H', (Itr lo n).yld i H x H' → g x σ H' fun σ2 H2 => tb { D with nx := N, ct := N, bk := D.nx } σ2 H2) := by
 refine ⟨fun i m σ H => m = n - i ∧ i ≤ n ∧ Pv i σ H, ⟨n, by simp, Nat.zero_le _, h0⟩, ?_⟩
 rintro i m σ H ⟨rfl, hi, p⟩
 by_cases hlt : i < n
 ·refine .inr ⟨hlt, Pv (i + 1), fun σ' H' p' => ⟨n - (i + 1), by omega, rfl, hlt, p'⟩, fun x H' y => ?_⟩
  obtain ⟨e, y⟩ := y
  subst e y
  exact hs i σ _ hlt p
 ·have e : i = n := by omega
  subst e
  exact .inl ⟨Nat.le_refl _, hd σ H p⟩
end L2
namespace L2
open PySem PySem.Spec PyProof.Rows
abbrev R2 := V → V → Hp → VK → Prop
def OpR (X : Cx) (f : Value → Value → Sem Value) (r : R2) : Prop :=
 ∀ (pins : List (Addr × Obj)) (s : Shared) (σ : St) (H : Hp) (x y : V) (v u : Value) (Q : VK), Inv X pins σ H s → RelV x v → RelV y u → r x y H Q →
  wpAny (model X.prog X.w) X.A (f v u) (EP X pins σ Q) X.xe s
def UnR (X : Cx) (f : Value → Sem Value) (r : V → Hp → VK → Prop) : Prop :=
 ∀ (pins : List (Addr × Obj)) (s : Shared) (σ : St) (H : Hp) (x : V) (v : Value) (Q : VK), Inv X pins σ H s → RelV x v → r x H Q →
  wpAny (model X.prog X.w) X.A (f v) (EP X pins σ Q) X.xe s
def CallR (X : Cx) (f : Value) (r : List V → Hp → VK → Prop) : Prop :=
 ∀ (pins : List (Addr × Obj)) (s : Shared) (σ : St) (H : Hp) (xs : List V) (us : List Value) (Q : VK), Inv X pins σ H s → Vals xs us → r xs H Q →
  wpAny (model X.prog X.w) X.A (call f us) (EP X pins σ Q) X.xe s
def tOp (r : R2) (ta tb : TE) : TE := fun σ H Q => ta σ H fun x H1 => tb σ H1 fun y H2 => r x y H2 Q
def tUn (r : V → Hp → VK → Prop) (ta : TE) : TE := fun σ H Q => ta σ H fun x H1 => r x H1 Q
def rI (C : Int → Int → Prop) (g : Int → Int → V) : R2 := fun x y H Q => ∃ i j, x = .int i ∧ y = .int j ∧ C i j ∧ Q (g i j) H
def rI0 (g : Int → Int → V) : R2 := fun x y H Q => ∃ i j, x = .int i ∧ y = .int j ∧ Q (g i j) H
def rU (g : Int → V) : V → Hp → VK → Prop := fun x H Q => ∃ i, x = .int i ∧ Q (g i) H
section
variable {X : Cx} {a b c : Expr} {ta tb tc : TE} {pos : Pos}
theorem binT (ha : PE X a ta) (hb : PE X b tb) {pins : List (Addr × Obj)} {s : Shared} {σ : St} {H : Hp} {R : V → V → Hp → Prop} (I : Inv X pins σ H s)
  (h : ta σ H fun x H1 => tb σ H1 fun y H2 => R x y H2) {Q : Value → Shared → Prop} {f : Value → Value → Sem Value}
  (hf : ∀ v u s2 x y H2, Inv X pins σ H2 s2 → RelV x v → RelV y u → R x y H2 → wpAny (model X.prog X.w) X.A (f v u) Q X.xe s2) :
  wpAny (model X.prog X.w) X.A (eval a X.env) (fun v s₁ => wpAny (model X.prog X.w) X.A (eval b X.env) (fun u s₂ => wpAny (model X.prog X.w) X.A (f v u) Q X.xe s₂) X.xe s₁) X.xe s := by
 refine thn (ha pins s σ H _ I h) fun v s1 ⟨x, H1, I1, r1, q1⟩ => ?_
 refine thn (hb pins s1 σ H1 _ I1 q1) fun u s2 ⟨y, H2, I2, r2, q2⟩ => ?_
 exact hf v u s2 x y H2 I2 r1 r2 q2
theorem zd {op : Operator} {r : R2} (ho : OpR X (binaryOp op) r) (ha : PE X a ta) (hb : PE X b tb) : PE X (.BinOp a op b pos) (tOp r ta tb) := by
 intro pins s σ H Q I h
 exact wpAny_BinOp (binT ha hb I h fun v u s2 x y H2 I2 rx ry q => ho pins s2 σ H2 x y v u Q I2 rx ry q)
theorem zc1 {op : UnaryOp} {r : V → Hp → VK → Prop} (ho : UnR X (unaryOp op) r) (ha : PE X a ta) : PE X (.UnaryOp op a pos) (tUn r ta) := by
 intro pins s σ H Q I h
 exact UnaryOp_ (thn (ha pins s σ H _ I h) fun v s1 ⟨x, H1, I1, r1, q1⟩ => ho pins s1 σ H1 x v Q I1 r1 q1)
theorem opI {f : Value → Value → Sem Value} {C : Int → Int → Prop} {g : Int → Int → Int}
  (rule : ∀ (i j : Int) (t u : Tok) (s : Shared) (Q : Value → Shared → Prop) (E : Value → Shared → Prop), C i j → Q (.int (g i j) s.toks) { s with toks := s.toks + 1 } → wpAny (model X.prog X.w) X.A (f (.int i t) (.int j u)) Q E s) :
  OpR X f (rI C fun i j => .int (g i j)) := by
 intro pins s σ H x y v u Q I rx ry h
 obtain ⟨i, j, rfl, rfl, hc, q⟩ := h
 obtain ⟨t, rfl⟩ := rx
 obtain ⟨t', rfl⟩ := ry
 exact rule i j t t' s _ _ hc ⟨.int (g i j), H, I.tok _, ⟨_, rfl⟩, q⟩
theorem opI0 {f : Value → Value → Sem Value} {g : Int → Int → Int}
  (rule : ∀ (i j : Int) (t u : Tok) (s : Shared) (Q : Value → Shared → Prop) (E : Value → Shared → Prop), Q (.int (g i j) s.toks) { s with toks := s.toks + 1 } → wpAny (model X.prog X.w) X.A (f (.int i t) (.int j u)) Q E s) :
  OpR X f (rI0 fun i j => .int (g i j)) := by
 intro pins s σ H x y v u Q I rx ry h
 obtain ⟨i, j, rfl, rfl, q⟩ := h
 obtain ⟨t, rfl⟩ := rx
 obtain ⟨t', rfl⟩ := ry
 exact rule i j t t' s _ _ ⟨.int (g i j), H, I.tok _, ⟨_, rfl⟩, q⟩
theorem opB0 {f : Value → Value → Sem Value} {g : Int → Int → Bool}
  (rule : ∀ (i j : Int) (t u : Tok) (s : Shared) (Q : Value → Shared → Prop) (E : Value → Shared → Prop), Q (.bool (g i j)) s → wpAny (model X.prog X.w) X.A (f (.int i t) (.int j u)) Q E s) :
  OpR X f (rI0 fun i j => .bl (g i j)) := by
 intro pins s σ H x y v u Q I rx ry h
 obtain ⟨i, j, rfl, rfl, q⟩ := h
 obtain ⟨t, rfl⟩ := rx
 obtain ⟨t', rfl⟩ := ry
 exact rule i j t t' s _ _ ⟨.bl (g i j), H, I, rfl, q⟩
def CDiv (i j : Int) : Prop := 0 < j ∧ j < 1073741824
def CPow (i j : Int) : Prop := 0 ≤ j ∧ j ≤ 1000000 ∧ i.natAbs < 2 ^ 64
def CMul (i j : Int) : Prop := (-(2 ^ 64) < i ∧ i < 2 ^ 64) ∨ (-(2 ^ 64) < j ∧ j < 2 ^ 64)
theorem CMul.ok {i j : Int} (h : CMul i j) : IntMulOk i j := by
 rcases h with ⟨h1, h2⟩ | ⟨h1, h2⟩
 ·exact .of_left (intBits_le_64 h1 h2)
 ·exact .of_right (intBits_le_64 h1 h2)
theorem z1b : OpR X (binaryOp .Add) (rI0 fun i j => .int (i + j)) := opI0 fun _ _ _ _ _ _ _ q => add_int q
theorem z2r : OpR X (binaryOp .Sub) (rI0 fun i j => .int (i - j)) := opI0 fun _ _ _ _ _ _ _ q => sub_int q
theorem z5l : OpR X (binaryOp .Mult) (rI CMul fun i j => .int (i * j)) := opI fun _ _ _ _ _ _ _ hc q => mul_int q hc.ok
theorem z13 : OpR X (binaryOp .FloorDiv) (rI CDiv fun i j => .int (i / j)) := opI fun i j _ _ _ _ _ hc q => by
 have h1 : (0 : Int) < j := hc.1
 have h2 : j < 1073741824 := hc.2
 exact floordiv_int (by omega) (by rw [Int.fdiv_eq_ediv_of_nonneg i (by omega)]; exact q) (.inl (PyProof.noPylong_small (by omega)))
theorem zx : OpR X (binaryOp .Mod) (rI (fun _ j => 0 < j) fun i j => .int (i % j)) := opI fun i j _ _ _ _ _ hc q => by
 have h1 : (0 : Int) < j := hc
 exact mod_int' (by omega) (by rw [Int.fmod_eq_emod_of_nonneg i (by omega)]; exact q)
theorem zd6 : OpR X (binaryOp .Pow) (rI CPow fun i j => .int (i ^ j.toNat)) := opI fun _ _ _ _ _ _ _ hc q => pow_int_small hc.1 hc.2.1 hc.2.2 q
theorem unI {f : Value → Sem Value} {g : Int → Int}
  (rule : ∀ (i : Int) (t : Tok) (s : Shared) (Q : Value → Shared → Prop) (E : Value → Shared → Prop), Q (.int (g i) s.toks) { s with toks := s.toks + 1 } → wpAny (model X.prog X.w) X.A (f (.int i t)) Q E s) :
  UnR X f (rU fun i => .int (g i)) := by
 intro pins s σ H x v Q I rx h
 obtain ⟨i, rfl, q⟩ := h
 obtain ⟨t, rfl⟩ := rx
 exact rule i t s _ _ ⟨.int (g i), H, I.tok _, ⟨_, rfl⟩, q⟩
theorem za3 : UnR X (unaryOp .USub) (rU fun i => .int (-i)) := unI fun _ _ _ _ _ q => neg_int q
end
def scal : V → V → Bool
 | .non, .non => true | .non, .int _ => true | .int _, .non => true | .non, .bl _ => true | .bl _, .non => true | .non, .str _ => true | .str _, .non => true
 | .int _, .int _ => true | .bl _, .bl _ => true | .str _, .str _ => true | .byt _, .byt _ => true
 | .int _, .str _ => true | .str _, .int _ => true | .bl _, .str _ => true | .str _, .bl _ => true
 | _, _ => false
def rEq : R2 := fun x y H Q => scal x y = true ∧ Q (.bl (decide (x = y))) H
def rNe : R2 := fun x y H Q => scal x y = true ∧ Q (.bl (!decide (x = y))) H
theorem z8o {i j : Int} : decide (V.int i = V.int j) = (i == j) := by
 rw [Bool.eq_iff_iff]
 simp
theorem za4 {i j : Bool} : decide (V.bl i = V.bl j) = (i == j) := by
 rw [Bool.eq_iff_iff]
 simp
theorem z8p {i j : Str} : decide (V.str i = V.str j) = (i == j) := by
 rw [Bool.eq_iff_iff]
 simp
theorem z8q {i j : Array UInt8} : decide (V.byt i = V.byt j) = (i.toList == j.toList) := by
 rw [Bool.eq_iff_iff]
 cases i
 cases j
 simp
section
variable {X : Cx} {a b c : Expr} {ta tb tc : TE} {pos : Pos}
theorem zt {pins : List (Addr × Obj)} {σ : St} {H : Hp} {s : Shared} {Q : VK} {k k' : Bool} (I : Inv X pins σ H s) (q : Q (.bl k) H) (e : k = k') : EP X pins σ Q (.bool k') s := by
 subst e
 exact ⟨.bl k, H, I, rfl, q⟩
theorem z1l : OpR X (compareOp .Eq) rEq := by
 intro pins s σ H x y v u Q I rx ry h
 obtain ⟨hs, q⟩ := h
 cases x with
 | non =>
  cases rx
  cases y with
  | non => cases ry; exact PySem.EqNone.eq_none_none (zt I q (by simp))
  | bl j => cases ry; exact PySem.EqNone.eq_none_bool (zt I q (by simp))
  | int j => obtain ⟨t', rfl⟩ := ry; exact PySem.EqNone.eq_none_int (zt I q (by simp))
  | str j => obtain ⟨t', rfl⟩ := ry; exact PySem.EqNone.eq_none_str (zt I q (by simp))
  | _ => exact absurd (show false = true from hs) Bool.false_ne_true
 | bl i =>
  cases rx
  cases y with
  | non => cases ry; exact PySem.EqNone.eq_bool_none (zt I q (by simp))
  | bl j => cases ry; exact eq_bool (zt I q za4)
  | str j => obtain ⟨t', rfl⟩ := ry; exact PySem.EqMixed.eq_bool_str (zt I q (by simp))
  | _ => exact absurd (show false = true from hs) Bool.false_ne_true
 | int i =>
  obtain ⟨t, rfl⟩ := rx
  cases y with
  | non => cases ry; exact PySem.EqNone.eq_int_none (zt I q (by simp))
  | int j => obtain ⟨t', rfl⟩ := ry; exact eq_int (zt I q z8o)
  | str j => obtain ⟨t', rfl⟩ := ry; exact PySem.EqMixed.eq_int_str (zt I q (by simp))
  | _ => exact absurd (show false = true from hs) Bool.false_ne_true
 | str i =>
  obtain ⟨t, rfl⟩ := rx
  cases y with
  | non => cases ry; exact PySem.EqNone.eq_str_none (zt I q (by simp))
  | bl j => cases ry; exact PySem.EqMixed.eq_str_bool (zt I q (by simp))
  | int j => obtain ⟨t', rfl⟩ := ry; exact PySem.EqMixed.eq_str_int (zt I q (by simp))
  | str j => obtain ⟨t', rfl⟩ := ry; exact eq_str (zt I q z8p)
  | _ => exact absurd (show false = true from hs) Bool.false_ne_true
 | byt i =>
  obtain ⟨t, rfl⟩ := rx
  cases y with
  | byt j => obtain ⟨t', rfl⟩ := ry; exact PySem.W.eq_bytes (zt I q z8q)
  | _ => exact absurd (show false = true from hs) Bool.false_ne_true
 | _ => cases y <;> exact absurd (show false = true from hs) Bool.false_ne_true
theorem z2v : OpR X (compareOp .NotEq) rNe := by
 intro pins s σ H x y v u Q I rx ry h
 obtain ⟨hs, q⟩ := h
 cases x with
 | non =>
  cases rx
  cases y with
  | non => cases ry; exact PySem.EqNone.ne_none_none (zt I q (by simp))
  | bl j => cases ry; exact PySem.EqNone.ne_none_bool (zt I q (by simp))
  | int j => obtain ⟨t', rfl⟩ := ry; exact PySem.EqNone.ne_none_int (zt I q (by simp))
  | str j => obtain ⟨t', rfl⟩ := ry; exact PySem.EqNone.ne_none_str (zt I q (by simp))
  | _ => exact absurd (show false = true from hs) Bool.false_ne_true
 | bl i =>
  cases rx
  cases y with
  | non => cases ry; exact PySem.EqNone.ne_bool_none (zt I q (by simp))
  | bl j => cases ry; exact ne_bool (zt I q (congrArg not za4))
  | str j => obtain ⟨t', rfl⟩ := ry; exact PySem.EqMixed.ne_bool_str (zt I q (by simp))
  | _ => exact absurd (show false = true from hs) Bool.false_ne_true
 | int i =>
  obtain ⟨t, rfl⟩ := rx
  cases y with
  | non => cases ry; exact PySem.EqNone.ne_int_none (zt I q (by simp))
  | int j => obtain ⟨t', rfl⟩ := ry; exact ne_int (zt I q (congrArg not z8o))
  | str j => obtain ⟨t', rfl⟩ := ry; exact PySem.EqMixed.ne_int_str (zt I q (by simp))
  | _ => exact absurd (show false = true from hs) Bool.false_ne_true
 | str i =>
  obtain ⟨t, rfl⟩ := rx
  cases y with
  | non => cases ry; exact PySem.EqNone.ne_str_none (zt I q (by simp))
  | bl j => cases ry; exact PySem.EqMixed.ne_str_bool (zt I q (by simp))
  | int j => obtain ⟨t', rfl⟩ := ry; exact PySem.EqMixed.ne_str_int (zt I q (by simp))
  | str j => obtain ⟨t', rfl⟩ := ry; exact ne_str (zt I q (congrArg not z8p))
  | _ => exact absurd (show false = true from hs) Bool.false_ne_true
 | byt i =>
  obtain ⟨t, rfl⟩ := rx
  cases y with
  | byt j => obtain ⟨t', rfl⟩ := ry; exact PySem.W.ne_bytes (zt I q (congrArg not z8q))
  | _ => exact absurd (show false = true from hs) Bool.false_ne_true
 | _ => cases y <;> exact absurd (show false = true from hs) Bool.false_ne_true
theorem z22 : OpR X (compareOp .Lt) (rI0 fun i j => .bl (decide (i < j))) := opB0 fun _ _ _ _ _ _ _ q => lt_int q
theorem z3z : OpR X (compareOp .LtE) (rI0 fun i j => .bl (decide (i ≤ j))) := opB0 fun _ _ _ _ _ _ _ q => le_int q
theorem z5m : OpR X (compareOp .Gt) (rI0 fun i j => .bl (decide (j < i))) := opB0 fun _ _ _ _ _ _ _ q => gt_int q
theorem z99 : OpR X (compareOp .GtE) (rI0 fun i j => .bl (decide (j ≤ i))) := opB0 fun _ _ _ _ _ _ _ q => ge_int q
theorem za5 : OpR X (compareOp .In) (fun x y H Q => ∃ i j, x = .str i ∧ y = .str j ∧ Q (.bl (!(Builtin.Str.occurrences j i 0 j.length 1).isEmpty)) H) := by
 intro pins s σ H x y v u Q I rx ry h
 obtain ⟨i, j, rfl, rfl, q⟩ := h
 obtain ⟨t, rfl⟩ := rx
 obtain ⟨t', rfl⟩ := ry
 exact in_str (zt I q rfl)
theorem OpR.or {f : Value → Value → Sem Value} {r r' : R2} (h : OpR X f r) (h' : OpR X f r') : OpR X f (fun x y H Q => r x y H Q ∨ r' x y H Q) := by
 intro pins s σ H x y v u Q I rx ry q
 rcases q with q | q
 ·exact h pins s σ H x y v u Q I rx ry q
 ·exact h' pins s σ H x y v u Q I rx ry q
theorem zf (b : Expr) {op : CmpOp} (h : op ≠ .In := by decide) (h2 : op ≠ .NotIn := by decide) : behindInMarks op b = false := by
 have e1 : (op == CmpOp.In) = false := by cases op <;> first | rfl | exact absurd rfl h
 have e2 : (op == CmpOp.NotIn) = false := by cases op <;> first | rfl | exact absurd rfl h2
 cases b <;> simp [behindInMarks, e1, e2]
theorem z1f {op : CmpOp} {r : R2} (ho : OpR X (compareOp op) r) (ha : PE X a ta) (hb : PE X b tb) (hm : behindInMarks op b = false) : PE X (.Compare a [op] [b] pos) (tOp r ta tb) := by
 intro pins s σ H Q I h
 exact wpAny_Compare1 (binT ha hb I h fun v u s2 x y H2 I2 rx ry q => ho pins s2 σ H2 x y v u Q I2 rx ry q) hm
def zc2 (t : TE) : TT := fun σ H Q => t σ H fun x H' => ∃ k, x = .bl k ∧ Q k H'
theorem zh {op : CmpOp} {r : R2} (ho : OpR X (compareOp op) r) (ha : PE X a ta) (hb : PE X b tb) (hm : behindInMarks op b = false) : PT X (.Compare a [op] [b] pos) (zc2 (tOp r ta tb)) := by
 intro pins s σ H Q I h
 refine wpAny_isTrue_Compare1 (thn (ha pins s σ H _ I h) fun v s1 ⟨x, H1, I1, r1, q1⟩ => thn (hb pins s1 σ H1 _ I1 q1) fun u s2 ⟨y, H2, I2, r2, q2⟩ =>
  thn (ho pins s2 σ H2 x y v u _ I2 r1 r2 q2) fun c s3 ⟨z, H3, I3, r3, k, e, q3⟩ => ?_) hm
 subst e
 cases r3
 exact wpAny_truthy_bool ⟨H3, I3, q3⟩
def za6 (r r' : R2) (ta tb tc : TE) : TE := fun σ H Q => ta σ H fun x H1 => tb σ H1 fun y H2 => r x y H2 fun z H3 => ∃ k, z = .bl k ∧
 (if k = true then tc σ H3 fun w' H4 => r' y w' H4 Q else Q (.bl false) H3)
theorem z5a {op op' : CmpOp} {r r' : R2} (ho : OpR X (compareOp op) r) (ho' : OpR X (compareOp op') r') (ha : PE X a ta) (hb : PE X b tb) (hc : PE X c tc)
  (hm : lastMarks [op, op'] [b, c] = false := by with_unfolding_all rfl) : PE X (.Compare a [op, op'] [b, c] pos) (za6 r r' ta tb tc) := by
 intro pins s σ H Q I h
 refine Compare_chain (thn (ha pins s σ H _ I h) fun v s1 ⟨x, H1, I1, r1, q1⟩ => chain_link (thn (hb pins s1 σ H1 _ I1 q1) fun u s2 ⟨y, H2, I2, r2, q2⟩ =>
  thn (ho pins s2 σ H2 x y v u _ I2 r1 r2 q2) fun d s3 ⟨z, H3, I3, r3, k, e, q3⟩ => ?_)) hm
 subst e
 cases r3
 refine wpAny_truthy_bool ?_
 cases k with
 | false => exact ite_ff ⟨.bl false, H3, I3, rfl, q3⟩
 | true => exact ite_tt (chain_last (thn (hc pins s3 σ H3 _ I3 q3) fun w' s4 ⟨z', H4, I4, r4, q4⟩ => ho' pins s4 σ H4 y z' u w' Q I4 r2 r4 q4))
theorem z3t : (sizeLine : Nat) < 2 ^ 63 := by rw [sizeLine_eq]; decide
theorem z27 : OpR X (binaryOp .Add) (fun x y H Q => ∃ i j, x = .str i ∧ y = .str j ∧ i.length + j.length ≤ sizeLine ∧ Q (.str (i ++ j)) H) := by
 intro pins s σ H x y v u Q I rx ry h
 obtain ⟨i, j, rfl, rfl, hz, q⟩ := h
 obtain ⟨t, rfl⟩ := rx
 obtain ⟨t', rfl⟩ := ry
 exact add_str (fun t' tk => ⟨.str (i ++ j), H, I.tok _, ⟨_, rfl⟩, q⟩) hz
theorem z3e {x : V} {us : List Value} (r : Vals [x] us) : ∃ u, us = [u] ∧ RelV x u := by
 cases r with
 | cons r1 r2 => cases r2; exact ⟨_, rfl, r1⟩
theorem z7b {x y : V} {us : List Value} (r : Vals [x, y] us) : ∃ u w', us = [u, w'] ∧ RelV x u ∧ RelV y w' := by
 cases r with
 | cons r1 r2 =>
  cases r2 with
  | cons r3 r4 => cases r4; exact ⟨_, _, rfl, r1, r3⟩
theorem za7 (hc : X.calm = true) : CallR X (.builtin "min") (fun xs H Q => ∃ i j, xs = [.int i, .int j] ∧ Q (.int (if j < i then j else i)) H) := by
 intro pins s σ H xs us Q I r h
 obtain ⟨i, j, rfl, q⟩ := h
 obtain ⟨u, w', rfl, ⟨t, rfl⟩, ⟨t', rfl⟩⟩ := z7b r
 refine min_two_ints (I.ok.hd hc) fun h' tk k => ⟨_, H, I.kept k, ?_, q⟩
 by_cases hj : j < i
 ·rw [if_pos hj, if_pos hj]; exact ⟨_, rfl⟩
 ·rw [if_neg hj, if_neg hj]; exact ⟨_, rfl⟩
end
end L2
namespace L2
open PySem PySem.Spec PyProof.Rows
structure ObjM (h : Heap) (x dx C : Addr) (mA : Str → Option Value) : Prop where
 obj : h.get? x = some (PySem.W.instObj C dx)
 ns : h.Ns1 dx mA
 ne : dx ≠ x
theorem za8 {h : Heap} {dx : Addr} {mA : Str → Option Value} (n : h.Ns1 dx mA) : ∃ od, h.get? dx = some od ∧ ∀ name, PySem.W.lookIn name od = some (mA name) := by
 obtain ⟨o, es, ep, ho, hd, hk, _, hm⟩ := n
 refine ⟨o, ho, fun name => ?_⟩
 have e := hm name
 unfold nsFind findBy at e
 rw [← Array.find?_toList] at e
 unfold PySem.W.lookIn
 rw [hd]
 dsimp only
 split
 ·rename_i y q
  rw [q] at e
  exact congrArg some e
 ·rename_i q
  rw [q] at e
  have a : es.toList.any (·.refKey) = false := by
   rw [List.any_eq_false]
   intro y hy
   obtain ⟨z, t, hkey⟩ := hk y (Array.mem_toList_iff.mp hy)
   simp [DictEntry.refKey, hkey]
  have a' : ¬ es.toList.any (·.refKey) = true := by rw [a]; exact Bool.false_ne_true
  rw [if_neg a']
  exact congrArg some e
theorem ObjM.look {h : Heap} {x dx C : Addr} {mA : Str → Option Value} (I : ObjM h x dx C mA) : ∃ od, PySem.W.InstAt h x (PySem.W.instObj C dx) C (some od) ∧ ∀ name, PySem.W.lookIn name od = some (mA name) :=
 let ⟨od, ho, hl⟩ := za8 I.ns
 ⟨od, ⟨I.obj, rfl, rfl, ho⟩, hl⟩
section
variable {prog : Program} {w : World} {A : Around} {E : Value → Shared → Prop} {s : Shared} {K : PySem.W.Frag} {x dx C f : Addr} {mA : Str → Option Value} {name : Str} {v : Value}
theorem zce {expr : Bool} {Q : Value → Shared → Prop} (X : K.In s.heap) (I : ObjM s.heap x dx C mA) (hg : PySem.W.plainGet K C name = true) (hh : PySem.W.hasDictIn K C = true)
  (ha : PySem.W.findIn K (.ref C) name = some none) (hv : mA name = some v) (hv' : PySem.W.handedIn v = true) (h : Q v { s with toks := s.toks + 1 }) :
  wpAny (model prog w) A (getAttr (.ref x) name expr) Q E s := by
 obtain ⟨od, J, hl⟩ := I.look
 exact PySem.W.get_value X J (PySem.W.plainGet_of hg).1 (PySem.W.findObj_own hh ha rfl (by rw [hl, hv])) hv' h
theorem zbd {pl : Sem Bool} {Q : Value × List Value → Shared → Prop} (X : K.In s.heap) (I : ObjM s.heap x dx C mA) (hg : PySem.W.plainGet K C name = true)
  (hf : PySem.W.findIn K (.ref C) name = some (some (.ref f))) (ht : PySem.W.isFn K (.ref f) = true) (hv : mA name = none) (h : Q (.ref f, [.ref x]) s) :
  wpAny (model prog w) A (getMethod (.ref x) name pl) Q E s := by
 obtain ⟨od, J, hl⟩ := I.look
 exact PySem.W.method_fn X J (PySem.W.plainGet_of hg).1 (PySem.W.plainGet_of hg).2 hf (beq_iff_eq.mp ht) (by show (PySem.W.lookIn name od).map (·.isSome) = some false; rw [hl, hv]; rfl) h
theorem zcf {ns : List Str} {Q : Unit → Shared → Prop} (X : K.In s.heap) (I : ObjM s.heap x dx C mA)
  (hs : PySem.W.findIn K (.ref C) "__setattr__" = some (some (.builtin "object.__setattr__"))) (hp : PySem.W.plainOver K C = true) (ht : PySem.W.takerIn K C name = some none) (hh : PySem.W.hasDictIn K C = true)
  (hw : PySem.Within mA ns) (hsz : ns.length ≤ sizeLine)
  (h : ∀ h', ObjM h' x dx C (fun y => if y = name then some v else mA y) → Heap.SameBut dx s.heap h' → Q () { s with heap := h', toks := s.toks + 2 }) :
  wpAny (model prog w) A (setAttr (.ref x) name v) Q E s := by
 obtain ⟨od, J, hl⟩ := I.look
 refine PySem.W.set_plain X J hs (PySem.W.osa_open (s := { s with toks := s.toks + 1 }) (r := none) X J hp ht fun b => ?_)
 obtain ⟨cd, hc, hd'⟩ := PySem.W.any_some hh
 have hx : s.heap.get? x = some ⟨.ref C, some dx, .plain, #[]⟩ := I.obj
 refine wpAny_bind (wpAny_pure (wpAny_bind (wpAny_bind (wpAny_loadPart hx (wpAny_bind (PySem.W.Looks.here (s := { s with toks := s.toks + 1 }) (PySem.W.looks_clsIn X hc) ?_))))))
 rw [hd']
 refine wpAny_pure (a := some dx) (wpAny_bind (wpAny_pure (wpAny_bind ?_)))
 refine wpAny_nsSet1 (s := { s with toks := s.toks + 1 }) I.ns fun h' hn2 hs2 => ?_
 obtain ⟨oD, esD, epD, hoD, hdD, hcD⟩ := hn2.count (PySem.Within.cons name v hw)
 refine wpAny_bind (wpAny_lookBehind hoD (by rw [hdD]; exact pastItsLine_dict (Nat.le_trans hcD (by rw [List.length_cons]; omega))) ?_)
 exact wpAny_pure (h _ ⟨(hs2.2 _ (Ne.symm I.ne)).trans I.obj, hn2, I.ne⟩ hs2)
theorem z7i {R : Result → Shared → Prop} {vs : List Value} {kw : List (Str × Value)} (X : K.In s.heap) (hm : PySem.W.makesIn K C = true)
  (hi : PySem.W.findIn K (.ref C) "__init__" = some (some (.ref f))) (hf : PySem.W.typeIn K (.ref f) = some (.type "function"))
  (h : codeAny (model prog w) (A.under (.builtin "type.__call__" ⟨.ref C :: vs, kw⟩)) (.call (.ref f) ⟨.ref (s.heap.objs.size + 1) :: vs, kw⟩) (PySem.W.InitBack (s.heap.objs.size + 1) R)
   { s with heap := (s.heap.push PySem.W.emptyDict).push (PySem.W.instObj C s.heap.objs.size) }) :
  codeAny (model prog w) A (.call (.ref C) ⟨vs, kw⟩) R s := by
 obtain ⟨hh, g, d, t, os⟩ := s
 exact PySem.W.make_core (PySem.W.makes_of X hm) (PySem.W.looks_findIn X hi) (fun self => PySem.W.bind_fn X self hf) (.inl rfl) h
end
def putF (f : Str) (v : V) : List (Str × V) → List (Str × V)
 | [] => [(f, v)]
 | (g, x) :: r => if g = f then (g, v) :: r else (g, x) :: putF f v r
theorem z1y (f g : Str) (v : V) : ∀ fs : List (Str × V), (putF f v fs).lookup g = if g = f then some v else fs.lookup g
 | [] => by
  show List.lookup g [(f, v)] = _
  by_cases h : g = f
  ·have hb : (g == f) = true := beq_iff_eq.mpr h
   simp only [List.lookup, hb, if_pos h]
  ·have hb : (g == f) = false := beq_eq_false_iff_ne.mpr h
   simp only [List.lookup, hb, if_neg h]
 | (k, x) :: r => by
  have ih := z1y f g v r
  rw [show putF f v ((k, x) :: r) = (if k = f then (k, v) :: r else (k, x) :: putF f v r) from rfl]
  by_cases hk : k = f
  ·rw [if_pos hk]
   by_cases h : g = k
   ·have hb : (g == k) = true := beq_iff_eq.mpr h
    simp only [List.lookup, hb, if_pos (h.trans hk)]
   ·have hb : (g == k) = false := beq_eq_false_iff_ne.mpr h
    simp only [List.lookup, hb, if_neg (fun e : g = f => h (e.trans hk.symm))]
  ·rw [if_neg hk]
   by_cases h : g = k
   ·have hb : (g == k) = true := beq_iff_eq.mpr h
    simp only [List.lookup, hb, if_neg (fun e : g = f => hk (h.symm.trans e))]
   ·have hb : (g == k) = false := beq_eq_false_iff_ne.mpr h
    simp only [List.lookup, hb]
    exact ih
theorem z4a (f : Str) (v : V) : ∀ fs : List (Str × V), f ∈ (putF f v fs).map (·.1) ∧ ∀ g, g ∈ fs.map (·.1) → g ∈ (putF f v fs).map (·.1)
 | [] => ⟨by simp [putF], fun g h => by simp at h⟩
 | (k, x) :: r => by
  obtain ⟨i1, i2⟩ := z4a f v r
  rw [show putF f v ((k, x) :: r) = (if k = f then (k, v) :: r else (k, x) :: putF f v r) from rfl]
  by_cases hk : k = f
  ·rw [if_pos hk]
   subst hk
   exact ⟨by simp, fun g h => by simpa using h⟩
  ·rw [if_neg hk]
   refine ⟨?_, fun g h => ?_⟩
   ·rw [List.map_cons]
    exact List.mem_cons_of_mem _ i1
   ·rw [List.map_cons] at h ⊢
    rcases List.mem_cons.mp h with e | e
    ·exact List.mem_cons.mpr (.inl e)
    ·exact List.mem_cons_of_mem _ (i2 g e)
theorem z3j (f : Str) (v : V) : ∀ fs : List (Str × V), (putF f v fs).length ≤ fs.length + 1
 | [] => by simp [putF]
 | (k, x) :: r => by
  have ih := z3j f v r
  rw [show putF f v ((k, x) :: r) = (if k = f then (k, v) :: r else (k, x) :: putF f v r) from rfl]
  by_cases hk : k = f
  ·rw [if_pos hk, List.length_cons, List.length_cons]; omega
  ·rw [if_neg hk, List.length_cons, List.length_cons]; omega
theorem RelO.some_of {v : V} {o : Option Value} (r : RelO (some v) o) : ∃ u, o = some u ∧ RelV v u := by
 cases o with
 | none => exact (show False from r).elim
 | some u => exact ⟨u, rfl, r⟩
theorem RelO.none_of {o : Option Value} (r : RelO none o) : o = none := by
 cases o with
 | none => rfl
 | some u => exact (show False from r).elim
theorem za9 {v : V} {u : Value} (r : RelV v u) : PySem.W.handedIn u = true := by
 cases v with
 | non => cases (show u = Value.none from r); rfl
 | bl b => cases (show u = Value.bool b from r); rfl
 | int i => obtain ⟨t, e⟩ := (show ∃ t, u = Value.int i t from r); cases e; rfl
 | str x => obtain ⟨t, e⟩ := (show ∃ t, u = Value.str x t from r); cases e; rfl
 | byt b => obtain ⟨t, e⟩ := (show ∃ t, u = Value.bytes b t from r); cases e; rfl
 | flt b => obtain ⟨t, e⟩ := (show ∃ t, u = Value.float b t from r); cases e; rfl
 | ref a => cases (show u = Value.ref a from r); rfl
 | ty n => cases (show u = Value.type n from r); rfl
section
variable {P : Program} {w : World} {H H' : Hp} {h h' : Heap} {a C dx : Addr} {fs fs' : List (Str × V)}
theorem z3u (hok : HOk P w H h) (e : H a = some (.ins C dx fs)) : ∃ mA, ObjM h a dx C mA ∧ (∀ f, RelO (fs.lookup f) (mA f)) ∧ PySem.Within mA (fs.map (·.1)) ∧ fs.length ≤ 1000 ∧ H dx = some (.own a) := by
 obtain ⟨d, z, ne, ob, mA, n, r, q⟩ := (show ObjOk P w H h a (.ins C dx fs) from hok a _ e)
 exact ⟨mA, ⟨ob, n, ne⟩, r, q, z, d⟩
end
structure Cls (K : PySem.W.Frag) (C : Addr) : Prop where
 pg : PySem.W.plainGet K C Str.empty = true
 hd : PySem.W.hasDictIn K C = true
 po : PySem.W.plainOver K C = true
 sa : PySem.W.findIn K (.ref C) "__setattr__" = some (some (.builtin "object.__setattr__"))
theorem Cls.get {K : PySem.W.Frag} {C : Addr} (c : Cls K C) (f : Str) : PySem.W.plainGet K C f = true := c.pg
def NoAttr (K : PySem.W.Frag) (C : Addr) (f : Str) : Prop := PySem.W.findIn K (.ref C) f = some none
theorem NoAttr.taker {K : PySem.W.Frag} {C : Addr} {f : Str} (n : NoAttr K C f) : PySem.W.takerIn K C f = some none := by
 unfold PySem.W.takerIn
 rw [show PySem.W.findIn K (.ref C) f = some none from n]
 rfl
structure Con (K : PySem.W.Frag) (C : Addr) (f : Str) (v : V) (u : Value) : Prop where
 at_ : PySem.W.findIn K (.ref C) f = some (some u)
 rel : RelV v u
 get : PySem.W.specialIn K u "__get__" = some none
 cp : PySem.W.copiedNames.contains f = false
structure Meth (K : PySem.W.Frag) (C : Addr) (m : Str) (f : Addr) : Prop where
 at_ : PySem.W.findIn K (.ref C) m = some (some (.ref f))
 fn : PySem.W.isFn K (.ref f) = true
 kp : PySem.W.keepIn K (.ref f) = true
section
variable {X : Cx} {pins : List (Addr × Obj)} {σ : St} {H : Hp} {s : Shared} {a C dx : Addr} {fs : List (Str × V)} {f : Str} {v : V} {A : Around} {E : Value → Shared → Prop}
theorem z9a {b : Bool} {Q : Value → Shared → Prop} (I : Inv X pins σ H s) (e : H a = some (.ins C dx fs)) (c : Cls X.K C) (n : NoAttr X.K C f) (l : fs.lookup f = some v)
  (h : ∀ u s', Inv X pins σ H s' → RelV v u → Q u s') : wpAny (model X.prog X.w) A (getAttr (.ref a) f b) Q E s := by
 obtain ⟨mA, O, r, _, _, _⟩ := z3u I.hok e
 obtain ⟨u, hu, ru⟩ := RelO.some_of (v := v) (o := mA f) (by rw [← l]; exact r f)
 exact zce I.kIn O (c.get f) c.hd n hu (za9 ru) (h u _ (I.tok _) ru)
theorem z9b {m : Str} {g : Addr} {pl : Sem Bool} {Q : Value × List Value → Shared → Prop} (I : Inv X pins σ H s) (e : H a = some (.ins C dx fs)) (c : Cls X.K C) (k : Meth X.K C m g) (l : fs.lookup m = none)
  (h : Q (.ref g, [.ref a]) s) : wpAny (model X.prog X.w) A (getMethod (.ref a) m pl) Q E s := by
 obtain ⟨mA, O, r, _, _, _⟩ := z3u I.hok e
 have hn : mA m = none := RelO.none_of (by rw [← l]; exact r m)
 exact zbd I.kIn O (c.get m) k.at_ k.fn hn h
theorem z9c {y : V} {u : Value} {Q : Unit → Shared → Prop} (I : Inv X pins σ H s) (e : H a = some (.ins C dx fs)) (c : Cls X.K C) (n : NoAttr X.K C f) (hl : fs.length < 1000) (ry : RelV y u)
  (h : ∀ s', Inv X pins σ (upd H a (.ins C dx (putF f y fs))) s' → Q () s') : wpAny (model X.prog X.w) A (setAttr (.ref a) f u) Q E s := by
 obtain ⟨mA, O, r, wi, _, ho⟩ := z3u I.hok e
 have hz : (fs.map (·.1)).length ≤ sizeLine := by rw [List.length_map, sizeLine_eq]; omega
 refine zcf I.kIn O c.sa c.po n.taker c.hd wi hz fun h' O' sb => h _ ?_
 have hd : ∃ o, h'.get? dx = some o := let ⟨o, _, _, e', _⟩ := O'.ns; ⟨o, e'⟩
 refine I.write (x := a) (e := dx) (by rw [e]; exact True.intro) (.inr ho) (fun b q hb z => (sb.2 b hb).trans z) hd ?_
 refine ⟨by rw [zc O.ne]; exact ho, ?_, O.ne, O'.obj, _, O'.ns, fun g => ?_, fun g hg => ?_⟩
 ·have := z3j f y fs; omega
 ·show RelO ((putF f y fs).lookup g) (if g = f then some u else mA g)
  rw [z1y]
  by_cases q : g = f
  ·rw [if_pos q, if_pos q]; exact ry
  ·rw [if_neg q, if_neg q]; exact r g
 ·by_cases q : g = f
  ·rw [q]; exact (z4a f y fs).1
  ·refine (z4a f y fs).2 g (wi g fun z => hg ?_)
   show (if g = f then some u else mA g) = none
   rw [if_neg q]; exact z
theorem Inv.made (I : Inv X pins σ H s) : Inv X pins σ (upd (upd H s.heap.objs.size (.own (s.heap.objs.size + 1))) (s.heap.objs.size + 1) (.ins C s.heap.objs.size []))
  { s with heap := (s.heap.push PySem.W.emptyDict).push (PySem.W.instObj C s.heap.objs.size) } := by
 have e1 : (s.heap.push PySem.W.emptyDict).get? s.heap.objs.size = some PySem.W.emptyDict := Heap.get?_push_size s.heap rfl
 have e2 : ((s.heap.push PySem.W.emptyDict).push (PySem.W.instObj C s.heap.objs.size)).get? (s.heap.objs.size + 1) = some (PySem.W.instObj C s.heap.objs.size) := by
  have := Heap.get?_push_size (s.heap.push PySem.W.emptyDict) (o := PySem.W.instObj C s.heap.objs.size) rfl
  rwa [Heap.size_push] at this
 have e3 : (s.heap.push PySem.W.emptyDict).Ns s.heap.objs.size (fun _ => none) := ⟨PySem.W.emptyDict, #[], _, e1, rfl, (fun e he => absurd he (by simp)), fun _ => rfl⟩
 have I1 := I.laid (a := s.heap.objs.size) (o := .own (s.heap.objs.size + 1)) (h' := s.heap.push PySem.W.emptyDict) (t' := s.toks) (fun b u q => Heap.get?_push_of_some _ q) (Nat.le_refl _) ⟨_, e1⟩
 refine I1.laid (a := s.heap.objs.size + 1) (o := .ins C s.heap.objs.size []) (t' := s.toks) (fun b u q => Heap.get?_push_of_some _ q) (Nat.le_of_eq (Heap.size_push _ _)) ?_
 have ne : s.heap.objs.size ≠ s.heap.objs.size + 1 := Nat.ne_of_lt (Nat.lt_succ_self _)
 refine ⟨by rw [zc ne, z7], Nat.zero_le _, ne, e2, fun _ => none, (Heap.Ns1.of_empty e3).at fun o q => Heap.get?_push_of_some _ q, fun _ => True.intro, fun y hy => absurd rfl hy⟩
theorem zcg {prog : Program} {w : World} {env : Env} {e : Expr} {f : Str} {pos : Pos} {s : Shared} {Q : Value → Shared → Prop} (hb : attributeBase e f env (eval e env) = eval e env)
  (h : wpAny (model prog w) A (eval e env) (fun o s₁ => wpAny (model prog w) A (getAttr o f true) Q E s₁) E s) : wpAny (model prog w) A (eval (.Attribute e f pos) env) Q E s :=
 Attribute_any_ h (by rw [arm_eval_Attribute, hb])
end
def tFld (K : PySem.W.Frag) (ta : TE) (f : Str) : TE := fun σ H Q => ta σ H fun x H1 => ∃ a C dx fs v, x = .ref a ∧ H1 a = some (.ins C dx fs) ∧ Cls K C ∧ NoAttr K C f ∧ fs.lookup f = some v ∧ Q v H1
def sFld (K : PySem.W.Frag) (ta tv : TE) (f : Str) : TS := fun D σ H => tv σ H fun y H1 => ta σ H1 fun x H2 => ∃ a C dx fs, x = .ref a ∧ H2 a = some (.ins C dx fs) ∧ Cls K C ∧ NoAttr K C f ∧ fs.length < 1000 ∧
 D.nx σ (upd H2 a (.ins C dx (putF f y fs)))
section
variable {X : Cx} {o e value : Expr} {f : Str} {pos pos' tpos : Pos} {ta tv : TE}
theorem z7j (he : PE X e ta) (hb : attributeBase e f X.env (eval e X.env) = eval e X.env) : PE X (.Attribute e f pos) (tFld X.K ta f) := by
 intro pins s σ H Q I h
 refine zcg hb (thn (he pins s σ H _ I h) fun u s1 ⟨x, H1, I1, rx, a, C, dx, fs, v, ex, ea, c, n, l, q⟩ => ?_)
 subst ex
 obtain rfl : u = Value.ref a := rx
 exact z9a I1 ea c n l fun u' s2 I2 ru => ⟨v, H1, I2, ru, q⟩
theorem z18 (ha : PE X o ta) (hv : PE X value tv) (hs : swapsWith value (some (.Attribute o f pos')) pos.line X.env = pure false) : PS X (.Assign [.Attribute o f pos'] value pos) (sFld X.K ta tv f) := by
 intro pins s σ H D I h
 refine plainObj_wpAny_Assign_Attribute (thn (hv pins s σ H _ I h) fun u s1 ⟨y, H1, I1, ry, q⟩ => thn (ha pins s1 σ H1 _ I1 q) fun ov s2 ⟨x, H2, I2, rx, a, C, dx, fs, ex, ea, c, n, l, q2⟩ => ?_) hs
 subst ex
 obtain rfl : ov = Value.ref a := rx
 exact z9c I2 ea c n l ry fun s3 I3 => ⟨σ, _, I3, q2⟩
end
section
variable {X : Cx} {pins : List (Addr × Obj)} {σ : St} {H : Hp} {s : Shared} {A : Around} {E : Value → Shared → Prop} {Q : Value → Shared → Prop} {c : Value} {b : Bool}
inductive TyOf (K : PySem.W.Frag) (H : Hp) : V → Value → Prop where
 | non : TyOf K H .non (.type "NoneType")
 | bl (x : Bool) : TyOf K H (.bl x) (.type "bool")
 | int (i : Int) : TyOf K H (.int i) (.type "int")
 | str (x : Str) : TyOf K H (.str x) (.type "str")
 | flt (x : UInt64) : TyOf K H (.flt x) (.type "float")
 | lst {a : Addr} {xs : List V} (e : H a = some (.lst xs)) : TyOf K H (.ref a) (.type "list")
 | frz {a : Addr} {o : Obj} {xs : List V} (e : H a = some (.frz o (.lst xs))) : TyOf K H (.ref a) (.type "list")
 | tup {a : Addr} {xs : List V} (e : H a = some (.tup xs)) : TyOf K H (.ref a) (.type "tuple")
 | dK {a : Addr} {kvs : List (Key × V)} (e : H a = some (.dK kvs)) : TyOf K H (.ref a) (.type "dict")
 | dT {a : Addr} {kvs : List (List Key × V)} (e : H a = some (.dT kvs)) : TyOf K H (.ref a) (.type "dict")
 | ins {a C dx : Addr} {fs : List (Str × V)} (e : H a = some (.ins C dx fs)) (cl : Cls K C) (ha : PySem.W.findIn K (.ref C) "__class__" = some (some (.builtin "object.__class__")))
   (hn : PySem.W.specialIn K (.builtin "object.__class__") "__get__" = some (some (.builtin "getset_descriptor.__get__"))) (htk : PySem.W.takesIn K (.builtin "object.__class__") = some true)
   (hm : PySem.W.mroIn K C (.type "object") = some true) : TyOf K H (.ref a) (.ref C)
theorem zaa {x : V} {u t : Value} (I : Inv X pins σ H s) (rx : RelV x u) (ty : TyOf X.K H x t) (e : PySem.W.kitOne X.K t c = some b) (h : ∀ tk, Q (.bool b) { s with toks := tk }) :
  wpAny (model X.prog X.w) A (call (.builtin "isinstance") [u, c]) Q E s := by
 cases ty with
 | non => cases (show u = Value.none from rx); exact PySem.W.kia_one PySem.W.kitx_none I.kIn True.intro e (fun z => nomatch z) h
 | bl y => cases (show u = Value.bool y from rx); exact PySem.W.kia_one PySem.W.kitx_bool I.kIn True.intro e (fun z => nomatch z) h
 | int i => obtain ⟨t, q⟩ := (show ∃ t, u = Value.int i t from rx); cases q; exact PySem.W.kia_one PySem.W.kitx_int I.kIn True.intro e (fun z => nomatch z) h
 | str y => obtain ⟨t, q⟩ := (show ∃ t, u = Value.str y t from rx); cases q; exact PySem.W.kia_one PySem.W.kitx_str I.kIn True.intro e (fun z => nomatch z) h
 | flt y => obtain ⟨t, q⟩ := (show ∃ t, u = Value.float y t from rx); cases q; exact PySem.W.kia_one PySem.W.kitx_float I.kIn True.intro e (fun z => nomatch z) h
 | @lst a xs ea =>
  cases (show u = Value.ref a from rx)
  obtain ⟨_, _, n, _, h1⟩ := (show ObjOk X.prog X.w H s.heap a (.lst xs) from I.hok a _ ea)
  exact PySem.W.kia_one PySem.W.kitx_list I.kIn ⟨_, h1, rfl⟩ e (fun z => nomatch z) h
 | @frz a ob xs ea =>
  cases (show u = Value.ref a from rx)
  obtain ⟨_, _, _, n, _, h1⟩ := (show ObjOk X.prog X.w H s.heap a (.frz ob (.lst xs)) from I.hok a _ ea)
  exact PySem.W.kia_one PySem.W.kitx_list I.kIn ⟨_, h1, rfl⟩ e (fun z => nomatch z) h
 | @tup a xs ea =>
  cases (show u = Value.ref a from rx)
  obtain ⟨_, _, _, p⟩ := (show ObjOk X.prog X.w H s.heap a (.tup xs) from I.hok a _ ea)
  obtain ⟨o, h1, h2, _⟩ := p
  exact PySem.W.kia_one PySem.W.kitx_tuple I.kIn ⟨o, h1, h2⟩ e (fun z => nomatch z) h
 | @dK a kvs ea =>
  cases (show u = Value.ref a from rx)
  obtain ⟨_, _, vs, _, p⟩ := (show ObjOk X.prog X.w H s.heap a (.dK kvs) from I.hok a _ ea)
  obtain ⟨o, es, ep, h1, h2, _⟩ := p
  exact PySem.W.kia_one PySem.W.kitx_dict I.kIn ⟨o, h1, h2.1⟩ e (fun z => nomatch z) h
 | @dT a kvs ea =>
  cases (show u = Value.ref a from rx)
  obtain ⟨_, _, xs, _, o, es, ep, h1, h2, _⟩ := (show ObjOk X.prog X.w H s.heap a (.dT kvs) from I.hok a _ ea)
  exact PySem.W.kia_one PySem.W.kitx_dict I.kIn ⟨o, h1, h2.1⟩ e (fun z => nomatch z) h
 | @ins a C dx fs ea cl ha hn htk hm =>
  cases (show u = Value.ref a from rx)
  obtain ⟨mA, O, _⟩ := z3u I.hok ea
  obtain ⟨od, J, _⟩ := O.look
  exact PySem.W.kia_one (PySem.W.kitx_own (cl.get _) cl.hd ha hn htk hm) I.kIn J e (fun z => nomatch z) h
end
end L2
namespace L2
open PySem PySem.Spec PyProof.Rows
structure Room (k : Nat) (A : Around) : Prop where
 hd : A.handled = none
 dp : A.depth + 3 * k + 5 < recursionLimit
 un : A.units + 16 * k + 200 < cLine
theorem Room.mono {j k : Nat} {A : Around} (r : Room k A) (h : j ≤ k) : Room j A := ⟨r.hd, by have := r.dp; omega, by have := r.un; omega⟩
theorem Room.deeper {k : Nat} {A : Around} (r : Room (k + 1) A) (env : Env) : Room k (A.deeper env) :=
 ⟨r.hd, by have := r.dp; show A.depth + 1 + 3 * k + 5 < _; omega, by have := r.un; show A.units + 3 + 16 * k + 200 < _; omega⟩
theorem Room.in1 {k : Nat} {A : Around} (r : Room (k + 1) A) : Room k A.in1 :=
 ⟨r.hd, by have := r.dp; show A.depth + 3 * k + 5 < _; omega, by have := r.un; show A.units + 1 + 16 * k + 200 < _; omega⟩
theorem z9d {A : Around} {C : Addr} {us : List Value} {kw : List (Str × Value)} : (A.under (.builtin "type.__call__" ⟨.ref C :: us, kw⟩)).depth = A.depth + 1 := by
 first | rfl | simp [Around.under, Code.weight, Code.isCreation, Code.isGuard, Code.isCaller, Code.frames, Code.isFrame, guardIds]
theorem z9e {A : Around} {C : Addr} {us : List Value} {kw : List (Str × Value)} : (A.under (.builtin "type.__call__" ⟨.ref C :: us, kw⟩)).units = A.units + 1 := by
 first | rfl | simp [Around.under, Code.cUnits, Code.frames, Code.isFrame]
theorem Room.make {k : Nat} {A : Around} (r : Room (k + 1) A) (C : Addr) (us : List Value) (kw : List (Str × Value)) : Room k (A.under (.builtin "type.__call__" ⟨.ref C :: us, kw⟩)) :=
 ⟨r.hd, by have := r.dp; rw [z9d]; omega, by have := r.un; rw [z9e]; omega⟩
theorem Room.depth {k : Nat} {A : Around} (r : Room k A) : A.depth < recursionLimit := by have := r.dp; omega
theorem Room.units {k : Nat} {A : Around} (r : Room k A) : A.units + 64 < cLine := by have := r.un; omega
theorem Room.units0 {k : Nat} {A : Around} (r : Room k A) : A.units < cLine := by have := r.un; omega
def tNil : TA := fun _ H Q => Q [] H
def zc3 (ta : TE) (tr : TA) : TA := fun σ H Q => ta σ H fun x H1 => tr σ H1 fun xs H2 => Q (x :: xs) H2
section
variable {X : Cx} {e : Expr} {es : List Expr} {te : TE} {t : TA} {pos : Pos}
theorem z5 : PA X [] tNil := fun _ _ _ _ H Q I h => Calls.spliced_nil ⟨[], H, I, .nil, h⟩
theorem z0 (ha : PE X e te) (hr : PA X es t) (hs : starEach (e :: es) X.env = (false, eval e X.env) :: starEach es X.env := by rfl) : PA X (e :: es) (zc3 te t) := by
 intro pos pins s σ H Q I h
 rw [hs]
 show wpAny _ _ (spliced ((false, eval e X.env) :: backTo pos (starEach es X.env))) _ _ s
 refine Calls.spliced_cons (thn (ha pins s σ H _ I h) fun u s1 ⟨x, H1, I1, r1, q1⟩ => ?_)
 exact thn (hr pos pins s1 σ H1 _ I1 q1) fun us s2 ⟨xs, H2, I2, r2, q2⟩ => ⟨x :: xs, H2, I2, .cons r1 r2, q2⟩
def tTup (t : TA) : TE := fun σ H Q => t σ H fun xs H1 => xs.length ≤ sizeLine ∧ ∀ p, H1 p = none → Q (.ref p) (upd H1 p (.tup xs))
def tLst (t : TA) : TE := fun σ H Q => t σ H fun xs H1 => xs.length ≤ sizeLine ∧ ∀ p, H1 p = none → Q (.ref p) (upd H1 p (.lst xs))
theorem z2z {x1} (h : PA X es t) : PE X (.Tuple es x1 pos) (tTup t) := by
 intro pins s σ H Q I hq
 refine wpAny_Tuple_spliced (thn (h pos pins s σ H _ I hq) fun us s1 ⟨xs, H1, I1, r, z, q⟩ => ⟨by rw [← r.length]; exact z, ?_⟩)
 have hf : H1 s1.heap.objs.size = none := I1.hok.fresh (Nat.le_refl _)
 refine ⟨.ref s1.heap.objs.size, upd H1 s1.heap.objs.size (.tup xs), I1.laid (t' := s1.toks) (fun b u e => Heap.get?_push_of_some _ e) (Nat.le_refl _) ?_, rfl, q _ hf⟩
 exact ⟨z, us, r, ⟨_, Heap.get?_push_size _ rfl, rfl, _, rfl⟩⟩
theorem z19 (h : PA X es t) : PE X (.List es pos) (tLst t) := by
 intro pins s σ H Q I hq
 refine wpAny_List_spliced (thn (h pos pins s σ H _ I hq) fun us s1 ⟨xs, H1, I1, r, z, q⟩ => ⟨by rw [← r.length]; exact z, ?_⟩)
 have hf : H1 s1.heap.objs.size = none := I1.hok.fresh (Nat.le_refl _)
 refine ⟨.ref s1.heap.objs.size, upd H1 s1.heap.objs.size (.lst xs), I1.laid (t' := s1.toks) (fun b u e => Heap.get?_push_of_some _ e) (Nat.le_refl _) ?_, rfl, q _ hf⟩
 exact ⟨z, us, 0, r, Heap.get?_push_size _ rfl⟩
end
abbrev Sp := List V → Hp → VK → XK → Prop
abbrev CXT := List Env → Hp → Shared → XK → Value → Shared → Prop
structure Env0 (P : Program) (w : World) (K : PySem.W.Frag) (mg : Str → Option Value) (base : Heap) (A : Around) (outer : List Env) (s : Shared) (H : Hp) : Prop where
 frames : A.frames = some outer
 mod : Mod K mg base
 bs : ∀ b o, base.get? b = some o → s.heap.get? b = some o ∧ H b = none
 bsz : base.objs.size ≤ s.heap.objs.size
 funs : s.heap.FunFrames base outer
 frf : ∀ b ∈ frs outer, H b = none
 hok : HOk P w H s.heap
 bare : AllBare s.gens
def CE (outer : List Env) (P : Program) (w : World) (H : Hp) (s : Shared) (Q : VK) (u : Value) (s' : Shared) : Prop :=
 ∃ v H', s'.os = s.os ∧ AllBare s'.gens ∧ Un (frs outer) [] H H' s.heap s'.heap ∧ HOk P w H' s'.heap ∧ RelV v u ∧ Q v H'
def CR (CX : CXT) (outer : List Env) (P : Program) (w : World) (H : Hp) (s : Shared) (Q : VK) (E : XK) (r : Result) (s' : Shared) : Prop :=
 match r with
 | .ok (.ret u) => CE outer P w H s Q u s'
 | .ok _ => False
 | .error e => CX outer H s E e s'
structure FnOk (P : Program) (w : World) (K : PySem.W.Frag) (mg : Str → Option Value) (base : Heap) (CX : CXT) (k : Nat) (f : Addr) (fd : FuncData) (ps : List Str) (sp : Sp) : Prop where
 len : ∀ vs H Q E, sp vs H Q E → vs.length = ps.length
 run : ∀ (A : Around) (outer : List Env) (s : Shared) (H : Hp) (args : Args) (us : List Value) (vs : List V) (Q : VK) (E : XK), Room k A → Env0 P w K mg base A outer s H → BindsTo s fd args (ps.zip us) → Vals vs us → sp vs H Q E →
  codeAny (model P w) A (.call (.ref f) args) (CR CX outer P w H s Q E) s
theorem FnOk.mono {P : Program} {w : World} {K : PySem.W.Frag} {mg : Str → Option Value} {base : Heap} {CX : CXT} {j k : Nat} {f : Addr} {fd : FuncData} {ps : List Str} {sp : Sp} (F : FnOk P w K mg base CX j f fd ps sp) (h : j ≤ k) :
  FnOk P w K mg base CX k f fd ps sp := ⟨F.len, fun A outer s H args us vs Q E hr => F.run A outer s H args us vs Q E (hr.mono h)⟩
theorem Env0.make {P : Program} {w : World} {K : PySem.W.Frag} {mg : Str → Option Value} {base : Heap} {A : Around} {outer : List Env} {s : Shared} {H : Hp} (e : Env0 P w K mg base A outer s H) (C : Addr) (us : List Value) (kw : List (Str × Value)) :
  Env0 P w K mg base (A.under (.builtin "type.__call__" ⟨.ref C :: us, kw⟩)) outer s H := ⟨by first | exact e.frames | (simpa [Around.under, Code.envs, Code.isFrame, pushEnvs] using e.frames), e.mod, e.bs, e.bsz, e.funs, e.frf, e.hok, e.bare⟩
theorem Env0.in1 {P : Program} {w : World} {K : PySem.W.Frag} {mg : Str → Option Value} {base : Heap} {A : Around} {outer : List Env} {s : Shared} {H : Hp} (e : Env0 P w K mg base A outer s H) :
  Env0 P w K mg base A.in1 outer s H := ⟨e.frames, e.mod, e.bs, e.bsz, e.funs, e.frf, e.hok, e.bare⟩
section
variable {X : Cx} {pins : List (Addr × Obj)} {σ : St} {H : Hp} {s s' : Shared}
theorem Inv.env0 (I : Inv X pins σ H s) : Env0 X.prog X.w X.K X.mg X.base X.A X.stack s H :=
 ⟨I.ok.frames, I.ok.mod, I.bs, Nat.le_trans I.ok.bsz I.sz, I.stack, I.stkFree, I.hok, I.bare⟩
theorem Inv.after {Q : VK} {u : Value} (I : Inv X pins σ H s) (h : CE X.stack X.prog X.w H s Q u s') : EP X pins σ Q u s' := by
 obtain ⟨v, H', os, bare, un, hok, r, q⟩ := h
 obtain ⟨hh, g, d, t, os'⟩ := s'
 obtain rfl : os' = s.os := os
 exact ⟨v, H', I.call (h' := hh) (g' := g) (d' := d) (t' := t) (ch := []) un hok bare (fun b z => absurd z (by simp)), r, q⟩
end
def z9f (sp : Sp) (dvs : List V) (E : XK) (t : TA) : TE := fun σ H Q => t σ H fun vs H1 => sp (vs ++ dvs) H1 Q E
def z9g (C : Addr) (m : Str) (sp : Sp) (dvs : List V) (E : XK) (ta : TE) (t : TA) : TE := fun σ H Q => ta σ H fun x H1 => ∃ a dx fs, x = .ref a ∧ H1 a = some (.ins C dx fs) ∧ fs.lookup m = none ∧
 t σ H1 fun vs H2 => sp (x :: (vs ++ dvs)) H2 Q E
def z5n (C : Addr) (sp : Sp) (dvs : List V) (E : XK) (t : TA) : TE := fun σ H Q => t σ H fun vs H1 => ∀ x dx, H1 x = none → H1 dx = none → dx ≠ x →
 sp (.ref x :: (vs ++ dvs)) (upd (upd H1 dx (.own x)) x (.ins C dx [])) (fun v H2 => v = .non ∧ Q (.ref x) H2) E
def Binds (K : PySem.W.Frag) (fd : FuncData) (ps : List Str) (ds : List Value) : Prop :=
 ∀ (s : Shared) (us : List Value), K.In s.heap → (us ++ ds).length = ps.length → BindsTo s fd ⟨us, []⟩ (ps.zip (us ++ ds))
theorem Binds.all {K : PySem.W.Frag} {fd : FuncData} {ps : List Str} (h : ∀ us : List Value, us.length = ps.length → bindArgs fd ⟨us, []⟩ = pure (ps.zip us)) : Binds K fd ps [] := fun s us _ hl => by
 rw [List.append_nil] at hl ⊢
 exact .of_eq (h us hl)
def z30 (CX : CXT) (X : Cx) (E : XK) : Prop := ∀ (pins : List (Addr × Obj)) (σ : St) (H : Hp) (s : Shared) (e : Value) (s' : Shared), Inv X pins σ H s → CX X.stack H s E e s' → X.xe e s'
section
variable {X : Cx} {CX : CXT} {k : Nat} {f C : Addr} {fd : FuncData} {ps : List Str} {sp : Sp} {dvs : List V} {ds : List Value} {E : XK} {x m : Str} {p pos apos : Pos} {e o : Expr} {es : List Expr} {ta : TE} {t : TA}
theorem zab {pins : List (Addr × Obj)} {σ : St} {H : Hp} {s : Shared} {Q : VK} {us : List Value} {vs : List V} (F : FnOk X.prog X.w X.K X.mg X.base CX k f fd ps sp) (hr : Room k X.A) (hb : Binds X.K fd ps ds) (hd : Vals dvs ds) (hx : z30 CX X E)
  (I : Inv X pins σ H s) (r : Vals vs us) (h : sp (vs ++ dvs) H Q E) : wpAny (model X.prog X.w) X.A (call (.ref f) us) (EP X pins σ Q) X.xe s := by
 have r2 : Vals (vs ++ dvs) (us ++ ds) := r.append hd
 have hl : (us ++ ds).length = ps.length := by rw [← r2.length]; exact F.len _ _ _ _ h
 refine wpAny_call (codeAny_mono (F.run X.A X.stack s H ⟨us, []⟩ (us ++ ds) (vs ++ dvs) Q E hr I.env0 (hb s us I.kIn hl) r2 h) fun r s' hq => ?_)
 cases r with
 | error e => exact hx pins σ H s e s' I hq
 | ok fl =>
  cases fl with
  | ret u => exact I.after hq
  | next => exact False.elim hq
  | brk => exact False.elim hq
  | cont => exact False.elim hq
theorem zch (F : FnOk X.prog X.w X.K X.mg X.base CX k f fd ps sp) (hr : Room k X.A) (hg : Gl X x) (hm : X.mg x = some (.ref f)) (hk : PySem.W.keepIn X.K (.ref f) = true) (hb : Binds X.K fd ps ds) (hd : Vals dvs ds) (hx : z30 CX X E)
  (ha : PA X (e :: es) t) (hdb : (x == ("__debug__" : Str)) = false := by decide) (he : starEach (e :: es) X.env = (false, eval e X.env) :: starEach es X.env := by rfl) (hpl : (backTo pos (starEach es X.env)).any (·.1) = false := by rfl) :
  PE X (.Call (.Name x p) (e :: es) [] pos) (z9f sp dvs E t) := by
 intro pins s σ H Q I h
 refine wpAny_Call_Name_kw (z2m I hg hm ?_ hdb)
 refine PySem.W.callWith_K (h₀ := X.base) I.ok.mod.kin hk (thn (ha pos pins s σ H _ I h) fun us s1 ⟨vs, H1, I1, r, q⟩ => ⟨I1.kIn, ?_⟩) he hpl
 exact zab F hr hb hd hx I1 r q
theorem zbe {pl : Sem Bool} (he : PE X o ta) (c : Cls X.K C) (hm : Meth X.K C m f) (F : FnOk X.prog X.w X.K X.mg X.base CX k f fd ps sp) (hr : Room k X.A) (hb : Binds X.K fd ps ds) (hd : Vals dvs ds) (hx : z30 CX X E)
  (ht : eval (.Call (.Attribute o m apos) [] [] pos) X.env = (do
   let ov ← eval o X.env
   standAt apos.atName
   let (f, first) ← holding [ov] (getMethod ov m pl)
   callWith pos f first (backTo pos (starEach [] X.env)) (backToKw pos (keywordEach [] X.env))) := by rfl) :
  PE X (.Call (.Attribute o m apos) [] [] pos) (z9g C m sp dvs E ta tNil) := by
 intro pins s σ H Q I h
 refine PySem.W.methodCall_KW (pl := pl) (thn (he pins s σ H _ I h) fun u s1 ⟨x, H1, I1, rx, a, dx, fs, ex, ea, l, q⟩ => ?_) ht
 subst ex
 obtain rfl : u = Value.ref a := rx
 refine z9b I1 ea c hm l ?_
 exact PySem.W.callWith_K0 (first := [.ref a]) I1.kIn hm.kp (zab (us := [.ref a]) (vs := [.ref a]) F hr hb hd hx I1 (.cons rfl .nil) q)
structure Mk (K : PySem.W.Frag) (C f : Addr) : Prop where
 makes : PySem.W.makesIn K C = true
 init : PySem.W.findIn K (.ref C) "__init__" = some (some (.ref f))
 fn : PySem.W.isFn K (.ref f) = true
 kp : PySem.W.keepIn K (.ref C) = true
theorem z7k {pins : List (Addr × Obj)} {σ : St} {H : Hp} {s : Shared} {Q : VK} {us : List Value} {vs : List V} (M : Mk X.K C f) (F : FnOk X.prog X.w X.K X.mg X.base CX k f fd ps sp) (hr : Room (k + 1) X.A) (hb : Binds X.K fd ps ds) (hd : Vals dvs ds)
  (hx : z30 CX X E) (I : Inv X pins σ H s) (r : Vals vs us)
  (h : ∀ x dx, H x = none → H dx = none → dx ≠ x → sp (.ref x :: (vs ++ dvs)) (upd (upd H dx (.own x)) x (.ins C dx [])) (fun v H2 => v = .non ∧ Q (.ref x) H2) E) :
  wpAny (model X.prog X.w) X.A (call (.ref C) us) (EP X pins σ Q) X.xe s := by
 have hq := h (s.heap.objs.size + 1) s.heap.objs.size (I.hok.fresh (Nat.le_succ _)) (I.hok.fresh (Nat.le_refl _)) (Nat.ne_of_lt (Nat.lt_succ_self _))
 have I2 := Inv.made (C := C) I
 have r2 : Vals (V.ref (s.heap.objs.size + 1) :: (vs ++ dvs)) (Value.ref (s.heap.objs.size + 1) :: (us ++ ds)) := .cons rfl (r.append hd)
 have hl : (Value.ref (s.heap.objs.size + 1) :: us ++ ds).length = ps.length := by
  have e := r2.length
  rw [F.len _ _ _ _ hq] at e
  exact e.symm
 refine wpAny_call (z7i (f := f) I.kIn M.makes M.init (beq_iff_eq.mp M.fn) (codeAny_mono (F.run _ X.stack _ _ ⟨Value.ref (s.heap.objs.size + 1) :: us, []⟩ (Value.ref (s.heap.objs.size + 1) :: (us ++ ds)) _ _ E (hr.make C us [])
  (I2.env0.make C us []) (hb _ (Value.ref (s.heap.objs.size + 1) :: us) I2.kIn hl) r2 hq) fun r s' hq' => ?_))
 cases r with
 | error e => exact hx pins σ _ _ e s' I2 hq'
 | ok fl =>
  cases fl with
  | ret u =>
   obtain ⟨v, H', I3, rv, ev, q3⟩ := I2.after hq'
   subst ev
   exact ⟨rv, ⟨V.ref (s.heap.objs.size + 1), H', I3, rfl, q3⟩⟩
  | next => exact False.elim hq'
  | brk => exact False.elim hq'
  | cont => exact False.elim hq'
theorem zci (M : Mk X.K C f) (F : FnOk X.prog X.w X.K X.mg X.base CX k f fd ps sp) (hr : Room (k + 1) X.A) (hg : Gl X x) (hm : X.mg x = some (.ref C)) (hb : Binds X.K fd ps ds) (hd : Vals dvs ds) (hx : z30 CX X E)
  (ha : PA X (e :: es) t) (hdb : (x == ("__debug__" : Str)) = false := by decide) (he : starEach (e :: es) X.env = (false, eval e X.env) :: starEach es X.env := by rfl) (hpl : (backTo pos (starEach es X.env)).any (·.1) = false := by rfl) :
  PE X (.Call (.Name x p) (e :: es) [] pos) (z5n C sp dvs E t) := by
 intro pins s σ H Q I h
 refine wpAny_Call_Name_kw (z2m I hg hm ?_ hdb)
 refine PySem.W.callWith_K (h₀ := X.base) I.ok.mod.kin M.kp (thn (ha pos pins s σ H _ I h) fun us s1 ⟨vs, H1, I1, r, q⟩ => ⟨I1.kIn, ?_⟩) he hpl
 exact z7k M F hr hb hd hx I1 r q
theorem zbf (M : Mk X.K C f) (F : FnOk X.prog X.w X.K X.mg X.base CX k f fd ps sp) (hr : Room (k + 1) X.A) (hg : Gl X x) (hm : X.mg x = some (.ref C)) (hb : Binds X.K fd ps ds) (hd : Vals dvs ds) (hx : z30 CX X E)
  (hdb : (x == ("__debug__" : Str)) = false := by decide) : PE X (.Call (.Name x p) [] [] pos) (z5n C sp dvs E tNil) := by
 intro pins s σ H Q I h
 refine wpAny_Call_Name_kw (z2m I hg hm ?_ hdb)
 exact PySem.W.callWith_K0 I.kIn M.kp (z7k (us := []) M F hr hb hd hx I .nil h)
end
section
variable {X : Cx} {CX : CXT} {k : Nat} {f C : Addr} {fd : FuncData} {ps ks : List Str} {sp : Sp} {E : XK} {x m : Str} {p pos apos kpos : Pos} {e o : Expr} {es : List Expr} {kws : List Keyword} {te ta : TE} {t tk : TA} {nm : Option Str}
structure KBinds (K : PySem.W.Frag) (fd : FuncData) (ps ks : List Str) (g : List Value → List Value → List Value) (gV : List V → List V → List V) : Prop where
 to : ∀ (s : Shared) (us ws : List Value), K.In s.heap → (g us ws).length = ps.length → BindsTo s fd ⟨us, ks.zip ws⟩ (ps.zip (g us ws))
 rel : ∀ {vs : List V} {us : List Value} {zs : List V} {ws : List Value}, Vals vs us → Vals zs ws → Vals (gV vs zs) (g us ws)
variable {g : List Value → List Value → List Value} {gV : List V → List V → List V}
end
structure FnScope (N P : List Str) (sc : Scope) : Prop where
 kind : sc.kind = .function
 co : sc.isCoroutine = false
 gen : sc.isGenerator = false
 nd : N.Nodup
 pre : N.take P.length = P
 par : ∀ x ∈ P, sc.names.lookup x = some .local ∨ sc.names.lookup x = some .cell
 nofree : ∀ y ∈ sc.names, y.2 ≠ .free
theorem z6g {kindOf : Str → Option NameKind} {x : Str} : ∀ {binds : List (Str × Value)} {m : Str → Option Value}, (∀ v, (x, v) ∉ binds) → bindL kindOf binds m x = m x
 | [], _, _ => rfl
 | (n, v) :: r, m, h => by
  unfold bindL
  rw [z6g fun w hw => h w (List.mem_cons_of_mem _ hw)]
  split
  ·have : x ≠ n := by rintro rfl; exact h v List.mem_cons_self
   simp [this]
  ·rfl
theorem z6h {kindOf : Str → Option NameKind} {x : Str} : ∀ {binds : List (Str × Value)} {m : Str → Option Value}, (∀ v, (x, v) ∉ binds) → bindC kindOf binds m x = m x
 | [], _, _ => rfl
 | (n, v) :: r, m, h => by
  unfold bindC
  rw [z6h fun w hw => h w (List.mem_cons_of_mem _ hw)]
  split
  ·rfl
  ·have : x ≠ n := by rintro rfl; exact h v List.mem_cons_self
   simp [this]
theorem z6i {kindOf : Str → Option NameKind} {x : Str} {v : Value} : ∀ {P : List Str} {vs : List Value} {i : Nat} {m : Str → Option Value}, P.Nodup → P[i]? = some x → vs[i]? = some v → kindOf x = some .local →
  bindL kindOf (P.zip vs) m x = some v
 | [], _, _, _, _, h, _, _ => by simp at h
 | _ :: _, [], _, _, _, _, h, _ => by simp at h
 | p :: P, w :: vs, 0, m, nd, h1, h2, hk => by
  simp at h1 h2; subst h1; subst h2
  show bindL kindOf ((p, w) :: P.zip vs) m p = _
  unfold bindL
  rw [z6g fun v hv => (List.nodup_cons.mp nd).1 (List.of_mem_zip hv).1, if_pos hk]
  simp
 | p :: P, w :: vs, i + 1, m, nd, h1, h2, hk => by
  show bindL kindOf ((p, w) :: P.zip vs) m x = _
  unfold bindL
  exact z6i (i := i) (List.nodup_cons.mp nd).2 (by simpa using h1) (by simpa using h2) hk
theorem z6j {kindOf : Str → Option NameKind} {x : Str} {v : Value} : ∀ {P : List Str} {vs : List Value} {i : Nat} {m : Str → Option Value}, P.Nodup → P[i]? = some x → vs[i]? = some v → kindOf x ≠ some .local →
  bindC kindOf (P.zip vs) m x = some v
 | [], _, _, _, _, h, _, _ => by simp at h
 | _ :: _, [], _, _, _, _, h, _ => by simp at h
 | p :: P, w :: vs, 0, m, nd, h1, h2, hk => by
  simp at h1 h2; subst h1; subst h2
  show bindC kindOf ((p, w) :: P.zip vs) m p = _
  unfold bindC
  rw [z6h fun v hv => (List.nodup_cons.mp nd).1 (List.of_mem_zip hv).1, if_neg hk]
  simp
 | p :: P, w :: vs, i + 1, m, nd, h1, h2, hk => by
  show bindC kindOf ((p, w) :: P.zip vs) m x = _
  unfold bindC
  exact z6j (i := i) (List.nodup_cons.mp nd).2 (by simpa using h1) (by simpa using h2) hk
def start (N : List Str) (vs : List V) : St := vs.map some ++ List.replicate (N.length - vs.length) none
def cxOf (CX : CXT) (P : Program) (w : World) (K : PySem.W.Frag) (mg : Str → Option Value) (base : Heap) (N : List Str) (qual : Str) (scope : Scope) (f : Addr) (cd : Value) (A : Around) (outer : List Env) (s : Shared) (H : Hp) (E : XK) : Cx where
 prog := P
 w := w
 K := K
 mg := mg
 base := base
 A := A.deeper (envOfC qual scope s.heap.objs.size f cd)
 N := N
 s₀ := s
 H₀ := H
 env := envOfC qual scope s.heap.objs.size f cd
 outer := outer
 stack := envOfC qual scope s.heap.objs.size f cd :: outer
 ex := []
 calm := true
 fn := fun _ => true
 pn := []
 xe := fun e s' => wpAny (model P w) (A.deeper (envOfC qual scope s.heap.objs.size f cd)) (leaving (envOfC qual scope s.heap.objs.size f cd) e) (fun _ s'' => CX outer H s E e s'') (fun e' s'' => CX outer H s E e' s'') s'
theorem z7l {sc : Scope} {n : Nat} {x : Str} (h : sc.names.lookup x = some .cell) : ∃ c, (cellsFrom n sc.names []).lookup x = some c := by
 have q := PySem.W.cellsFrom_some sc.names n [] (.inl h)
 exact Option.isSome_iff_exists.mp q
theorem zac {CX : CXT} {P : Program} {w : World} {K : PySem.W.Frag} {mg : Str → Option Value} {base : Heap} {N ps : List Str} {qual : Str} {scope : Scope} {f : Addr} {cd : Value} {A : Around} {outer : List Env} {s s1 : Shared} {H : Hp} {E : XK} {us : List Value} {vs : List V}
  (S : FnScope N ps scope) (hd : A.handled = none) (e0 : Env0 P w K mg base A outer s H) (hl : vs.length = ps.length) (r : Vals vs us)
  (x : InCallC s s.heap.objs.size (bindL (envOfC qual scope s.heap.objs.size f cd).kindOf (ps.zip us) fun _ => none) (cellsFrom (s.heap.objs.size + 1) scope.names []) (bindC (envOfC qual scope s.heap.objs.size f cd).kindOf (ps.zip us) fun _ => none) s1) :
  Inv (cxOf CX P w K mg base N qual scope f cd A outer s H E) [] (start N vs) H s1 := by
 have hpl : ps.length ≤ N.length := by have := congrArg List.length S.pre; rw [List.length_take] at this; omega
 obtain ⟨h1, tk, rfl, hk⟩ := x.done
 have noA : ∀ b : Addr, b ∉ (cxOf CX P w K mg base N qual scope f cd A outer s H E).ex := fun b z => absurd (show b ∈ ([] : List Addr) from z) (by simp)
 refine ⟨⟨e0.mod, S.kind, rfl, rfl, Nat.le_refl _, fun y z c h1 h2 => ?_, fun y hy => ?_, fun y c _ h => ?_, fun _ => hd, Around.frames_deeper e0.frames, .inr ⟨rfl, rfl⟩, fun b z => absurd z (noA b), e0.bs, e0.bsz, fun b _ _ => noA b, fun b z => absurd z (noA b), e0.funs, e0.frf⟩,
  rfl, e0.bare, Un.kept hk, ⟨_, x.toInCall.ns, fun i y v h1 h2 h3 => ?_⟩, fun y c h => ⟨_, x.cell y c h⟩, e0.hok.fresh (Nat.le_refl _), fun y c h => ?_, fun p hp => absurd (show p ∈ ([] : List (Addr × Obj)) from hp) (by simp), e0.hok.kept hk, ?_⟩
 ·exact name_of_addr x.apart (PySem.mem_of_lookup h1) (PySem.mem_of_lookup h2)
 ·have hy : scope.names.lookup y = some .cell ∨ scope.names.lookup y = some .free := hy
  rcases hy with hy | hy
  ·exact z7l hy
  ·exact absurd rfl (S.nofree _ (PySem.mem_of_lookup hy))
 ·exact Nat.le_of_lt (x.above y c (PySem.mem_of_lookup h))
 ·have hi : i < vs.length := by
   unfold start at h2
   by_cases hi : i < vs.length
   ·exact hi
   ·rw [List.getElem?_append_right (by simpa using hi)] at h2
    rw [List.getElem?_replicate] at h2
    split at h2 <;> cases h2
  have ha : vs[i]? = some v := by
   unfold start at h2
   rw [List.getElem?_append_left (by simpa using hi), List.getElem?_map] at h2
   cases e : vs[i]? with
   | none => rw [e] at h2; cases h2
   | some a => rw [e] at h2; cases h2; rfl
  obtain ⟨u, hu, rv⟩ := r.get ha
  have hp : ps[i]? = some y := by
   rw [← S.pre, List.getElem?_take_of_lt (by omega)]; exact h1
  have ndP : ps.Nodup := by rw [← S.pre]; exact S.nd.sublist (List.take_sublist _ _)
  refine ⟨u, rv, ?_⟩
  rcases S.par y (List.mem_of_getElem? hp) with k | k
  ·exact .inl ⟨k, z6i ndP hp hu k⟩
  ·obtain ⟨c, e⟩ := z7l (n := s.heap.objs.size + 1) k
   refine .inr ⟨.inl k, c, e, ?_⟩
   have q := x.cell y c e
   rw [z6j ndP hp hu (by show scope.names.lookup y ≠ _; rw [k]; decide)] at q
   exact q
 ·exact e0.hok.fresh (Nat.le_of_lt (x.above y c (PySem.mem_of_lookup h)))
 ·unfold start
  show _ = N.length
  rw [List.length_append, List.length_map, List.length_replicate]
  omega
theorem zc4 {CX : CXT} {P : Program} {w : World} {K : PySem.W.Frag} {mg : Str → Option Value} {base : Heap} {k : Nat} {f : Addr} {name qual : Str} {params : Arguments} {body : List Stmt} {scope : Scope} {dV kV doc pm cdv ct oc : Value} {an od : Option Addr}
  {osl : Array (Option Value)} {N ps : List Str} {sp : Sp} (lk : K.lookup f = some ⟨oc, od, .func (PySem.W.fnOf name qual params body scope dV kV doc pm an cdv ct), osl⟩) (hcd : PySem.W.codeIn K cdv qual = true) (S : FnScope N ps scope)
  (len : ∀ vs H Q E, sp vs H Q E → vs.length = ps.length)
  (hbody : ∀ (A : Around) (outer : List Env) (s : Shared) (H : Hp) (vs : List V) (Q : VK) (E : XK), Room k (A.deeper (envOfC qual scope s.heap.objs.size f cdv)) → sp vs H Q E →
   ∃ t, PSs (cxOf CX P w K mg base N qual scope f cdv A outer s H E) body t ∧ t { nx := fun _ H' => Q .non H', rt := Q } (start N vs) H) :
  FnOk P w K mg base CX (k + 1) f (PySem.W.fnOf name qual params body scope dV kV doc pm an cdv ct) ps sp := by
 refine ⟨len, fun A outer s H args us vs Q E hr e0 hb r hsp => ?_⟩
 have hl := len _ _ _ _ hsp
 have KX : K.In s.heap := e0.mod.kin.keeps fun b o e => (e0.bs b o e).1
 have lim : s.heap.NoLimit := e0.mod.nolimit.keeps fun b o e => (e0.bs b o e).1
 have hkind : ∀ y ∈ ps.zip us, scope.names.lookup y.1 = some .local ∨ (scope.names.lookup y.1 = some .cell ∧ ((cellsFrom (s.heap.objs.size + 1) scope.names []).lookup y.1).isSome = true) := fun ⟨n, v⟩ hy => by
  rcases S.par n (List.of_mem_zip hy).1 with q | q
  ·exact .inl q
  ·exact .inr ⟨q, PySem.W.cellsFrom_some _ _ _ (.inl q)⟩
 refine codeAny_call_function hr.depth (KX _ _ lk) rfl S.co S.gen rfl (PySem.W.codeRec_of KX hcd) (hb _ _ _ _ ?_)
 refine wpAny_newFunctionEnv_cells S.kind hkind fun env he s1 x => ?_
 subst he
 refine ⟨lim.keeps x.toInCall.keep, codeAny_func ?_⟩
 obtain ⟨t, ht, hq⟩ := hbody A outer s H vs Q E (hr.deeper _) hsp
 have I : Inv (cxOf CX P w K mg base N qual scope f cdv A outer s H E) [] (start N vs) H s1 := zac S hr.hd e0 hl r x
 refine wpAny_mono (ht [] s1 (start N vs) H _ I hq) (fun fl s' hs => ?_) fun e s' hs => hs
 have fin : ∀ {σ' : St} {H' : Hp} {v : V} {u : Value}, Inv (cxOf CX P w K mg base N qual scope f cdv A outer s H E) [] σ' H' s' → RelV v u → Q v H' → CE outer P w H s Q u s' :=
  fun {σ' H' v u} J rv q => ⟨v, H', J.os, J.bare, J.base, J.hok, rv, q⟩
 cases fl with
 | ret u =>
  obtain ⟨v, σ', H', J, rv, q⟩ := hs
  exact fin J rv q
 | next =>
  obtain ⟨σ', H', J, q⟩ := hs
  exact fin (v := V.non) (u := Value.none) J rfl q
 | brk =>
  obtain ⟨_, _, _, q⟩ := hs
  exact False.elim q
 | cont =>
  obtain ⟨_, _, _, q⟩ := hs
  exact False.elim q
end L2
namespace L2
open PySem PySem.Spec PyProof.Rows
section
variable {X : Cx} {x : Str} {p pos : Pos} {e : Expr} {es : List Expr} {t : TA} {id T : String} {r : List V → Hp → VK → Prop}
def tCB (r : List V → Hp → VK → Prop) (t : TA) : TE := fun σ H Q => t σ H fun vs H1 => r vs H1 Q
theorem z8 (hc : CallR X (.builtin id) r) (hg : Gl X x) (hm : X.mg x = none) (hv : bootBuiltins x = some (.builtin id)) (ha : PA X (e :: es) t) (hn : x ≠ "__name__" := by decide) (hdb : (x == ("__debug__" : Str)) = false := by decide)
  (he : starEach (e :: es) X.env = (false, eval e X.env) :: starEach es X.env := by rfl) (hpl : (backTo pos (starEach es X.env)).any (·.1) = false := by rfl) : PE X (.Call (.Name x p) (e :: es) [] pos) (tCB r t) := by
 intro pins s σ H Q I h
 refine wpAny_Call_Name_kw (z48 I hg hm hv ?_ hn hdb)
 exact PyProof.Rows.callWith_builtin1 (thn (ha pos pins s σ H _ I h) fun us s1 ⟨vs, H1, I1, r1, q1⟩ => hc pins s1 σ H1 vs us Q I1 r1 q1) he hpl
theorem z1e (hc : CallR X (.type T) r) (hg : Gl X x) (hm : X.mg x = none) (hv : bootBuiltins x = some (.type T)) (ha : PA X (e :: es) t) (hn : x ≠ "__name__" := by decide) (hdb : (x == ("__debug__" : Str)) = false := by decide)
  (he : starEach (e :: es) X.env = (false, eval e X.env) :: starEach es X.env := by rfl) (hpl : (backTo pos (starEach es X.env)).any (·.1) = false := by rfl) : PE X (.Call (.Name x p) (e :: es) [] pos) (tCB r t) := by
 intro pins s σ H Q I h
 refine wpAny_Call_Name_kw (z48 I hg hm hv ?_ hn hdb)
 exact PyProof.Rows.callWith_type1 (thn (ha pos pins s σ H _ I h) fun us s1 ⟨vs, H1, I1, r1, q1⟩ => hc pins s1 σ H1 vs us Q I1 r1 q1) he hpl
end
end L2
namespace HT
open PySem PyProof.Rows
section
open PySem.SeqAt
open PySem.AutoSeq1 (wpAny_loadPart')
open PySem.MeetsSeq PySem.MeetsSeq2 PySem.MeetsSeq3
end
section
variable {prog : Program} {w : World} {A : Around} {E : Value → Shared → Prop} {s : Shared}
end
end HT
namespace L2
open PySem PySem.Spec PyProof.Rows
abbrev TO := St → Hp → (Option Int → Hp → Prop) → Prop
def PO (X : Cx) (e : Option Expr) (t : TO) : Prop :=
 ∀ (pins : List (Addr × Obj)) (s : Shared) (σ : St) (H : Hp) (Q : Option Int → Hp → Prop), Inv X pins σ H s → t σ H Q →
  wpAny (model X.prog X.w) X.A (evalPart e X.env) (fun u s' => ∃ o H', Inv X pins σ H' s' ∧ IsPart u o ∧ Q o H') X.xe s
def z8r : TO := fun _ H Q => Q none H
def zc5 (t : TE) : TO := fun σ H Q => t σ H fun x H1 => ∃ i, x = .int i ∧ Q (some i) H1
section
variable {X : Cx} {e : Expr} {te : TE} {lo hi : Option Expr} {tl th : TO} {pos p2 : Pos}
theorem zcj : PO X none z8r := by
 intro pins s σ H Q I h
 rw [evalPart_none]
 exact wpAny_pure ⟨none, H, I, .none, h⟩
theorem zck (h : PE X e te) : PO X (some e) (zc5 te) := by
 intro pins s σ H Q I hw
 rw [evalPart_some]
 refine thn (h pins s σ H _ I hw) fun u s1 ⟨x, H1, I1, r1, q1⟩ => ?_
 obtain ⟨i, rfl, q⟩ := q1
 obtain ⟨t, rfl⟩ := r1
 exact ⟨some i, H1, I1, .int i t, q⟩
def SlR (X : Cx) (r : V → Option Int → Option Int → Hp → VK → Prop) : Prop :=
 ∀ (pins : List (Addr × Obj)) (s : Shared) (σ : St) (H : Hp) (x : V) (v vl vu : Value) (lo hi : Option Int) (sl : Addr) (Q : VK), Inv X pins σ H s → RelV x v → s.heap.IsSliceOf sl vl vu .none → IsPart vl lo → IsPart vu hi → r x lo hi H Q →
  ∃ T id, typeLookup (.type T) "__getitem__" = pure (some (.builtin id)) ∧ s.TypeIs v T ∧ wpAny (model X.prog X.w) X.A (getItem v (.ref sl)) (EP X pins σ Q) X.xe s
theorem SlR.or {r r' : V → Option Int → Option Int → Hp → VK → Prop} (h : SlR X r) (h' : SlR X r') : SlR X (fun x lo hi H Q => r x lo hi H Q ∨ r' x lo hi H Q) := by
 intro pins s σ H x v vl vu lo hi sl Q I rx hs pl pu q
 rcases q with q | q
 ·exact h pins s σ H x v vl vu lo hi sl Q I rx hs pl pu q
 ·exact h' pins s σ H x v vl vu lo hi sl Q I rx hs pl pu q
def tSl (r : V → Option Int → Option Int → Hp → VK → Prop) (te : TE) (tl th : TO) : TE := fun σ H Q => te σ H fun x H1 => tl σ H1 fun l H2 => th σ H2 fun u H3 => r x l u H3 Q
theorem zbg {r : V → Option Int → Option Int → Hp → VK → Prop} (hr : SlR X r) (he : PE X e te) (hl : PO X lo tl) (hu : PO X hi th) : PE X (.Subscript e (.Slice lo hi none p2) pos) (tSl r te tl th) := by
 intro pins s σ H Q I h
 refine Subscript_ (thn (he pins s σ H _ I h) fun v s1 ⟨x, H1, I1, r1, q1⟩ => ?_)
 refine wpAny_Slice (thn (hl pins s1 σ H1 _ I1 q1) fun vl s2 ⟨l, H2, I2, pl, q2⟩ => thn (hu pins s2 σ H2 _ I2 q2) fun vu s3 ⟨u, H3, I3, pu, q3⟩ => ?_)
 rw [evalPart_none]
 refine wpAny_pure ?_
 have I4 : Inv X pins σ H3 { s3 with heap := s3.heap.push { cls := .type "slice", data := .fields #[vl, vu, .none] } } := I3.kept (t' := s3.toks) fun b ob q => Heap.get?_push_of_some _ q
 obtain ⟨T, id, hT, ht, hg⟩ := hr pins { s3 with heap := s3.heap.push { cls := .type "slice", data := .fields #[vl, vu, .none] } } σ H3 x v vl vu l u s3.heap.objs.size Q I4 r1 (Heap.IsSliceOf.new ..) pl pu q3
 show wpAny (model X.prog X.w) X.A (subscriptTail e (.Slice lo hi none p2) v (.ref s3.heap.objs.size)) (EP X pins σ Q) X.xe { s3 with heap := s3.heap.push { cls := .type "slice", data := .fields #[vl, vu, .none] } }
 exact tail_any (ops := [.ref s3.heap.objs.size, v]) ht hT hg (by with_unfolding_all rfl)
end
end L2
namespace L2
open PySem PySem.Spec PyProof.Rows
def ixN (n : Nat) (i : Int) : Option Nat := if 0 ≤ i then (if i < n then some i.toNat else none) else if -(n : Int) ≤ i then some (i + n).toNat else none
def atI {α : Type} (xs : List α) (i : Int) : Option α := (ixN xs.length i).bind fun j => xs[j]?
theorem z8s {n : Nat} {i : Int} {j : Nat} (h : ixN n i = some j) : seqIndex? i n = some j ∧ j < n ∧ -(n : Int) ≤ i ∧ i < n := by
 unfold ixN at h
 by_cases h0 : 0 ≤ i
 ·rw [if_pos h0] at h
  by_cases h1 : i < n
  ·rw [if_pos h1] at h
   have e : i.toNat = j := Option.some.inj h
   exact ⟨by rw [seqIndex_of h0 h1, e], by omega, by omega, h1⟩
  ·rw [if_neg h1] at h; cases h
 ·rw [if_neg h0] at h
  by_cases h1 : -(n : Int) ≤ i
  ·rw [if_pos h1] at h
   have e : (i + n).toNat = j := Option.some.inj h
   exact ⟨by rw [seqIndex_neg (by omega) h1, e], by omega, h1, by omega⟩
  ·rw [if_neg h1] at h; cases h
theorem z63 {α : Type} {xs : List α} {i : Int} {v : α} (h : atI xs i = some v) : ∃ j, seqIndex? i xs.length = some j ∧ xs[j]? = some v ∧ j < xs.length ∧ -(xs.length : Int) ≤ i ∧ i < xs.length := by
 unfold atI at h
 cases e : ixN xs.length i with
 | none => rw [e] at h; cases h
 | some j =>
  rw [e] at h
  obtain ⟨h1, h2, h3, h4⟩ := z8s e
  exact ⟨j, h1, h, h2, h3, h4⟩
theorem zb {α : Type} {xs : List α} {j : Nat} {v : α} (h : xs[j]? = some v) : atI xs (j : Int) = some v := by
 have hj : j < xs.length := (List.getElem?_eq_some_iff.mp h).1
 have e : ixN xs.length (j : Int) = some j := by
  unfold ixN
  rw [if_pos (by omega), if_pos (by omega)]; simp
 unfold atI; rw [e]; exact h
def zcl (b : Expr) : Prop := ∀ o i, subscripted b false o i = operate [o, i] (getItem o i)
def IxR (X : Cx) (r : R2) : Prop :=
 ∀ (value slice : Expr) (pins : List (Addr × Obj)) (s : Shared) (σ : St) (H : Hp) (x y : V) (v u : Value) (Q : VK), Inv X pins σ H s → RelV x v → RelV y u → r x y H Q →
  subscripted slice false v u = operate [v, u] (getItem v u) → wpAny (model X.prog X.w) X.A (subscriptTail value slice v u) (EP X pins σ Q) X.xe s
def MtR (X : Cx) (id : String) (r : V → List V → Hp → VK → Prop) : Prop :=
 ∀ (pins : List (Addr × Obj)) (s : Shared) (σ : St) (H : Hp) (x : V) (xs : List V) (v : Value) (us : List Value) (Q : VK), Inv X pins σ H s → RelV x v → Vals xs us → r x xs H Q →
  wpAny (model X.prog X.w) X.A (call (.builtin id) (v :: us)) (EP X pins σ Q) X.xe s
section
variable {X : Cx} {a b : Expr} {ta tb : TE} {pos : Pos}
theorem IxR.or {r r' : R2} (h : IxR X r) (h' : IxR X r') : IxR X (fun x y H Q => r x y H Q ∨ r' x y H Q) := by
 intro value slice pins s σ H x y v u Q I rx ry q hs
 rcases q with q | q
 ·exact h value slice pins s σ H x y v u Q I rx ry q hs
 ·exact h' value slice pins s σ H x y v u Q I rx ry q hs
theorem MtR.or {id : String} {r r' : V → List V → Hp → VK → Prop} (h : MtR X id r) (h' : MtR X id r') : MtR X id (fun x xs H Q => r x xs H Q ∨ r' x xs H Q) := by
 intro pins s σ H x xs v us Q I rx rs q
 rcases q with q | q
 ·exact h pins s σ H x xs v us Q I rx rs q
 ·exact h' pins s σ H x xs v us Q I rx rs q
theorem zp {r : R2} (hr : IxR X r) (ha : PE X a ta) (hb : PE X b tb) (hs : zcl b) : PE X (.Subscript a b pos) (tOp r ta tb) := by
 intro pins s σ H Q I h
 exact Subscript_ (binT ha hb I h fun v u s2 x y H2 I2 rx ry q => hr a b pins s2 σ H2 x y v u Q I2 rx ry q (hs _ _))
def rIxL (K : PySem.W.Frag) : R2 := fun x y H Q => ∃ p xs i v, x = .ref p ∧ y = .int i ∧ SqL K H p xs ∧ atI xs i = some v ∧ Q v H
def rIxT (K : PySem.W.Frag) : R2 := fun x y H Q => ∃ p xs i v, x = .ref p ∧ y = .int i ∧ SqT K H p xs ∧ atI xs i = some v ∧ Q v H
def rIxS : R2 := fun x y H Q => ∃ z i c, x = .str z ∧ y = .int i ∧ z.length ≤ sizeLine ∧ atI z.cps.toList i = some c ∧ Q (.str ⟨#[c]⟩) H
theorem ix_list : IxR X (rIxL X.K) := by
 intro value slice pins s σ H x y v u Q I rx ry h hs
 obtain ⟨p, xs, i, z, rfl, rfl, hq, he, q⟩ := h
 cases rx
 obtain ⟨t, rfl⟩ := ry
 obtain ⟨its, r, pl, hz⟩ := I.list hq
 obtain ⟨j, h1, h2, h3, h4, h5⟩ := z63 he
 obtain ⟨w, ew, rw'⟩ := r.get h2
 have hl := r.length
 have hn := z3t
 have fin : EP X pins σ Q w s := ⟨z, H, I, rw', q⟩
 by_cases h0 : 0 ≤ i
 ·have hj : i.toNat = j := by
   rw [seqIndex_of h0 h5] at h1
   exact Option.some.inj h1
  exact item_listR pl.isList h0 (by omega) (by rw [hj]; simpa using ew) fin hs
 ·have hj : (i + (its.toArray.size : Int)).toNat = j := by
   rw [seqIndex_neg (by omega) h4] at h1
   rw [List.size_toArray, ← hl]
   exact Option.some.inj h1
  exact subscriptTail_builtinR (x := w) pl.isList.typeIs slot_list_getitem.lookup
   (wpAny_getItem_list_neg (Q := fun r s' => r = w ∧ EP X pins σ Q r s') pl.isList (by omega) (by rw [List.size_toArray] <;> omega) (by omega) (by rw [hj]; simpa using ew) ⟨rfl, fin⟩) hs
theorem ix_tup : IxR X (rIxT X.K) := by
 intro value slice pins s σ H x y v u Q I rx ry h hs
 obtain ⟨p, xs, i, z, rfl, rfl, hq, he, q⟩ := h
 cases rx
 obtain ⟨t, rfl⟩ := ry
 obtain ⟨its, r, pl, hz⟩ := I.tuple hq
 obtain ⟨j, h1, h2, h3, h4, h5⟩ := z63 he
 obtain ⟨w, ew, rw'⟩ := r.get h2
 have hl := r.length
 have hn := z3t
 have fin : EP X pins σ Q w s := ⟨z, H, I, rw', q⟩
 exact subscriptTail_builtinR (x := w) pl.typeIs slot_tuple_getitem.lookup
  (getItem_tuple (j := j) (Q := fun r s' => r = w ∧ EP X pins σ Q r s') pl (by omega) (by omega) (by rw [List.size_toArray, ← hl]; exact h1) (by simpa using ew) ⟨rfl, fin⟩) hs
theorem z31 : IxR X rIxS := by
 intro value slice pins s σ H x y v u Q I rx ry h hs
 obtain ⟨z, i, c, rfl, rfl, hz, he, q⟩ := h
 obtain ⟨t, rfl⟩ := rx
 obtain ⟨t', rfl⟩ := ry
 obtain ⟨j, h1, h2, h3, h4, h5⟩ := z63 he
 have hl : z.cps.toList.length = z.length := by simp [Str.length]
 rw [hl] at h1 h4 h5
 have hn := z3t
 exact tail_any (typeIs_str s z t) slot_str_getitem.lookup (getItem_str (c := c) (by
  have e1 : decide (i < -(2 ^ 63 : Int)) = false := decide_eq_false (by omega)
  have e2 : decide (i ≥ 2 ^ 63) = false := decide_eq_false (by omega)
  rw [e1, e2, Bool.or_false]) (by rw [h1]; simpa using h2) ⟨.str ⟨#[c]⟩, H, I.tok _, ⟨_, rfl⟩, q⟩) hs
def rIx (K : PySem.W.Frag) : R2 := fun x y H Q => rIxL K x y H Q ∨ rIxT K x y H Q ∨ rIxS x y H Q
theorem zd7 : IxR X (rIx X.K) := ix_list.or (ix_tup.or z31)
theorem z9h (its : List Value) (n j : Nat) (u : Value) : Obj.mapSeq (·.setIfInBounds j u) { cls := .type "list", data := .seq its.toArray n } = { cls := .type "list", data := .seq (its.set j u).toArray n } := by
 simp [Obj.mapSeq]
theorem Inv.lst {pins : List (Addr × Obj)} {σ : St} {H : Hp} {s : Shared} {p : Addr} {xs : List V} (I : Inv X pins σ H s) (h : H p = some (.lst xs)) :
  ∃ (its : List Value) (n : Nat), Vals xs its ∧ s.heap.get? p = some { cls := .type "list", data := .seq its.toArray n } ∧ xs.length ≤ sizeLine := by
 obtain ⟨z, its, n, r, e⟩ := I.hok p _ h
 exact ⟨its, n, r, e, z⟩
theorem Inv.lstUpd {pins : List (Addr × Obj)} {σ : St} {H : Hp} {s : Shared} {p : Addr} {xs ys : List V} {its its' : List Value} {n n' : Nat} {f : Obj → Obj} (I : Inv X pins σ H s) (h : H p = some (.lst xs))
  (ho : s.heap.get? p = some { cls := .type "list", data := .seq its.toArray n }) (hf : f { cls := .type "list", data := .seq its.toArray n } = { cls := .type "list", data := .seq its'.toArray n' }) (r : Vals ys its') (hz : ys.length ≤ sizeLine) (t : Nat) :
  Inv X pins σ (upd H p (.lst ys)) { s with heap := s.heap.update p f, toks := t } := by
 have e : (s.heap.update p f).get? p = some { cls := .type "list", data := .seq its'.toArray n' } := by
  rw [Heap.get?_update_self f ho (by rw [hf] <;> rfl), hf]
 refine I.write (x := p) (e := p) (by rw [h]; trivial) (.inl rfl) (fun b u hb q => (Heap.get?_update_other _ _ (Ne.symm hb)).trans q) ⟨_, e⟩ ?_
 exact ⟨hz, its', n', r, e⟩
def zdp : V → V → V → Hp → (Hp → Prop) → Prop := fun o i v H Q => ∃ p xs k j, o = .ref p ∧ i = .int k ∧ H p = some (.lst xs) ∧ ixN xs.length k = some j ∧ Q (upd H p (.lst (xs.set j v)))
theorem z5b : PSet X zdp := by
 intro pins s σ H o i v ov iv u Q I ro ri rv h
 obtain ⟨p, xs, k, j, rfl, rfl, hp, hj, q⟩ := h
 cases ro
 obtain ⟨t, rfl⟩ := ri
 obtain ⟨its, n, r, ho, hz⟩ := I.lst hp
 obtain ⟨h1, h2, h3, h4⟩ := z8s hj
 have hl := r.length
 have hn := z3t
 have I' : Inv X pins σ (upd H p (.lst (xs.set j v))) { s with heap := s.heap.update p (Obj.mapSeq (·.setIfInBounds j u)) } :=
  I.lstUpd hp ho (z9h its n j u) (r.set rv j) (by rw [List.length_set]; exact hz) s.toks
 by_cases h0 : 0 ≤ k
 ·have hk : k.toNat = j := by
   rw [seqIndex_of h0 h4] at h1
   exact Option.some.inj h1
  exact PySem.W.ki_setAt ho h0 (by omega) (by rw [List.size_toArray, ← hl]; exact h4) (by rw [hk]; exact ⟨_, I', q⟩)
 ·have hk : (k + (its.toArray.size : Int)).toNat = j := by
   rw [seqIndex_neg (by omega) h3] at h1
   rw [List.size_toArray, ← hl]
   exact Option.some.inj h1
  exact PySem.W.ki_setBack ho (by omega) (by rw [List.size_toArray, ← hl]; exact h3) (by omega) (by rw [hk]; exact ⟨_, I', q⟩)
def z2w : V → Bool
 | .non => true
 | .bl _ => true
 | .int _ => true
 | .str _ => true
 | _ => false
def eqV : V → V → Bool
 | .non, .non => true
 | .bl a, .bl b => a == b
 | .bl a, .int b => (if a then 1 else 0) == b
 | .int a, .bl b => a == (if b then 1 else 0)
 | .int a, .int b => a == b
 | .str a, .str b => a == b
 | _, _ => false
theorem zd8 {A : Around} {s : Shared} {y x : V} {u v : Value} (ry : RelV y u) (rx : RelV x v) (fy : z2w y = true) (fx : z2w x = true) : SeqAt.EqAt A s u v (eqV y x) := by
 cases y with
 | non =>
  cases ry
  cases x with
  | non => cases rx; exact SeqAt.EqAt.same _
  | bl b => cases rx; exact SeqAt.EqAt.none_bool b
  | int b => obtain ⟨t, rfl⟩ := rx; exact SeqAt.EqAt.none_int b t
  | str b => obtain ⟨t, rfl⟩ := rx; exact SeqAt.EqAt.none_str b t
  | _ => exact absurd (show false = true from fx) Bool.false_ne_true
 | bl a =>
  cases ry
  cases x with
  | non => cases rx; exact SeqAt.EqAt.bool_none a
  | bl b => cases rx; exact SeqAt.EqAt.bool_bool a b
  | int b => obtain ⟨t, rfl⟩ := rx; exact SeqAt.EqAt.bool_int a b t
  | str b => obtain ⟨t, rfl⟩ := rx; exact SeqAt.EqAt.bool_str a b t
  | _ => exact absurd (show false = true from fx) Bool.false_ne_true
 | int a =>
  obtain ⟨t', rfl⟩ := ry
  cases x with
  | non => cases rx; exact SeqAt.EqAt.int_none a t'
  | bl b => cases rx; exact SeqAt.EqAt.int_bool a t' b
  | int b => obtain ⟨t, rfl⟩ := rx; exact SeqAt.EqAt.int_int a t' b t
  | str b => obtain ⟨t, rfl⟩ := rx; exact SeqAt.EqAt.int_str a t' b t
  | _ => exact absurd (show false = true from fx) Bool.false_ne_true
 | str a =>
  obtain ⟨t', rfl⟩ := ry
  cases x with
  | non => cases rx; exact SeqAt.EqAt.str_none a t'
  | bl b => cases rx; exact SeqAt.EqAt.str_bool a t' b
  | int b => obtain ⟨t, rfl⟩ := rx; exact SeqAt.EqAt.str_int a t' b t
  | str b => obtain ⟨t, rfl⟩ := rx; exact SeqAt.EqAt.str_str a t' b t
  | _ => exact absurd (show false = true from fx) Bool.false_ne_true
 | _ => exact absurd (show false = true from fy) Bool.false_ne_true
def eqU (x : V) (u : Value) : Bool := match u with
 | .none => eqV .non x
 | .bool b => eqV (.bl b) x
 | .int i _ => eqV (.int i) x
 | .str z _ => eqV (.str z) x
 | _ => false
theorem zad {x y : V} {u : Value} (r : RelV y u) (f : z2w y = true) : eqU x u = eqV y x := by
 cases y with
 | non => cases r; rfl
 | bl b => cases r; rfl
 | int i => obtain ⟨t, rfl⟩ := r; rfl
 | str z => obtain ⟨t, rfl⟩ := r; rfl
 | _ => exact absurd (show false = true from f) Bool.false_ne_true
theorem z64 {x : V} : ∀ {xs : List V} {us : List Value}, Vals xs us → xs.all z2w = true → us.any (eqU x) = xs.any fun y => eqV y x
 | _, _, .nil, _ => rfl
 | y :: xs, u :: us, .cons r t, f => by
  rw [List.all_cons, Bool.and_eq_true] at f
  rw [List.any_cons, List.any_cons, zad r f.1, z64 t f.2]
theorem z5c {A : Around} {s : Shared} {x : V} {v : Value} (rx : RelV x v) (fx : z2w x = true) : ∀ {xs : List V} {us : List Value}, Vals xs us → xs.all z2w = true → ∀ u ∈ us, SeqAt.EqAt A s u v (eqU x u)
 | _, _, .nil, _ => fun u hu => by cases hu
 | y :: xs, u :: us, .cons r t, f => fun u' hu => by
  rw [List.all_cons, Bool.and_eq_true] at f
  rcases List.mem_cons.mp hu with rfl | hu
  ·rw [zad r f.1]; exact zd8 r rx f.1 fx
  ·exact z5c rx fx t f.2 u' hu
def inV (x : V) (xs : List V) : Bool := xs.any fun y => eqV y x
def rIn (K : PySem.W.Frag) (neg : Bool) : R2 := fun x y H Q => ∃ p xs, y = .ref p ∧ (SqL K H p xs ∨ SqT K H p xs) ∧ z2w x = true ∧ xs.all z2w = true ∧ Q (.bl (if neg then !inV x xs else inV x xs)) H
theorem zae : OpR X (compareOp .In) (rIn X.K false) := by
 intro pins s σ H x y v u Q I rx ry h
 obtain ⟨p, xs, rfl, hq, fx, fs, q⟩ := h
 cases ry
 rcases hq with hq | hq
 ·obtain ⟨its, r, pl, hz⟩ := I.list hq
  refine SeqAt.in_listAt (eqU x) pl.isList (fun w hw => z5c rx fx r fs w (by simpa using hw)) ⟨.bl _, H, I, rfl, ?_⟩
  rw [show its.toArray.any (eqU x) = its.any (eqU x) by simp, z64 r fs]
  exact q
 ·obtain ⟨its, r, pl, hz⟩ := I.tuple hq
  refine SeqAt.in_tupleAt (eqU x) pl (fun w hw => z5c rx fx r fs w (by simpa using hw)) ⟨.bl _, H, I, rfl, ?_⟩
  rw [show its.toArray.any (eqU x) = its.any (eqU x) by simp, z64 r fs]
  exact q
theorem zg : CallR X (.builtin "len") (fun xs H Q => ∃ p ys, xs = [.ref p] ∧ (SqL X.K H p ys ∨ SqT X.K H p ys) ∧ Q (.int ys.length) H) := by
 intro pins s σ H xs us Q I r h
 obtain ⟨p, ys, rfl, hq, q⟩ := h
 obtain ⟨u, rfl, rx⟩ := z3e r
 cases rx
 have hn := z3t
 rcases hq with hq | hq
 ·obtain ⟨its, r', pl, hz⟩ := I.list hq
  have hlen := r'.length
  exact Calls.call_len_list pl.isList (by simp only [List.size_toArray] <;> omega) ⟨.int ys.length, H, I.tok _, ⟨s.toks + 1, by rw [List.size_toArray, hlen]⟩, q⟩
 ·obtain ⟨its, r', pl, hz⟩ := I.tuple hq
  have hlen := r'.length
  exact len_tuple pl (by simp only [List.size_toArray] <;> omega) ⟨.int ys.length, H, I.tok _, ⟨s.toks + 1, by rw [List.size_toArray, hlen]⟩, q⟩
theorem z32 : CallR X (.builtin "len") (fun xs H Q => ∃ z, xs = [.str z] ∧ z.length ≤ sizeLine ∧ Q (.int z.length) H) := by
 intro pins s σ H xs us Q I r h
 obtain ⟨z, rfl, hz, q⟩ := h
 obtain ⟨u, rfl, t, rfl⟩ := z3e r
 have hn := z3t
 exact len_str (by omega) ⟨.int z.length, H, I.tok _, ⟨_, rfl⟩, q⟩
theorem CallR.or {f : Value} {r r' : List V → Hp → VK → Prop} (h : CallR X f r) (h' : CallR X f r') : CallR X f (fun xs H Q => r xs H Q ∨ r' xs H Q) := by
 intro pins s σ H xs us Q I rs q
 rcases q with q | q
 ·exact h pins s σ H xs us Q I rs q
 ·exact h' pins s σ H xs us Q I rs q
theorem z24 : CallR X (.type "list") (fun xs H Q => ∃ p ys, xs = [.ref p] ∧ (SqL X.K H p ys ∨ SqT X.K H p ys) ∧ ∀ l, H l = none → Q (.ref l) (upd H l (.lst ys))) := by
 intro pins s σ H xs us Q I r h
 obtain ⟨p, ys, rfl, hq, q⟩ := h
 obtain ⟨u, rfl, rx⟩ := z3e r
 cases rx
 have fin : ∀ (its : List Value), Vals ys its → ys.length ≤ sizeLine → ∀ (h' : Heap) (c' : Nat), (∀ b o', s.heap.get? b = some o' → h'.get? b = some o') →
   h'.get? s.heap.objs.size = some { cls := .type "list", dict := none, data := .seq its.toArray c', slots := #[] } → EP X pins σ Q (.ref s.heap.objs.size) { s with heap := h' } := fun its r' hz h' c' kp e =>
  ⟨.ref s.heap.objs.size, _, I.laid (t' := s.toks) kp (Nat.le_refl _) (show ObjOk X.prog X.w _ h' _ (.lst ys) from ⟨hz, its, c', r', e⟩), rfl, q _ (I.hok.fresh (Nat.le_refl _))⟩
 rcases hq with hq | hq
 ·obtain ⟨its, r', pl, hz⟩ := I.list hq
  have hlen := r'.length
  obtain ⟨o, ho, hc, n, hd⟩ := pl.isList
  exact call_list_seq p (.inl rfl) ho hc hd (fun h' c' kp e => fin its r' hz h' c' kp e) (by simp only [List.size_toArray] <;> omega)
 ·obtain ⟨its, r', pl, hz⟩ := I.tuple hq
  have hlen := r'.length
  obtain ⟨o, ho, hc, n, hd⟩ := pl
  exact call_list_seq p (.inr rfl) ho hc hd (fun h' c' kp e => fin its r' hz h' c' kp e) (by simp only [List.size_toArray] <;> omega)
def tyV (K : PySem.W.Frag) (T : String) (x : V) (H : Hp) : Prop := match x with
 | .str _ => T = "str"
 | .int _ => T = "int"
 | .ref p => (T = "list" ∧ ∃ xs, SqL K H p xs) ∨ (T = "tuple" ∧ ∃ o, K.lookup p = some o ∧ o.cls = .type "tuple" ∧ o.dict = none) ∨
   (T = "dict" ∧ ((∃ kvs, H p = some (.dK kvs)) ∨ ∃ kvs, H p = some (.dT kvs))) ∨ (T = "set" ∧ ∃ S n, H p = some (.set S n))
 | _ => False
theorem zd9 {pins : List (Addr × Obj)} {σ : St} {H : Hp} {s : Shared} {T : String} {x : V} {v : Value} (I : Inv X pins σ H s) (r : RelV x v) (ty : tyV X.K T x H) :
  s.TypeIs v T ∧ ∀ a, v = .ref a → ∃ ob, s.heap.get? a = some ob ∧ ob.dict = none := by
 cases x with
 | str z =>
  obtain ⟨t, rfl⟩ := r
  cases (show T = "str" from ty)
  exact ⟨typeIs_str s z t, fun _ e => nomatch e⟩
 | int i =>
  obtain ⟨t, rfl⟩ := r
  cases (show T = "int" from ty)
  exact ⟨typeIs_int s i t, fun _ e => nomatch e⟩
 | ref p =>
  cases r
  rcases ty with ⟨rfl, xs, hq⟩ | ⟨rfl, o, hk, hc, hd⟩ | ⟨rfl, hk⟩ | ⟨rfl, S, n, hk⟩
  ·obtain ⟨its, _, pl, _⟩ := I.list hq
   refine ⟨pl.isList.typeIs, fun a e => ?_⟩
   cases e
   obtain ⟨o, n, e, c, hd, _⟩ := pl
   exact ⟨o, e, hd⟩
  ·refine ⟨⟨o, I.kIn p o hk, hc⟩, fun a e => ?_⟩
   cases e
   exact ⟨o, I.kIn _ o hk, hd⟩
  ·have z : ∃ o, s.heap.get? p = some o ∧ o.ExactDict := by
    rcases hk with ⟨kvs, hk⟩ | ⟨kvs, hk⟩
    ·obtain ⟨_, _, _, _, o, _, _, e, ex, _⟩ := I.hok p _ hk
     exact ⟨o, e, ex⟩
    ·obtain ⟨_, _, _, _, o, _, _, e, ex, _⟩ := I.hok p _ hk
     exact ⟨o, e, ex⟩
   obtain ⟨o, e, ex⟩ := z
   refine ⟨⟨o, e, ex.1⟩, fun a e2 => ?_⟩
   cases e2
   exact ⟨o, e, ex.2.1⟩
  ·obtain ⟨o, _, _, _, e, ex, _⟩ := I.hok p _ hk
   refine ⟨⟨o, e, ex.1⟩, fun a e2 => ?_⟩
   cases e2
   exact ⟨o, e, ex.2.1⟩
 | _ => exact False.elim ty
def tBM (K : PySem.W.Frag) (T : String) (r : V → List V → Hp → VK → Prop) (to : TE) (t : TA) : TE := fun σ H Q => to σ H fun x H1 => tyV K T x H1 ∧ t σ H1 fun xs H2 => r x xs H2 Q
variable {o e : Expr} {es : List Expr} {to : TE} {t : TA} {name : Str} {apos cpos : Pos} {T id : String} {r : V → List V → Hp → VK → Prop}
theorem z40 (pa : PlainAttrs T) (slot : Slot T name id) (hty : typeOf (.builtin id) = pure (.type "method_descriptor")) (hm : MtR X id r) (ho : PE X o to) (ha : PA X (e :: es) t)
  (hbase : attributeBase o name X.env (eval o X.env) = eval o X.env := by rfl)
  (hfew : ((backTo cpos (starEach (e :: es) X.env)).all (fun x => !x.1) && (backToKw cpos (keywordEach [] X.env)).all (fun x => x.1.isSome)
   && decide ((e :: es).length + ([] : List Keyword).length + (if ([] : List Keyword).isEmpty then 0 else 1) < 30)) = true := by rfl)
  (hline : (apos.endLine == cpos.line) = true := by rfl) (hs : starEach (e :: es) X.env = (false, eval e X.env) :: starEach es X.env := by rfl) (hplain : (backTo cpos (starEach es X.env)).any (·.1) = false := by rfl) :
  PE X (.Call (.Attribute o name apos) (e :: es) [] cpos) (tBM X.K T r to t) := by
 intro pins s σ H Q I h
 refine wpAny_Call_method_late hbase hfew hline rfl (thn (ho pins s σ H _ I h) fun v s1 ⟨x, H1, I1, r1, ty, q1⟩ => ?_)
 obtain ⟨h1, h2⟩ := zd9 I1 r1 ty
 refine ⟨T, id, pa, slot, hty, h1, h2, ?_⟩
 have hA := ha cpos pins s1 σ H1 _ I1 q1
 rw [hs] at hA ⊢
 refine Calls.callWith_builtin (by show (false || (backTo cpos (starEach es X.env)).any (·.1)) = false; rw [hplain] <;> rfl) (Calls.evalArgs_plain ?_)
 exact thn hA fun us s2 ⟨vs, H2, I2, r2, q2⟩ => hm pins s2 σ H2 x vs v us Q I2 r1 r2 q2
end
end L2
namespace L2
open PySem PySem.Spec PyProof.Rows
def MtM (X : Cx) (id : String) (r : V → List V → Hp → VK → Prop) : Prop :=
 ∀ (pins : List (Addr × Obj)) (s : Shared) (σ : St) (H : Hp) (x : V) (xs : List V) (v : Value) (us : List Value) (Q : VK), Inv X pins σ H s → RelV x v → Vals xs us → r x xs H Q →
  wpAny (model X.prog X.w) X.A (call (.builtin id) (v :: us)) (EP X pins σ Q) X.xe s
theorem Vals.one : ∀ {x : V} {us : List Value}, Vals [x] us → ∃ u, us = [u] ∧ RelV x u
 | _, _, .cons r .nil => ⟨_, rfl, r⟩
theorem Vals.two : ∀ {x y : V} {us : List Value}, Vals [x, y] us → ∃ u v, us = [u, v] ∧ RelV x u ∧ RelV y v
 | _, _, _, .cons r (.cons q .nil) => ⟨_, _, rfl, r, q⟩
theorem Vals.zero : ∀ {us : List Value}, Vals [] us → us = []
 | _, .nil => rfl
theorem Vals.eraseIdx : ∀ {xs : List V} {us : List Value} (i : Nat), Vals xs us → Vals (xs.eraseIdx i) (us.eraseIdx i)
 | _, _, _, .nil => .nil
 | _, _, 0, .cons _ t => t
 | _, _, i + 1, .cons r t => .cons r (Vals.eraseIdx i t)
section
variable {X : Cx} {pins : List (Addr × Obj)} {σ : St} {H : Hp} {s : Shared} {l b : Addr} {xs ys zs : List V}
theorem Inv.lset {its its' : List Value} {n : Nat} {f : Array Value → Array Value} {t' : Nat} (I : Inv X pins σ H s) (hH : H l = some (.lst xs))
  (e : s.heap.get? l = some { cls := .type "list", data := .seq its.toArray n }) (hf : f its.toArray = its'.toArray) (hv : Vals ys its') (hz : ys.length ≤ sizeLine) :
  Inv X pins σ (upd H l (.lst ys)) { s with heap := s.heap.update l (Obj.mapSeq f), toks := t' } := by
 have q := PySem.IsL.update e f
 rw [hf] at q
 refine I.write (x := l) (e := l) (by rw [hH]; exact trivial) (.inl rfl) (fun b' u hb hu => (Heap.get?_update_other s.heap (Obj.mapSeq f) (Ne.symm hb)).trans hu) ⟨_, q⟩ ?_
 exact ⟨hz, its', _, hv, q⟩
theorem Inv.lnew {its : List Value} {t' : Nat} (I : Inv X pins σ H s) (hv : Vals ys its) (hz : ys.length ≤ sizeLine) :
  Inv X pins σ (upd H s.heap.objs.size (.lst ys)) { s with heap := s.heap.push { cls := .type "list", data := .seq its.toArray }, toks := t' } :=
 I.laid (fun _ _ q => Heap.get?_push_of_some _ q) (Nat.le_refl _) ⟨hz, its, 0, hv, Heap.get?_push_size _ rfl⟩
theorem Inv.fresh (I : Inv X pins σ H s) : H s.heap.objs.size = none := I.hok.fresh (Nat.le_refl _)
theorem Inv.lstM (I : Inv X pins σ H s) (hH : H l = some (.lst xs)) : xs.length ≤ sizeLine ∧ ∃ (its : List Value) (n : Nat), Vals xs its ∧ xs.length = its.length ∧ s.heap.get? l = some { cls := .type "list", data := .seq its.toArray n } := by
 obtain ⟨z, its, n, r, e⟩ := I.hok l _ hH
 exact ⟨z, its, n, r, r.length, e⟩
end
section
variable {X : Cx}
def zcm : V → List V → Hp → VK → Prop := fun x vs H Q => ∃ l xs y, x = .ref l ∧ vs = [y] ∧ H l = some (.lst xs) ∧ xs.length < sizeLine ∧ Q .non (upd H l (.lst (xs ++ [y])))
theorem z6k : MtM X "list.append" zcm := by
 intro pins s σ H x vs v us Q I rx rv h
 obtain ⟨l, xs, y, rfl, rfl, hH, hz, q⟩ := h
 cases rx
 obtain ⟨u, rfl, ru⟩ := rv.one
 obtain ⟨z, its, n, r, hl, e⟩ := I.lstM hH
 refine call_meets F.slot_list_append ⟨_, e, rfl⟩ F.entry_list_append (F.args_list_append_2 _ _) (PySem.list_append l its.toArray n u (by rw [List.size_toArray]; omega)) ⟨e, ?_⟩
 refine ⟨.non, _, I.lset (its' := its ++ [u]) hH e (by simp) (r.append (.cons ru .nil)) ?_, rfl, q⟩
 rw [List.length_append, List.length_singleton]
 omega
end
section
variable {prog : Program} {w : World} {A : Around} {E : Value → Shared → Prop} {s : Shared}
end
section
variable {X : Cx}
end
end L2
namespace Att
open PySem PySem.W PySem.Calls PyProof.Rows
theorem z5o {P : Params} {h : Heap} : ∀ (ns : List Int) (vs : List Value), WellAll P h vs (ns.map WData.int) → IntsAre vs ns := by
 intro ns
 induction ns with
 | nil =>
  intro vs w
  rw [List.map_nil] at w
  cases w
  exact .nil
 | cons n ns ih =>
  intro vs w
  rw [List.map_cons] at w
  cases w with
  | cons a b =>
   cases a
   exact .cons _ _ (ih _ b)
theorem zaf {l : OpenLaw} {n : Nat} (hn : l.most = some n) {P : Params} {h : Heap} {args : List WData} {vals : List Value}
  (hpre : l.row.toRowW.claim.pre args = true) (hwl : WellAll P h vals args) :
  ∃ a vs ns, vals = [Value.ref a] ∧ args = [WData.list (ns.map WData.int)] ∧ h.get? a = some { cls := .type "list", data := .seq vs.toArray } ∧ IntsAre vs ns ∧ ns.length ≤ n := by
 have hsh : WShape.hasAll [] args [.list .int] = true := (pre_splitW hpre).1
 have hc : l.pre.holds [] { args := args } = true := (pre_splitW hpre).2
 obtain ⟨d, r, rfl, h1, h2⟩ := hasAllW_cons hsh
 obtain rfl := hasAllW_nil h2
 obtain ⟨xs, rfl, h3⟩ := hasW_list h1
 obtain ⟨ns, rfl⟩ := items_int h3
 have hlen : ns.length ≤ n := by
  unfold OpenLaw.pre at hc
  have h4 : (WTm.not (.lt (.lit (.int (n : Int))) (.len (.arg 0)))).holds [] { args := [.list (ns.map .int)] } = true := by
   have h4 := (holds_andW hc).1
   rw [hn] at h4
   exact h4
  have h5 := condW_of h4 (w_not (w_lt w_lit (w_len_list (w_arg rfl))))
  rw [List.length_map] at h5
  refine Nat.le_of_not_lt fun q => ?_
  have q' : (n : Int) < ((ns.length : Nat) : Int) := by omega
  first
   | (rw [decide_eq_true q'] at h5; exact absurd h5 (by decide))
   | (simp at h5; omega)
 cases hwl with
 | cons w1 w2 =>
  cases w2
  cases w1 with
  | list ho hall => exact ⟨_, _, ns, rfl, rfl, ho, z5o ns _ hall, hlen⟩
theorem zag (l : OpenLaw) (args : List WData) : l.row.toRowW.claim.post args (.bool true) args = true :=
 postW_of (r := l.row.toRowW) (X := (true == true))
  (show WShape.has [] (.bool true) .bool = true by first | rfl | decide | simp [WShape.has, WShape.arms, WShape.armsAll])
  (show (WTm.eq .res (.lit (.bool true))).value [] { args := args, res := some (.bool true), after := args } = some (.bool (true == true)) from w_eq_bool (w_res rfl) w_lit) rfl
theorem attach_call {l : OpenLaw} {n : Nat} {q : Program} {loose : List Str} {XP : (Str → Option Value) → Heap → Prop} {YP : World → Heap → Prop} {d : DefRec}
  (hn : l.most = some n) (hdf : d.params.defaults = [])
  (call : ∀ (w : World) (s₀ s₁ : Shared) (mg mb : Str → Option Value) (fa : Addr) (o : Obj) (pm cd doc : Value) (a : Addr) (vs : List Value) (ns : List Int),
   Ground q loose [] XP w s₀ mg mb s₁.heap → YP w s₁.heap →
   s₁.heap.get? fa = some o → o.data = .func (docDef d.name d.params d.body d.scope pm cd doc) → s₁.heap.CodeRec cd d.name → mg d.name = some (.ref fa) →
   s₁.heap.get? a = some { cls := .type "list", data := .seq vs.toArray } → IntsAre vs ns → ns.length ≤ n → s₁.gens = #[] →
   codeAny (model l.prog w) callerA (.call (.ref fa) ⟨[.ref a], []⟩) (fun r s' => r = .ok (.ret (.bool true)) ∧ OldK s₁.heap s'.heap ∧ s'.os = s₁.os ∧ AllBare s'.gens) s₁) :
  WalkO q loose XP YP l.row.toRowW d [] (fun f vs => PySem.call f vs) := by
 intro w s₀ s₁ mg mb G Y fa o pm cd doc dV kV ho hd hcd hD hmg hg args vals as hpre hlay hrd hwl hlo
 obtain rfl : dV = .none := Dflts.none hD hdf
 obtain rfl : kV = .none := Dflts.noKw hD
 obtain ⟨a, vs, ns, rfl, rfl, hobj, hints, hlen⟩ := zaf hn hpre hwl
 refine enter_call (codeAny_mono (call w s₀ s₁ mg mb fa o pm cd doc a vs ns G Y ho (fd_plain hd) hcd hmg hobj hints hlen hg) fun r s' hq => ?_)
 obtain ⟨rfl, h2, h3, h4⟩ := hq
 exact ⟨.inl ⟨.bool true, .bool true, [], rfl, fun _ => rfl, .bool true, zag l _, fun _ => ⟨List.Pairwise.nil, fun _ hm => (nomatch hm)⟩⟩, h2, h3, h4⟩
section
variable {prog : Program} {w : World} {A : Around} {E : Value → Shared → Prop} {s : Shared} {K : Frag}
def zdu (h : Heap) (L d : Addr) : List (Addr × Obj) := (List.range h.objs.size).filterMap fun a => if a = L ∨ a = d then none else (h.get? a).map fun o => (a, o)
end
end Att
namespace L2
open PySem PySem.Spec PyProof.Rows
theorem z6l : ∀ {vs : List Value} {ns : List Int}, IntsAre vs ns → Vals (ns.map V.int) vs
 | _, _, .nil => .nil
 | _, _, .cons n t h => .cons ⟨t, rfl⟩ (z6l h)
def Only (H : Hp) : Prop := ∀ b, H b = none ∨ ∃ o xs, H b = some (.frz o (.lst xs))
theorem zbh {P : Program} {w : World} {K : PySem.W.Frag} {mg mb : Str → Option Value} {CX : CXT} {k : Nat} {fa a : Addr} {fd : FuncData} {x : Str} {sp : Sp} {s₁ : Shared} {vs : List Value} {ns : List Int}
  (KX : K.In s₁.heap) (hns : s₁.heap.Ns mainGlobals mg) (hb : s₁.heap.Ns builtinsNs mb) (hbb : ∀ x : Str, x ≠ "__name__" → mb x = bootBuiltins x) (hlim : s₁.heap.NoLimit) (hg : s₁.gens = #[])
  (ha : s₁.heap.get? a = some { cls := .type "list", data := .seq vs.toArray }) (hi : IntsAre vs ns) (hl : ns.length ≤ sizeLine) (hr : Room k callerA)
  (F : ∀ base : Heap, K.In base → base.Ns mainGlobals mg → FnOk P w K mg base CX k fa fd [x] sp) (hbind : ∀ (s : Shared) (u : Value), BindsTo s fd ⟨[u], []⟩ [(x, u)])
  (hsp : ∀ H : Hp, Only H → SqL K H a (ns.map V.int) → sp [.ref a] H (fun v _ => v = .bl true) fun _ _ _ => False)
  (hCX : ∀ H e s', CX [] H s₁ (fun _ _ _ => False) e s' → False) :
  codeAny (model P w) callerA (.call (.ref fa) ⟨[.ref a], []⟩) (fun r s' => r = .ok (.ret (.bool true)) ∧ OldK s₁.heap s'.heap ∧ s'.os = s₁.os ∧ AllBare s'.gens) s₁ := by
 have rv := z6l hi
 have lenV := hi.length
 have core : ∀ H : Hp, Only H → SqL K H a (ns.map V.int) → HOk P w H s₁.heap → (∀ b, H b ≠ none → b = a) → (H a ≠ none → K.lookup a = none) →
   codeAny (model P w) callerA (.call (.ref fa) ⟨[.ref a], []⟩) (fun r s' => r = .ok (.ret (.bool true)) ∧ OldK s₁.heap s'.heap ∧ s'.os = s₁.os ∧ AllBare s'.gens) s₁ := by
  intro H hO hS hok hA hK
  have base_of : ∀ {b : Addr} {o : Obj}, s₁.heap.get? b = some o → H b = none → (hidT s₁.heap H).get? b = some o := fun e n => zbb e n
  have noA : ∀ {b : Addr} {o : Obj} {es : Array DictEntry} {ep : Nat}, s₁.heap.get? b = some o → o.data = .dict es ep → H b = none := fun {b o es ep} e d => by
   cases q : H b with
   | none => rfl
   | some u =>
    have e' : b = a := hA b (by rw [q]; simp)
    subst e'
    rw [ha] at e; cases e
    have d' : Data.seq vs.toArray _ = Data.dict es ep := d
    cases d'
  have nsK : ∀ {b : Addr} {m : Str → Option Value}, s₁.heap.Ns b m → (hidT s₁.heap H).Ns b m := fun {b m} ⟨o, es, ep, e, d, r⟩ => ⟨o, es, ep, base_of e (noA e d), d, r⟩
  have hKb : K.In (hidT s₁.heap H) := fun b o e => base_of (KX b o e) (by
   cases q : H b with
   | none => rfl
   | some u =>
    have e' : b = a := hA b (by rw [q]; simp)
    subst e'
    rw [hK (by rw [q]; simp)] at e; cases e)
  have hM : Mod K mg (hidT s₁.heap H) := ⟨hKb, nsK hns, ⟨mb, nsK hb, hbb⟩, let ⟨mc, h1, h2⟩ := hlim; ⟨mc, nsK h1, h2⟩⟩
  have e0 : Env0 P w K mg (hidT s₁.heap H) callerA [] s₁ H := ⟨rfl, hM, fun b o e => zcc e, Nat.le_of_eq (z9y _ _), trivial, fun b hb => absurd (show b ∈ ([] : List Addr) from hb) (by simp), hok, .of_eq hg⟩
  refine codeAny_mono ((F _ hKb (nsK hns)).run callerA [] s₁ H ⟨[.ref a], []⟩ [.ref a] [.ref a] _ _ hr e0 (hbind s₁ (.ref a)) (.cons rfl .nil) (hsp H hO hS)) fun r s' h => ?_
  cases r with
  | error e => exact (hCX H e s' h).elim
  | ok fl =>
   cases fl with
   | next => exact False.elim h
   | brk => exact False.elim h
   | cont => exact False.elim h
   | ret u =>
    obtain ⟨v, H', os, bare, un, hok', r', q⟩ := h
    have q' : v = .bl true := q
    subst q'
    obtain rfl : u = Value.bool true := r'
    refine ⟨rfl, OldK.of_keep fun b o e => ?_, os, bare⟩
    cases q : H b with
    | none => exact un.keep b o e q (by intro z; exact absurd (show b ∈ ([] : List Addr) from z) (by simp)) (by simp)
    | some u =>
     rcases hO b with z | ⟨ob, xs, z⟩
     ·rw [q] at z; cases z
     ·have z2 := un.frzs b ob _ z
      obtain ⟨e1, _⟩ := hok b _ z
      obtain ⟨e2, _⟩ := hok' b _ z2
      rw [e] at e1; cases e1
      exact e2
 cases hk : K.lookup a with
 | some o =>
  have e := KX a o hk
  rw [ha] at e
  cases e
  refine core (fun _ => none) (fun _ => .inl rfl) (.inr ⟨_, vs.toArray, _, hk, rfl, rfl, rfl, by rw [List.size_toArray, lenV]; exact hl, by simpa using rv⟩) (fun b u z => by have z' : (none : Option HO) = some u := z; cases z') (fun b z => absurd rfl z) fun z => absurd rfl z
 | none =>
  refine core (fun b => if b = a then some (.frz { cls := .type "list", data := .seq vs.toArray } (.lst (ns.map V.int))) else none) (fun b => ?_) (.inl (.inr ⟨{ cls := .type "list", data := .seq vs.toArray }, if_pos rfl⟩)) (fun b u z => ?_) (fun b z => ?_) fun _ => hk
  ·by_cases hb : b = a
   ·exact .inr ⟨_, _, if_pos hb⟩
   ·exact .inl (if_neg hb)
  ·by_cases hb : b = a
   ·have z' := (if_pos hb).symm.trans z
    cases z'
    subst hb
    exact ⟨ha, by rw [List.length_map]; exact hl, vs, _, rv, ha⟩
   ·have z' := (if_neg hb).symm.trans z
    cases z'
  ·by_cases hb : b = a
   ·exact hb
   ·exact absurd (if_neg hb) z
end L2
namespace L2
open PySem PySem.Spec PyProof.Rows
theorem zcn {l : PySem.W.OpenLaw} {n k : Nat} {q : Program} {loose : List Str} {XP : (Str → Option Value) → Heap → Prop} {YP : World → Heap → Prop} {d : DefRec} {K : Params → PySem.W.Frag} {CX : World → CXT} {sp : World → Sp} {x : Str}
  (hn : l.most = some n) (hn2 : n ≤ sizeLine) (hdf : d.params.defaults = []) (hr : Room k callerA)
  (hY : ∀ (w : World) (h : Heap), YP w h → (K w.params).In h)
  (F : ∀ (w : World) (mg : Str → Option Value) (fa : Addr) (h : Heap), (K w.params).In h → h.Ns mainGlobals mg → mg d.name = some (.ref fa) →
   ∃ fd : FuncData, (∀ (s : Shared) (u : Value), BindsTo s fd ⟨[u], []⟩ [(x, u)]) ∧
    ∀ base : Heap, (K w.params).In base → base.Ns mainGlobals mg → FnOk l.prog w (K w.params) mg base (CX w) k fa fd [x] (sp w))
  (hsp : ∀ (w : World) (H : Hp) (a : Addr) (ns : List Int), ns.length ≤ n → Only H → SqL (K w.params) H a (ns.map V.int) → sp w [.ref a] H (fun v _ => v = .bl true) fun _ _ _ => False)
  (hCX : ∀ (w : World) (H : Hp) (s : Shared) (e : Value) (s' : Shared), CX w [] H s (fun _ _ _ => False) e s' → False) :
  PySem.W.WalkO q loose XP YP l.row.toRowW d [] (fun f vs => PySem.call f vs) := by
 refine Att.attach_call hn hdf fun w s₀ s₁ mg mb fa o pm cd doc a vs ns G Y ho hd hcd hmg hobj hints hlen hg => ?_
 have KX := hY w _ Y
 obtain ⟨fd, hb, hF⟩ := F w mg fa _ KX G.T.g hmg
 exact zbh KX G.T.g G.T.b G.T.builtins G.T.nolimit hg hobj hints (Nat.le_trans hlen hn2) hr hF hb (fun H hO hS => hsp w H a ns hlen hO hS) fun H e s' => hCX w H s₁ e s'
theorem walk_ofK {l : PySem.W.OpenLaw} {n k : Nat} {q : Program} {loose : List Str} {XP : (Str → Option Value) → Heap → Prop} {YP : World → Heap → Prop} {d : DefRec} {K : Params → PySem.W.Frag} {CX : CXT} {sp : PySem.W.Frag → Sp} {x : Str}
  (hn : l.most = some n) (hn2 : n ≤ sizeLine) (hdf : d.params.defaults = []) (hr : Room k callerA)
  (hY : ∀ (w : World) (h : Heap), YP w h → (K w.params).In h)
  (F : ∀ (w : World) (mg : Str → Option Value) (fa : Addr) (h : Heap), (K w.params).In h → h.Ns mainGlobals mg → mg d.name = some (.ref fa) →
   ∃ fd : FuncData, (∀ (s : Shared) (u : Value), BindsTo s fd ⟨[u], []⟩ [(x, u)]) ∧
    ∀ base : Heap, (K w.params).In base → base.Ns mainGlobals mg → FnOk l.prog w (K w.params) mg base CX k fa fd [x] (sp (K w.params)))
  (hsp : ∀ (K : PySem.W.Frag) (H : Hp) (a : Addr) (ns : List Int), ns.length ≤ n → Only H → SqL K H a (ns.map V.int) → sp K [.ref a] H (fun v _ => v = .bl true) fun _ _ _ => False)
  (hCX : ∀ (H : Hp) (s : Shared) (e : Value) (s' : Shared), CX [] H s (fun _ _ _ => False) e s' → False) :
  PySem.W.WalkO q loose XP YP l.row.toRowW d [] (fun f vs => PySem.call f vs) :=
 zcn (K := K) (CX := fun _ => CX) (sp := fun w => sp (K w.params)) hn hn2 hdf hr hY F (fun w H a ns h1 h2 h3 => hsp (K w.params) H a ns h1 h2 h3) fun _ H s e s' => hCX H s e s'
end L2
namespace L2
open PySem PySem.Spec PyProof.Rows
def z3v (s : Stmt) (j : Nat) : Stmt := match s with
 | .ClassDef _ _ _ body _ _ _ _ _ _ _ => body.getD j (.Pass ⟨0, 0, 0, 0⟩)
 | _ => .Pass ⟨0, 0, 0, 0⟩
def z3w (s : Stmt) : Arguments := match s with
 | .FunctionDef _ a _ _ _ _ _ _ _ _ => a
 | _ => { posonlyargs := [], args := [], vararg := none, kwonlyargs := [], kw_defaults := [], kwarg := none, defaults := [] }
def z1n (s : Stmt) : List Stmt := match s with
 | .FunctionDef _ _ b _ _ _ _ _ _ _ => b
 | _ => []
def ze (s : Stmt) : Scope := match s with
 | .FunctionDef _ _ _ _ _ _ sc _ _ _ => sc
 | _ => { kind := .function, names := [], isGenerator := false, isCoroutine := false }
abbrev CX0 : CXT := fun _ _ _ _ _ _ => False
abbrev E0 : XK := fun _ _ _ => False
theorem z7c {X : Cx} : z30 CX0 X E0 := fun _ _ _ _ _ _ _ h => h.elim
structure Fun (K : PySem.W.Frag) (x qual : Str) (st : Stmt) (f : Addr) (fd : FuncData) : Prop where
 ex : ∃ (oc : Value) (od : Option Addr) (kV doc pm : Value) (an : Option Addr) (cdv ct : Value) (osl : Array (Option Value)),
  fd = PySem.W.fnOf x qual (z3w st) (z1n st) (ze st) .none kV doc pm an cdv ct ∧ K.lookup f = some ⟨oc, od, .func fd, osl⟩ ∧ PySem.W.codeIn K cdv qual = true
 kp : PySem.W.keepIn K (.ref f) = true
section
variable {P : Program} {w : World} {K : PySem.W.Frag} {mg : Str → Option Value} {base : Heap}
theorem Fun.ok {x qual : Str} {st : Stmt} {f : Addr} {fd : FuncData} {N ps : List Str} {k : Nat} {sp : Sp} (F : Fun K x qual st f fd) (S : FnScope N ps (ze st)) (len : ∀ vs H Q E, sp vs H Q E → vs.length = ps.length)
  (hbody : ∀ (cdv : Value) (A : Around) (outer : List Env) (s : Shared) (H : Hp) (vs : List V) (Q : VK) (E : XK), Room k (A.deeper (envOfC qual (ze st) s.heap.objs.size f cdv)) → sp vs H Q E →
   ∃ t, PSs (cxOf CX0 P w K mg base N qual (ze st) f cdv A outer s H E).nox (z1n st) t ∧ t { nx := fun _ H' => Q .non H', rt := Q } (start N vs) H) : FnOk P w K mg base CX0 (k + 1) f fd ps sp := by
 obtain ⟨oc, od, kV, doc, pm, an, cdv, ct, osl, rfl, lk, hcd⟩ := F.ex
 refine zc4 lk hcd S len fun A outer s H vs Q E hr hsp => ?_
 obtain ⟨t, h, q⟩ := hbody cdv A outer s H vs Q E hr hsp
 exact ⟨t, h.nox, q⟩
theorem Fun.binds {x qual : Str} {st : Stmt} {f : Addr} {fd : FuncData} {ps : List Str} (F : Fun K x qual st f fd)
  (h : ∀ (kV doc pm : Value) (an : Option Addr) (cdv ct : Value) (us : List Value), us.length = ps.length → bindArgs (PySem.W.fnOf x qual (z3w st) (z1n st) (ze st) .none kV doc pm an cdv ct) ⟨us, []⟩ = pure (ps.zip us)) : Binds K fd ps [] := by
 obtain ⟨oc, od, kV, doc, pm, an, cdv, ct, osl, rfl, lk, hcd⟩ := F.ex
 exact .all (h kV doc pm an cdv ct)
theorem fun_mk {x qual : Str} {st : Stmt} {f : Addr} {oc : Value} {od an : Option Addr} {osl : Array (Option Value)} {kV doc pm cdv ct : Value} (l : K.lookup f = some ⟨oc, od, .func (PySem.W.fnOf x qual (z3w st) (z1n st) (ze st) .none kV doc pm an cdv ct), osl⟩)
  (c : PySem.W.codeIn K cdv qual = true) (k : PySem.W.keepIn K (.ref f) = true) : Fun K x qual st f (PySem.W.fnOf x qual (z3w st) (z1n st) (ze st) .none kV doc pm an cdv ct) := ⟨⟨oc, od, kV, doc, pm, an, cdv, ct, osl, rfl, l, c⟩, k⟩
end
theorem z4q {A : Around} {k : Nat} (hr : Room k A) : A.units + 1 < cLine := Nat.lt_of_le_of_lt (Nat.add_le_add_left (by decide : 1 ≤ 64) _) hr.units
theorem z3f {n : Nat} (h : n ≤ 1000) : n < sizeLine := Nat.lt_of_le_of_lt h (by decide)
section
variable {X : Cx}
theorem pv (i : Nat) {x : Str} {pos : Pos} (hN : X.N[i]? = some x := by rfl) (hv : Vis X.env.scope x := by first | exact Or.inl rfl | exact Or.inr (Or.inl rfl) | exact Or.inr (Or.inr rfl)) (hd : (x == ("__debug__" : Str)) = false := by decide)
  (hcd : (x == ("__classdict__" : Str)) = false := by decide) : PE X (.Name x pos) (tVar i) := zd5 hN hv hd hcd
end
theorem ite2 {c A B : Prop} [Decidable c] (h1 : c → A) (h2 : ¬ c → B) : if c then A else B := by
 by_cases h : c
 ·rw [if_pos h]
  exact h1 h
 ·rw [if_neg h]
  exact h2 h
def Same (H H' : Hp) : Prop := ∀ b o, H b = some o → H' b = some o
theorem Same.refl (H : Hp) : Same H H := fun _ _ h => h
theorem Same.trans {H H1 H2 : Hp} (a : Same H H1) (b : Same H1 H2) : Same H H2 := fun c o h => b c o (a c o h)
theorem Same.free {H H' : Hp} (e : Same H H') {l : Addr} (h : H' l = Option.none) : H l = Option.none := by
 cases q : H l with
 | none => rfl
 | some o =>
  rw [e l o q] at h
  cases h
theorem Same.seq {K : PySem.W.Frag} {H H' : Hp} {a : Addr} {xs : List V} (e : Same H H') (h : SqL K H a xs) : SqL K H' a xs := by
 rcases h with (h | ⟨o, h⟩) | h
 ·exact .inl (.inl (e _ _ h))
 ·exact .inl (.inr ⟨o, e _ _ h⟩)
 ·exact .inr h
end L2
end
section
namespace L2
open PySem PySem.Spec PyProof.Rows
def Its (z : Str) : It := ⟨fun i _ => i < z.cps.size, fun i H x H' => H' = H ∧ ∃ c, z.cps[i]? = some c ∧ x = .str ⟨#[c]⟩, fun i _ => z.cps.size ≤ i⟩
theorem z9i {P : Program} {w : World} {K : PySem.W.Frag} {tg : Expr} (it : Addr) (z : Str) (t : Tok) : Turn P w K tg (Its z) [it] it (fun i h => h.IsStrIter it "str_ascii_iterator" z t i) where
 mem := by simp
 obj := fun i h st b hb => by
  have e : b = it := by simpa using hb
  subst e
  obtain ⟨o, e, c, d⟩ := st
  exact ⟨o, e, fun v q => by rw [d] at q; cases q⟩
 keep := fun i h h' st k => by
  obtain ⟨o, e, r⟩ := st
  exact ⟨o, k it (by simp) o e, r⟩
 item := by
  intro X hP hw hK hc i pins s σ H E I hf st hg
  subst hP hw hK
  obtain ⟨f0, f1, f2, f3, f4, f5⟩ := hf it (by simp)
  have hg : i < z.cps.size := hg
  refine wpAny_pyNext_ascii_item st (c := z.cps[i]) (by simp [hg]) fun h' st' sb => ?_
  have I1 : Inv X pins σ H { s with heap := h', toks := s.toks + 1 } := I.turned (fun b o hb e => (sb.2 b hb).trans e) f0 f1 f3 f4 f5
  obtain ⟨o, e, c, d⟩ := id st'
  exact ⟨_, rfl, z7a (s := { s with heap := h', toks := s.toks + 1 }) e c d (by decide) ⟨.str ⟨#[z.cps[i]]⟩, H, I1, ⟨_, rfl⟩, ⟨rfl, _, by simp [hg], rfl⟩, st', fun b hb => (hf b hb).1⟩⟩
 done := by
  intro X hP hw hK hc i pins s σ H E I hf st hg
  subst hP hw hK
  obtain ⟨f0, f1, f2, f3, f4, f5⟩ := hf it (by simp)
  have hg : z.cps.size ≤ i := hg
  exact wpAny_pyNext_ascii_end (I.ok.hd hc) st (by simp [hg]) fun h' eb => ⟨rfl, I.turned (t' := s.toks) (fun b o hb e => eb b o hb e) f0 f1 f3 f4 f5⟩
 self := fun _ _ _ _ _ st h => wpAny_pyIter_striter_ascii st h
theorem zah {P : Program} {w : World} {K : PySem.W.Frag} {tg : Expr} (it : Addr) (z : Str) (t : Tok) : Turn P w K tg (Its z) [it] it (fun i h => h.IsStrIter it "str_iterator" z t i) where
 mem := by simp
 obj := fun i h st b hb => by
  have e : b = it := by simpa using hb
  subst e
  obtain ⟨o, e, c, d⟩ := st
  exact ⟨o, e, fun v q => by rw [d] at q; cases q⟩
 keep := fun i h h' st k => by
  obtain ⟨o, e, r⟩ := st
  exact ⟨o, k it (by simp) o e, r⟩
 item := by
  intro X hP hw hK hc i pins s σ H E I hf st hg
  subst hP hw hK
  obtain ⟨f0, f1, f2, f3, f4, f5⟩ := hf it (by simp)
  have hg : i < z.cps.size := hg
  refine wpAny_pyNext_wide_item st (c := z.cps[i]) (by simp [hg]) fun h' st' sb => ?_
  have I1 : Inv X pins σ H { s with heap := h', toks := s.toks + 1 } := I.turned (fun b o hb e => (sb.2 b hb).trans e) f0 f1 f3 f4 f5
  obtain ⟨o, e, c, d⟩ := id st'
  exact ⟨_, rfl, z7a (s := { s with heap := h', toks := s.toks + 1 }) e c d (by decide) ⟨.str ⟨#[z.cps[i]]⟩, H, I1, ⟨_, rfl⟩, ⟨rfl, _, by simp [hg], rfl⟩, st', fun b hb => (hf b hb).1⟩⟩
 done := by
  intro X hP hw hK hc i pins s σ H E I hf st hg
  subst hP hw hK
  obtain ⟨f0, f1, f2, f3, f4, f5⟩ := hf it (by simp)
  have hg : z.cps.size ≤ i := hg
  exact wpAny_pyNext_wide_end (I.ok.hd hc) st (by simp [hg]) fun h' eb => ⟨rfl, I.turned (t' := s.toks) (fun b o hb e => eb b o hb e) f0 f1 f3 f4 f5⟩
 self := fun _ _ _ _ _ st h => wpAny_pyIter_striter_wide st h
section
variable {X : Cx} {tg : Expr}
def iStr (tl : TE) : TI := fun σ H R => tl σ H fun x H1 => ∃ z, x = .str z ∧ R (Its z) H1
theorem zai {l : Expr} {tl : TE} (hl : PE X l tl) : PI X tg l (iStr tl) := by
 intro pins s σ H R I h
 refine thn (hl pins s σ H _ I h) fun v s1 ⟨x, H1, I1, r1, q1⟩ => ?_
 obtain ⟨z, e, q⟩ := q1
 subst e
 obtain ⟨t, rfl⟩ := r1
 cases ha : z.cps.all (· < 128)
 ·refine wpAny_pyIter_wide ha ?_
  refine ⟨s1.heap.objs.size, [s1.heap.objs.size], _, _, H1, rfl, I1.kept (t' := s1.toks) fun b o e => Heap.get?_push_of_some _ e, zah _ z t, ⟨_, Heap.get?_push_size _ rfl, rfl, rfl⟩, fun b hb => ?_, q⟩
  have e : b = s1.heap.objs.size := by simpa using hb
  subst e
  exact I1.fpOk (Nat.le_refl _) (I1.hok.fresh (Nat.le_refl _))
 ·refine wpAny_pyIter_ascii ha ?_
  refine ⟨s1.heap.objs.size, [s1.heap.objs.size], _, _, H1, rfl, I1.kept (t' := s1.toks) fun b o e => Heap.get?_push_of_some _ e, z9i _ z t, ⟨_, Heap.get?_push_size _ rfl, rfl, rfl⟩, fun b hb => ?_, q⟩
  have e : b = s1.heap.objs.size := by simpa using hb
  subst e
  exact I1.fpOk (Nat.le_refl _) (I1.hok.fresh (Nat.le_refl _))
end
theorem zco {z : Str} {g : TG} {tb : TS} {D : Ends} {σ : St} {H : Hp} (Pv : Nat → St → Hp → Prop) (h0 : Pv 0 σ H)
  (hs : ∀ i c σ H, z.cps[i]? = some c → Pv i σ H → g (.str ⟨#[c]⟩) σ H fun σ2 H2 => tb { D with nx := Pv (i + 1), ct := Pv (i + 1), bk := D.nx } σ2 H2) (hd : ∀ σ H, Pv z.cps.size σ H → D.nx σ H) :
  ∃ W : Nat → Nat → St → Hp → Prop, (∃ m, W 0 m σ H) ∧ ∀ i m σ H, W i m σ H →
   ((Its z).stop i H ∧ D.nx σ H) ∨ ((Its z).go i H ∧ ∃ N : St → Hp → Prop, (∀ σ' H', N σ' H' → ∃ m', m' < m ∧ W (i + 1) m' σ' H') ∧ ∀ x H', (Its z).yld i H x H' → g x σ H' fun σ2 H2 => tb { D with nx := N, ct := N, bk := D.nx } σ2 H2) := by
 refine ⟨fun i m σ H => m = z.cps.size - i ∧ i ≤ z.cps.size ∧ Pv i σ H, ⟨z.cps.size, by simp, Nat.zero_le _, h0⟩, ?_⟩
 rintro i m σ H ⟨rfl, hi, p⟩
 by_cases hlt : i < z.cps.size
 ·refine .inr ⟨hlt, Pv (i + 1), fun σ' H' p' => ⟨z.cps.size - (i + 1), by omega, rfl, hlt, p'⟩, fun x H' y => ?_⟩
  obtain ⟨e, c, hc, y⟩ := y
  subst e y
  exact hs i c σ _ hc p
 ·have e : i = z.cps.size := by omega
  subst e
  exact .inl ⟨Nat.le_refl _, hd σ H p⟩
def z1s (env : Env) : List (Str × NameKind) → List (Str × Addr) → List (Str × Addr)
 | [], cs => cs
 | (n, k) :: r, cs => z1s env r (if k == .free then (n, (env.cells.lookup n).getD 0) :: cs else cs)
theorem z5p {sc : Scope} {env : Env} (h : ∀ y ∈ sc.names, y.2 = .free → ∃ c, env.cells.lookup y.1 = some c) : closureFor sc env = pure (z1s env sc.names []) := by
 have go : ∀ (names : List (Str × NameKind)) (cs : List (Str × Addr)), (∀ y ∈ names, y.2 = .free → ∃ c, env.cells.lookup y.1 = some c) →
   (forIn names cs fun (x : Str × NameKind) (r : List (Str × Addr)) => (if (x.2 == .free) = true then (do let a ← cellOf env x.1; pure (ForInStep.yield ((x.1, a) :: r))) else pure (ForInStep.yield r) : Sem (ForInStep (List (Str × Addr))))) = (pure (z1s env names cs) : Sem (List (Str × Addr))) := by
  intro names
  induction names with
  | nil => intro cs _; rfl
  | cons y r ih =>
   intro cs hy
   obtain ⟨n, k⟩ := y
   rw [List.forIn_cons]
   have hr : ∀ z ∈ r, z.2 = .free → ∃ c, env.cells.lookup z.1 = some c := fun z hz => hy z (List.mem_cons_of_mem _ hz)
   by_cases hk : k = .free
   ·subst hk
    obtain ⟨c, hc⟩ := hy (n, .free) List.mem_cons_self rfl
    have hc' : env.cells.lookup n = some c := hc
    simp only [beq_self_eq_true, if_true, z1s, hc', Option.getD_some, cellOf]
    exact ih ((n, c) :: cs) hr
   ·have hb : (k == NameKind.free) = false := by simpa using hk
    simp only [hb, Bool.false_eq_true, if_false, z1s]
    exact ih cs hr
 unfold closureFor
 show (forIn sc.names [] (fun (x : Str × NameKind) (r : List (Str × Addr)) => (if (x.2 == .free) = true then (do let a ← cellOf env x.1; pure (ForInStep.yield ((x.1, a) :: r))) else pure (ForInStep.yield r) : Sem (ForInStep (List (Str × Addr))))) >>= fun cs => pure cs) = _
 rw [go sc.names [] h]
 rfl
theorem z5q {env : Env} : ∀ {names : List (Str × NameKind)} {cs : List (Str × Addr)} {x : Str} {c : Addr}, (∀ y ∈ names, y.2 = .free → ∃ c, env.cells.lookup y.1 = some c) → (∀ y d, cs.lookup y = some d → env.cells.lookup y = some d) →
  (z1s env names cs).lookup x = some c → env.cells.lookup x = some c
 | [], cs, x, c, _, hcs, h => hcs x c h
 | (n, k) :: r, cs, x, c, hy, hcs, h => by
  refine z5q (names := r) (fun z hz => hy z (List.mem_cons_of_mem _ hz)) ?_ h
  intro y d e
  by_cases hk : (k == NameKind.free) = true
  ·rw [if_pos hk, List.lookup_cons] at e
   obtain ⟨c', hc'⟩ := hy (n, k) List.mem_cons_self (by simpa using hk)
   have hc' : env.cells.lookup n = some c' := hc'
   cases hyn : y == n with
   | true =>
    rw [hyn] at e
    have : y = n := by simpa using hyn
    subst this
    simp only [hc', Option.getD_some] at e
    rw [hc']; exact e
   | false =>
    rw [hyn] at e
    exact hcs y d e
  ·rw [if_neg hk] at e
   exact hcs y d e
theorem z50 {env : Env} : ∀ {names : List (Str × NameKind)} {cs : List (Str × Addr)} {x : Str}, (∃ c, cs.lookup x = some c) → ∃ c, (z1s env names cs).lookup x = some c
 | [], cs, x, h => h
 | (n, k) :: r, cs, x, h => by
  refine z50 (names := r) ?_
  split
  ·rw [List.lookup_cons]
   cases hxn : x == n with
   | true => exact ⟨_, rfl⟩
   | false => exact h
  ·exact h
theorem z41 {env : Env} : ∀ {names : List (Str × NameKind)} {cs : List (Str × Addr)} {x : Str}, (x, NameKind.free) ∈ names → ∃ c, (z1s env names cs).lookup x = some c
 | [], _, _, h => by simp at h
 | (n, k) :: r, cs, x, h => by
  rcases List.mem_cons.mp h with e | h
  ·cases e
   refine z50 (names := r) ?_
   rw [if_pos (by rfl), List.lookup_cons]
   rw [show (n == n) = true by simp]
   exact ⟨_, rfl⟩
  ·exact z41 (names := r) h
theorem z51 {env : Env} {sc : Scope} {x : Str} {k : NameKind} (h : (relabel sc env).names.lookup x = some k) (hk : k = .cell ∨ k = .free) (hc : ∀ y ∈ sc.names, y.2 ≠ .cell) : (x, NameKind.free) ∈ sc.names := by
 have hm := PySem.mem_of_lookup h
 unfold relabel at hm
 obtain ⟨⟨n, k'⟩, hn, e⟩ := List.mem_map.mp hm
 by_cases hf : (k' == NameKind.free && env.scope.kind == .function && env.kindOf n == some .cell) = true
 ·have e' : (n, NameKind.cell) = (x, k) := by
   have := e
   simp only [hf, if_true] at this
   exact this
  injection e' with e1 e2
  subst e1
  have hk' : k' = .free := by
   rw [Bool.and_eq_true, Bool.and_eq_true] at hf
   simpa using hf.1.1
  rw [hk'] at hn
  exact hn
 ·have e' : (n, k') = (x, k) := by
   have := e
   simp only [hf, if_false] at this
   exact this
  injection e' with e1 e2
  subst e1 e2
  rcases hk with z | z
  ·exact absurd z (hc _ hn)
  ·rw [z] at hn; exact hn
abbrev z15 (X : Cx) (sc : Scope) (N : List Str) (s : Shared) (H : Hp) (C : Addr) (fp : List Addr) : Cx :=
 { X with N := N, s₀ := s, H₀ := H, env := compEnvC sc (z1s X.env sc.names []) C X.env, outer := X.stack, stack := X.stack, ex := fp, fn := fun _ => false, pn := [], xe := fun _ _ => False }
def CapOk (X : Cx) (sc : Scope) : List Str → List Nat → Prop
 | [], [] => True
 | y :: r, j :: js => (X.N[j]? = some y ∧ (X.env.kindOf y = some .cell ∨ X.env.kindOf y = some .free) ∧ sc.names.lookup y = some .free) ∧ CapOk X sc r js
 | _, _ => False
theorem CapOk.len {X : Cx} {sc : Scope} : ∀ {cap : List Str} {js : List Nat}, CapOk X sc cap js → cap.length = js.length
 | [], [], _ => rfl
 | _ :: _, _ :: _, h => congrArg (· + 1) (CapOk.len h.2)
 | [], _ :: _, h => h.elim
 | _ :: _, [], h => h.elim
theorem CapOk.get {X : Cx} {sc : Scope} : ∀ {cap : List Str} {js : List Nat} {i : Nat} {y : Str}, CapOk X sc cap js → cap[i]? = some y → ∃ j, js[i]? = some j ∧ X.N[j]? = some y ∧ (X.env.kindOf y = some .cell ∨ X.env.kindOf y = some .free) ∧ sc.names.lookup y = some .free
 | [], [], _, _, _, e => by simp at e
 | y :: _, j :: _, 0, _, h, e => by
  simp at e; subst e
  exact ⟨j, rfl, h.1⟩
 | _ :: r, _ :: js, i + 1, y, h, e => by
  obtain ⟨j, e1, e2⟩ := CapOk.get (i := i) h.2 (by simpa using e)
  exact ⟨j, by simpa using e1, e2⟩
 | [], _ :: _, _, _, h, _ => h.elim
 | _ :: _, [], _, _, h, _ => h.elim
def capt (σ : St) (js : List Nat) : St := js.map fun j => (σ[j]?).join
structure CompScope (X : Cx) (sc : Scope) (x : Str) (cap : List Str) (js : List Nat) : Prop where
 kind : sc.kind = .function
 nocell : ∀ y ∈ sc.names, y.2 ≠ .cell
 names : ∀ y ∈ sc.names, y.2 = .local → sc.names.lookup y.1 = some .local
 own : sc.names.lookup x = some .local
 free : ∀ y ∈ sc.names, y.2 = .free → X.env.kindOf y.1 = some .cell ∨ X.env.kindOf y.1 = some .free
 nd : (x :: cap).Nodup
 caps : CapOk X sc cap js
section
variable {X : Cx} {sc : Scope} {x : Str} {cap : List Str} {js : List Nat} {pins : List (Addr × Obj)} {σ : St} {H : Hp} {s : Shared}
theorem CompScope.cells (S : CompScope X sc x cap js) (I : Inv X pins σ H s) : ∀ y ∈ sc.names, y.2 = .free → ∃ c, X.env.cells.lookup y.1 = some c := fun y hy hf => I.ok.has y.1 (S.free y hy hf)
theorem CompScope.sub (S : CompScope X sc x cap js) (I : Inv X pins σ H s) {y : Str} {c : Addr} (h : (z1s X.env sc.names []).lookup y = some c) : X.env.cells.lookup y = some c :=
 z5q (S.cells I) (fun _ _ e => by simp at e) h
theorem z9j {s4 : Shared} {h4 : Heap} {t4 : Nat} {fp : List Addr} {C : Addr} {v : Option V} {m : Str → Option Value} (S : CompScope X sc x cap js) (I : Inv X pins σ H s) (hfp : ∀ b ∈ fp, FpOk X pins H b) (hlt : ∀ b ∈ fp, b < s.heap.objs.size)
  (hC : s.heap.objs.size ≤ C) (hn : h4.Ns C m) (k : ∀ b o, s.heap.get? b = some o → h4.get? b = some o) :
  Inv (z15 X sc (x :: cap) s H C fp) [] (none :: capt σ js) H { s with heap := h4, toks := t4 } := by
 have nf : ∀ b ∈ frs X.stack, b < s.heap.objs.size := fun b hb => by
  obtain ⟨_, o, ho, _⟩ := I.stack.mem hb
  exact Heap.lt_size ho
 refine ⟨⟨I.ok.mod, S.kind, I.ok.glob, I.ok.blt, hC, fun y z c h1 h2 => I.ok.inj y z c (S.sub I h1) (S.sub I h2), fun y hy => ?_, fun y c h => absurd h Bool.false_ne_true, I.ok.hd, I.ok.frames, .inl rfl, fun b hb => ⟨Nat.ne_of_lt (Nat.lt_of_lt_of_le (hlt b hb) hC), fun y c e => (hfp b hb).2.2.2.2.1 y c (S.sub I e)⟩, I.bs,
   Nat.le_trans I.ok.bsz I.sz, fun b o e hb => ?_, fun b hb z => ?_, I.stack, I.stkFree⟩, rfl, I.bare, Un.kept k, ⟨m, hn, fun i y v' h1 h2 h3 => ?_⟩, fun y c e => ?_, I.hok.fresh hC, fun y c e => I.freeC y c (S.sub I e), fun p hp => absurd (show p ∈ ([] : List (Addr × Obj)) from hp) (by simp), I.hok.kept k, ?_⟩
 ·exact z41 (by
   rcases hy with z | z
   ·exact z51 z (.inl rfl) S.nocell
   ·exact z51 z (.inr rfl) S.nocell)
 ·rcases (hfp b hb).2.2.2.1 with z | z
  ·exact I.ok.noex b o e z
  ·exact absurd (Nat.lt_of_lt_of_le (Heap.lt_size e) (Nat.le_trans I.ok.bsz z)) (Nat.lt_irrefl _)
 ·rcases List.mem_cons.mp (I.stkSub b z) with q | q
  ·exact (hfp b hb).2.1 q
  ·exact (hfp b hb).2.2.1 q
 ·cases i with
  | zero => exact absurd (show (none : Option V) = some v' from Option.some.inj h2) (by simp)
  | succ i =>
   have e1 : cap[i]? = some y := by simpa using h1
   obtain ⟨j, q1, q2, q3, q4⟩ := S.caps.get e1
   have e2 : (capt σ js)[i]? = some (some v') := by simpa using h2
   have e3 : σ[j]? = some (some v') := by
    unfold capt at e2
    rw [List.getElem?_map, q1, Option.map_some] at e2
    have e4 : (σ[j]?).join = some v' := Option.some.inj e2
    cases q : σ[j]? with
    | none => rw [q] at e4; cases e4
    | some w => rw [q] at e4; exact congrArg some e4
   have vis : Vis X.env.scope y := by
    rcases q3 with q3 | q3
    ·exact .inr (.inl q3)
    ·exact .inr (.inr q3)
   obtain ⟨mX, hnX, hl⟩ := I.loc
   obtain ⟨u, ru, lk⟩ := hl j y v' q2 e3 vis
   refine ⟨u, ru, .inr ?_⟩
   rcases lk with ⟨hk, _⟩ | ⟨hk, c, hc, hcell⟩
   ·rcases q3 with q3 | q3
    ·rw [q3] at hk; cases hk
    ·rw [q3] at hk; cases hk
   ·obtain ⟨c', hc'⟩ := z41 (env := X.env) (cs := []) (PySem.mem_of_lookup q4)
    have := S.sub I hc'
    rw [hc] at this
    cases this
    obtain ⟨o, ho, hd⟩ := hcell
    refine ⟨?_, c, hc', ⟨o, k c o ho, hd⟩⟩
    rcases h3 with z | z | z
    ·exfalso
     have hz := PySem.mem_of_lookup z
     obtain ⟨⟨n, k'⟩, hn', en⟩ := List.mem_map.mp hz
     by_cases hf : (k' == NameKind.free && X.env.scope.kind == .function && X.env.kindOf n == some .cell) = true
     ·simp only [hf, if_true] at en
      cases en
     ·simp only [hf, if_false] at en
      cases en
      have := S.names _ hn' rfl
      rw [q4] at this
      cases this
    ·exact .inl z
    ·exact .inr z
 ·obtain ⟨v', o, ho, hd⟩ := I.cell y c (S.sub I e)
  exact ⟨v', o, k c o ho, hd⟩
 ·show (none :: capt σ js).length = (x :: cap).length
  unfold capt
  rw [List.length_cons, List.length_cons, List.length_map, S.caps.len]
theorem z7m {sB : Shared} {hB : Heap} {fp : List Addr} {C D : Addr} {HB : Hp} {σB : St} {pinsB : List (Addr × Obj)} {acc : List V} {its : List Value} {n : Nat}
  (I : Inv X pins σ H s) (hfp : ∀ b ∈ fp, FpOk X pins H b) (IB : Inv (z15 X sc (x :: cap) s H C fp) pinsB σB HB sB) (hC : s.heap.objs.size ≤ C) (hD : s.heap.objs.size ≤ D) (hDC : D ≠ C) (hHD : HB D = none)
  (hd : sB.heap.get? D = some { cls := .type "list", data := .seq its.toArray n }) (rv : Vals acc its) (hz : acc.length ≤ sizeLine) (sb : ∀ b o, b ≠ C → sB.heap.get? b = some o → hB.get? b = some o) :
  Inv X pins σ (upd HB D (.lst acc)) { sB with heap := hB } := by
 have u := IB.base
 have hdB := sb D _ hDC hd
 have ltD : ∀ b o, s.heap.get? b = some o → b ≠ D := fun b o e => Nat.ne_of_lt (Nat.lt_of_lt_of_le (Heap.lt_size e) hD)
 have ltC : ∀ b o, s.heap.get? b = some o → b ≠ C := fun b o e => Nat.ne_of_lt (Nat.lt_of_lt_of_le (Heap.lt_size e) hC)
 refine I.call' (ch := fp) IB.os ⟨fun b o e n hb hx => sb b o (ltC b o e) (u.keep b o e n hb hx), fun b o e n hb hx => ?_, fun b o e n hx => by rw [zc (ltD b o e)]; exact u.free b o e n hx, fun b o e hx => ?_,
  fun b xs e => by rw [zc (zi (u.tups b xs e) hHD)]; exact u.tups b xs e, fun b o xs e => by rw [zc (zi (u.frzs b o xs e) hHD)]; exact u.frzs b o xs e, fun b ps e => ?_⟩ ?_ IB.bare fun b hb => ?_
 ·obtain ⟨sl, q⟩ := u.slot b o e n hb hx
  exact ⟨sl, sb b _ (ltC b o e) q⟩
 ·obtain ⟨o', q⟩ := u.there b o e hx
  exact ⟨o', sb b _ (ltC b o e) q⟩
 ·obtain ⟨m1, q⟩ := u.tbls b ps e
  exact ⟨m1, by rw [zc (zi q hHD)]; exact q⟩
 ·intro a o e
  by_cases ha : a = D
  ·subst ha
   rw [z7] at e
   cases e
   exact ⟨hz, its, n, rv, hdB⟩
  ·rw [zc ha] at e
   refine (IB.hok a o e).stay (fun b w' hb q => sb b w' (fun z => ?_) q) (fun b q => by rw [zc (zi q hHD)]; exact q) fun b xs q => by rw [zc (zi q hHD)]; exact q
   have fC : HB C = none := IB.free
   rcases hb with hb | hb
   ·rw [z] at hb; rw [← hb, fC] at e; cases e
   ·rw [z, fC] at hb; cases hb
 ·obtain ⟨f0, f1, f2, f3, f4, f5⟩ := hfp b hb
  exact ⟨f3, f1, f4, f5⟩
end
end L2
end
section
namespace L2
open PySem PySem.Spec PyProof.Rows
def PIf (X : Cx) (ifs : List Expr) (t : TT) : Prop :=
 ∀ (pins : List (Addr × Obj)) (s : Shared) (σ : St) (H : Hp) (Q : Bool → Hp → Prop), Inv X pins σ H s → t σ H Q →
  wpAny (model X.prog X.w) X.A (forIn ifs true fun c r => if r = true then do let ok ← isTrue c X.env (eval c X.env); pure (ForInStep.yield ok) else pure (ForInStep.yield r)) (TP X pins σ Q) X.xe s
def tYes : TT := fun _ H Q => Q true H
theorem z14 {X : Cx} : PIf X [] tYes := fun _ _ _ H _ I h => wpAny_pure ⟨H, I, h⟩
def z1x (J : It) (tc : TT) (te : TE) (js : List Nat) (σ : St) (H1 : Hp) (Q : VK) : Prop :=
 ∃ W : Nat → Nat → List V → Hp → Prop, (∃ m, W 0 m [] H1) ∧ ∀ i m acc H, W i m acc H →
  (J.stop i H ∧ ∀ p, H p = none → Q (.ref p) (upd H p (.lst acc))) ∨
  (J.go i H ∧ acc.length < sizeLine ∧ ∀ x H', J.yld i H x H' → tc (some x :: capt σ js) H' fun b H2 =>
   if b = true then te (some x :: capt σ js) H2 fun v H3 => ∃ m', m' < m ∧ W (i + 1) m' (acc ++ [v]) H3 else ∃ m', m' < m ∧ W (i + 1) m' acc H2)
def z9k (wi : TI) (tc : TT) (te : TE) (js : List Nat) : TE := fun σ H Q => wi σ H fun J H1 => z1x J tc te js σ H1 Q
theorem z8d {prog : Program} {w : World} {A : Around} {R : Result → Shared → Prop} {s : Shared} {elt target iter : Expr} {ifs : List Expr} {scope : Scope} {pos : Pos} {it acc : Value} {env : Env} (I : Nat → Shared → Prop)
  (turn : ∀ n s, I n s → wpAny (model prog w) A (pyNext it) (fun r s₁ => match r with
   | none => R (.ok .next) s₁
   | some v => wpAny (model prog w) A (letOwnedTupleGo target it v) (fun _ s₀ => wpAny (model prog w) A (assign target env v) (fun _ s₂ =>
     wpAny (model prog w) A (forIn ifs true fun c r => if r = true then do let ok ← isTrue c env (eval c env); pure (ForInStep.yield ok) else pure (ForInStep.yield r)) (fun ok s₃ =>
      if ok = true then wpAny (model prog w) A (eval elt env) (fun x s₄ =>
       wpAny (model prog w) A (call (.builtin "list.append") [acc, x]) (fun _ s₅ => ∃ m, m < n ∧ I m s₅) (fun _ _ => False) s₄) (fun _ _ => False) s₃
      else ∃ m, m < n ∧ I m s₃) (fun _ _ => False) s₂) (fun _ _ => False) s₀) (fun _ _ => False) s₁) (fun _ _ => False) s)
  (n : Nat) (h : I n s) :
  codeAny (model prog w) A (.compLoop (.ListComp elt [⟨target, iter, ifs, 0⟩] scope pos) 0 it acc env) R s := by
 refine codeAny_loop rfl I (fun n s hI => ?_) n h
 show wpAny _ A ((compTurn (.ListComp elt [⟨target, iter, ifs, 0⟩] scope pos) 0 it acc env).onRaise (fun x => do noteFrame x env; theTreesLotGoes x)) _ _ s
 refine wpAny_noted (wpAny_mono (E := fun _ _ => False) ?_ (fun _ _ q => q) fun _ _ z => z.elim)
 rw [compTurn_list]
 refine wpAny_bind (wpAny_standAt (wpAny_bind (wpAny_mono (turn n s hI) (fun r s₁ h₁ => ?_) fun _ _ h' => h')))
 cases r with
 | none => exact wpAny_pure h₁
 | some v =>
  refine wpAny_bind (wpAny_mono h₁ (fun _ s₀ h₀ => ?_) fun _ _ h' => h')
  refine wpAny_bind (wpAny_mono h₀ (fun _ s₂ h₂ => wpAny_bind (wpAny_mono h₂ (fun ok s₃ h₃ => ?_) fun _ _ h' => h')) fun _ _ h' => h')
  cases ok with
  | false => exact wpAny_pure ⟨rfl, h₃⟩
  | true =>
   exact wpAny_bind (wpAny_bind (wpAny_mono h₃ (fun x s₄ h₄ => wpAny_bind (wpAny_mono h₄ (fun _ s₅ h₅ => wpAny_pure (wpAny_pure ⟨rfl, h₅⟩)) fun _ _ h' => h')) fun _ _ h' => h'))
section
variable {X : Cx} {sc : Scope} {x : Str} {cap : List Str} {js : List Nat} {pins : List (Addr × Obj)} {σ : St} {H : Hp} {s : Shared} {elt iter : Expr} {ifs : List Expr} {px pos : Pos} {tc : TT} {te : TE}
theorem z5r {J : It} {it : Addr} {fp : List Addr} {tn : Nat → Heap → Prop} {Q : VK} {E : Value → Shared → Prop} {RR : Value → Addr → Result → Shared → Prop} (S : CompScope X sc x cap js) (hcalm : X.calm = true)
  (hc : ∀ s H C fp, PIf (z15 X sc (x :: cap) s H C fp) ifs tc) (he : ∀ s H C fp, PE (z15 X sc (x :: cap) s H C fp) elt te)
  (I : Inv X pins σ H s) (T : Turn X.prog X.w X.K (.Name x px) J fp it tn) (st : tn 0 s.heap) (hfp : ∀ b ∈ fp, FpOk X pins H b) (go : z1x J tc te js σ H Q)
  (hRR : ∀ D C HB sB σB acc its n, s.heap.objs.size ≤ D → s.heap.objs.size ≤ C → D ≠ C → Inv (z15 X sc (x :: cap) s H C fp) [] σB HB sB → HB D = none → sB.heap.get? D = some { cls := .type "list", data := .seq (its : List Value).toArray n } → Vals acc its → acc.length ≤ sizeLine →
   (∀ p, HB p = none → Q (.ref p) (upd HB p (.lst acc))) → RR (.ref D) C (.ok .next) sB) :
  wpAny (model X.prog X.w) X.A (newList []) (fun acc s₃ => wpAny (model X.prog X.w) X.A (newFunctionEnv sc X.env.globals (z1s X.env sc.names []) [] X.env.qual none .none (some X.env)) (fun cenv s₄ =>
   codeAny (model X.prog X.w) X.A (.compStart (.ListComp elt [⟨.Name x px, iter, ifs, 0⟩] sc pos) 0 (.ref it) acc { cenv with scope := relabel sc X.env }) (RR acc cenv.locals) s₄) E s₃) E s := by
 refine wpAny_newObj_type (wpAny_newFunctionEnv S.nocell (by intro y hy; simp at hy) (fun h₁ hns₁ hsb₁ => ?_) S.kind)
 dsimp only at hns₁ hsb₁ ⊢
 generalize hH2 : s.heap.push { cls := .type "list", dict := none, data := .seq ([] : List Value).toArray } = H2 at hns₁ hsb₁ ⊢
 have hCs : H2.objs.size = s.heap.objs.size + 1 := by rw [← hH2, Heap.size_push]
 have hDC : s.heap.objs.size ≠ H2.objs.size := by rw [hCs]; exact Nat.ne_of_lt (Nat.lt_succ_self _)
 have hCle : s.heap.objs.size ≤ H2.objs.size := by rw [hCs]; exact Nat.le_succ _
 have below : ∀ b, b < s.heap.objs.size → b ≠ H2.objs.size := fun b hb => by rw [hCs]; exact Nat.ne_of_lt (Nat.lt_succ_of_lt hb)
 have old : ∀ b o, s.heap.get? b = some o → h₁.get? b = some o := fun b o e => hsb₁.extBut b o (below b (Heap.lt_size e)) (Heap.get?_push_of_some _ (hH2 ▸ Heap.get?_push_of_some _ e))
 have hacc : h₁.get? s.heap.objs.size = some { cls := .type "list", data := .seq ([] : List Value).toArray 0 } := hsb₁.extBut _ _ hDC (Heap.get?_push_of_some _ (hH2 ▸ Heap.get?_push_size _ rfl))
 have hlt : ∀ b ∈ fp, b < s.heap.objs.size := fun b hb => by
  obtain ⟨o, e, _⟩ := T.obj _ _ st b hb
  exact Heap.lt_size e
 have hlocal : (relabel sc X.env).names.lookup x = some .local := lookup_relabel_local S.own
 obtain ⟨W, ⟨m0, w0⟩, turn⟩ := go
 have nD : ∀ b ∈ fp, b ≠ s.heap.objs.size := fun b hb => Nat.ne_of_lt (hlt b hb)
 have nfs : s.heap.objs.size ∉ frs X.stack := fun z => by
  obtain ⟨_, o, ho, _⟩ := I.stack.mem z
  exact absurd (Heap.lt_size ho) (Nat.lt_irrefl _)
 have ncl : ∀ y c, (z1s X.env sc.names []).lookup y = some c → c ≠ s.heap.objs.size := fun y c e => by
  obtain ⟨v, o, ho, _⟩ := I.cell y c (S.sub I e)
  exact Nat.ne_of_lt (Heap.lt_size ho)
 have loop : ∀ s₃ : Shared, s₃ = { s with heap := h₁, toks := s.toks + ([] : List (Str × Value)).length } →
   codeAny (model X.prog X.w) X.A (.compLoop (.ListComp elt [⟨.Name x px, iter, ifs, 0⟩] sc pos) 0 (.ref it) (.ref s.heap.objs.size) (compEnvC sc (z1s X.env sc.names []) H2.objs.size X.env))
    (RR (.ref s.heap.objs.size) H2.objs.size) s₃ := by
  rintro s₃ rfl
  have I0 : Inv (z15 X sc (x :: cap) s H H2.objs.size fp) [] (none :: capt σ js) H { s with heap := h₁, toks := s.toks + ([] : List (Str × Value)).length } := z9j (v := none) S I hfp hlt hCle hns₁ old (s4 := s)
  refine z8d (fun n s' => ∃ i H' acc its k, Inv (z15 X sc (x :: cap) s H H2.objs.size fp) [] (none :: capt σ js) H' s' ∧ tn i s'.heap ∧ (∀ b ∈ fp, H' b = none) ∧ H' s.heap.objs.size = none ∧
    s'.heap.get? s.heap.objs.size = some { cls := .type "list", data := .seq (its : List Value).toArray k } ∧ Vals acc its ∧ acc.length ≤ sizeLine ∧ W i n acc H') ?_ m0
   ⟨0, H, [], [], 0, I0, T.keep _ _ _ st fun b _ o e => old b o e, fun b hb => (hfp b hb).1, I.hok.fresh (Nat.le_refl _), hacc, .nil, Nat.zero_le _, w0⟩
  rintro n s3 ⟨i, H3, acc, its, kk, I3, st3, fr3, fD3, d3, r3, z3, w3⟩
  have fpY : ∀ {H' : Hp} {pl : List (Addr × Obj)}, (∀ b ∈ fp, H' b = none) → (∀ p ∈ pl, p.1 = s.heap.objs.size) → ∀ b ∈ fp, FpOk (z15 X sc (x :: cap) s H H2.objs.size fp) pl H' b := fun {H' pl} hn hp b hb =>
   ⟨hn b hb, below b (hlt b hb), fun z => by
    rcases List.mem_cons.mp (I.stkSub b z) with q | q
    ·exact (hfp b hb).2.1 q
    ·exact (hfp b hb).2.2.1 q, .inl hb, fun y c e => (hfp b hb).2.2.2.2.1 y c (S.sub I e), fun p hp' => by
    rw [hp p hp']
    exact Ne.symm (nD b hb)⟩
  have pin3 : Inv (z15 X sc (x :: cap) s H H2.objs.size fp) [(s.heap.objs.size, { cls := .type "list", data := .seq its.toArray kk })] (none :: capt σ js) H3 s3 := I3.pins_of fun p hp => by
   have e : p = (s.heap.objs.size, { cls := .type "list", data := .seq its.toArray kk }) := by simpa using hp
   subst e
   exact ⟨d3, fD3, hDC, nfs, fun v z => by cases z⟩
  have onlyD : ∀ p ∈ [(s.heap.objs.size, ({ cls := .type "list", data := .seq its.toArray kk } : Obj))], p.1 = s.heap.objs.size := fun p hp => by
   have e : p = (s.heap.objs.size, { cls := .type "list", data := .seq its.toArray kk }) := by simpa using hp
   rw [e]
  rcases turn i n acc H3 w3 with ⟨stop, qn⟩ | ⟨gon, hlen, step⟩
  ·refine wpAny_mono (T.done (z15 X sc (x :: cap) s H H2.objs.size fp) rfl rfl rfl hcalm i _ s3 _ H3 (fun _ _ => False) pin3 (fpY fr3 onlyD) st3 stop) (fun r s4 hr => ?_) fun _ _ z => z.elim
   obtain ⟨hr, I4⟩ := hr
   subst hr
   have d4 := (I4.pin _ (List.mem_append_right _ List.mem_cons_self)).1
   exact hRR _ _ H3 s4 _ acc its kk (Nat.le_refl _) hCle hDC (I4.pins_of fun p hp => by simp at hp) fD3 d4 r3 z3 qn
  ·refine wpAny_mono (T.item (z15 X sc (x :: cap) s H H2.objs.size fp) rfl rfl rfl hcalm i _ s3 _ H3 (fun _ _ => False) pin3 (fpY fr3 onlyD) st3 gon) (fun r s4 hr => ?_) fun _ _ z => z.elim
   obtain ⟨u, hr, h4⟩ := hr
   subst hr
   dsimp only
   refine wpAny_mono h4 (fun _ s5 h5 => ?_) fun _ _ z => z.elim
   obtain ⟨xv, H5, I5, r5, y5, st5, fr5⟩ := h5
   have I5' := I5.pinned (fpY fr5 onlyD) (T.obj _ _ st5)
   refine wpAny_assign_Name (z2x (X := z15 X sc (x :: cap) s H H2.objs.size fp) I5' S.nd (i := 0) rfl (.inl hlocal) r5 (fun s6 I6 => ?_) (.inr hlocal))
   have I6' : Inv (z15 X sc (x :: cap) s H H2.objs.size fp) ([(s.heap.objs.size, { cls := .type "list", data := .seq its.toArray kk })] ++ z3s fp s5.heap) (some xv :: capt σ js) H5 s6 := I6
   refine wpAny_mono (hc s H H2.objs.size fp _ s6 _ H5 _ I6' (step xv H5 y5)) (fun b s7 q7 => ?_) fun _ _ z => z.elim
   obtain ⟨H7, I7, q7⟩ := q7
   have weak : ∀ {pl : List (Addr × Obj)} {HH : Hp} {ss : Shared}, Inv (z15 X sc (x :: cap) s H H2.objs.size fp) pl (some xv :: capt σ js) HH ss → Inv (z15 X sc (x :: cap) s H H2.objs.size fp) pl (none :: capt σ js) HH ss := fun J => J.weak rfl fun k v e => by
    cases k with
    | zero => exact absurd (Option.some.inj e) (by simp)
    | succ k => simpa using e
   have back : ∀ {HH : Hp} {ss : Shared}, Inv (z15 X sc (x :: cap) s H H2.objs.size fp) ([(s.heap.objs.size, { cls := .type "list", data := .seq its.toArray kk })] ++ z3s fp s5.heap) (some xv :: capt σ js) HH ss →
     tn (i + 1) ss.heap ∧ (∀ b ∈ fp, HH b = none) ∧ HH s.heap.objs.size = none ∧ ss.heap.get? s.heap.objs.size = some { cls := .type "list", data := .seq its.toArray kk } := fun {HH ss} K => by
    refine ⟨T.keep _ _ _ st5 fun b hb o e => (K.pin (b, o) (List.mem_append_right _ (List.mem_append_right _ (z2u hb e)))).1, fun b hb => ?_, ?_, ?_⟩
    ·obtain ⟨o, e, d⟩ := T.obj _ _ st5 b hb
     exact (K.pin (b, o) (List.mem_append_right _ (List.mem_append_right _ (z2u hb e)))).2.1
    ·exact (K.pin _ (List.mem_append_right _ (List.mem_append_left _ List.mem_cons_self))).2.1
    ·exact (K.pin _ (List.mem_append_right _ (List.mem_append_left _ List.mem_cons_self))).1
   cases b with
   | false =>
    rw [if_neg Bool.false_ne_true] at q7 ⊢
    obtain ⟨m', hm, w7⟩ := q7
    obtain ⟨b1, b2, b3, b4⟩ := back I7
    exact ⟨m', hm, i + 1, H7, acc, its, kk, (weak I7).pins_of fun p hp => by simp at hp, b1, b2, b3, b4, r3, z3, w7⟩
   | true =>
    rw [if_pos rfl] at q7 ⊢
    refine wpAny_mono (he s H H2.objs.size fp _ s7 _ H7 _ I7 q7) (fun u8 s8 q8 => ?_) fun _ _ z => z.elim
    obtain ⟨v8, H8, I8, r8, m', hm, w8⟩ := q8
    obtain ⟨b1, b2, b3, b4⟩ := back I8
    have hl3 := r3.length
    refine call_meets F.slot_list_append ⟨_, b4, rfl⟩ F.entry_list_append (F.args_list_append_2 _ _) (PySem.list_append s.heap.objs.size its.toArray kk u8 (by rw [List.size_toArray]; omega)) ⟨b4, ?_⟩
    have q := PySem.IsL.update b4 (·.push u8)
    obtain ⟨n', q'⟩ : ∃ n', (s8.heap.update s.heap.objs.size (Obj.mapSeq (·.push u8))).get? s.heap.objs.size = some { cls := .type "list", data := .seq (its ++ [u8]).toArray n' } := by
     rw [show (its ++ [u8]).toArray = its.toArray.push u8 by simp]
     exact ⟨_, q⟩
    refine ⟨m', hm, i + 1, H8, acc ++ [v8], its ++ [u8], _, ?_, T.keep _ _ _ b1 fun b hb o e => (Heap.get?_update_other s8.heap _ (Ne.symm (nD b hb))).trans e, b2, b3, q', r3.append (.cons r8 .nil), by rw [List.length_append, List.length_singleton]; omega, w8⟩
    exact Inv.turned (X := z15 X sc (x :: cap) s H H2.objs.size fp) (it := s.heap.objs.size) ((weak I8).pins_of (pins' := []) fun p hp => by simp at hp) (fun b o hb e => (Heap.get?_update_other s8.heap _ (Ne.symm hb)).trans e) b3 hDC (.inr (Nat.le_refl _)) ncl (fun p hp => absurd (show p ∈ ([] : List (Addr × Obj)) from hp) (by simp))
 exact codeAny_compStart_list (loop _ rfl) (T.self _ 0 _ _ _ (T.keep _ _ _ st fun b _ o e => old b o e) (loop _ rfl))
theorem z1a {wi : TI} (hcalm : X.calm = true) (S : CompScope X sc x cap js) (hi : PI X (.Name x px) iter wi) (hc : ∀ s H C fp, PIf (z15 X sc (x :: cap) s H C fp) ifs tc) (he : ∀ s H C fp, PE (z15 X sc (x :: cap) s H C fp) elt te)
  (hs : ∀ x, foldedSetIterable iter X.env x = pure x := by intro _; rfl) : PE X (.ListComp elt [⟨.Name x px, iter, ifs, 0⟩] sc pos) (z9k wi tc te js) := by
 intro pins s σ H Q I h
 rw [eval_ListComp]
 refine wpAny_comprehension_free (use := none) rfl hs (z5p (S.cells I)) S.kind S.names (thn (hi pins s σ H _ I h) fun v s1 h1 => thn h1 fun itv s2 h2 => ?_)
 obtain ⟨it, fp, tn, J, H2, e, I2, T, st2, f2, go⟩ := h2
 subst e
 refine z5r S hcalm hc he I2 T st2 f2 go fun D C HB sB σB acc its n hD hC hDC IB hHD hd rv hz q => ?_
 obtain ⟨m, hn, _⟩ := IB.loc
 exact ⟨m, hn, fun h' sb => ⟨.ref D, upd HB D (.lst acc), z7m (sc := sc) (x := x) (cap := cap) I2 f2 IB hC hD hDC hHD hd rv hz fun b o hb e => sb.extBut b o hb e, rfl, q D hHD⟩⟩
theorem z5s {wi : TI} {i : Nat} {y : Str} {py spos : Pos} (hcalm : X.calm = true) (S : CompScope X sc x cap js) (hN : X.N.Nodup) (hi' : X.N[i]? = some y) (hx : Loc X.env.scope y) (hi : PI X (.Name x px) iter wi) (hc : ∀ s H C fp, PIf (z15 X sc (x :: cap) s H C fp) ifs tc) (he : ∀ s H C fp, PE (z15 X sc (x :: cap) s H C fp) elt te)
  (hsw : swapsWith (.ListComp elt [⟨.Name x px, iter, ifs, 0⟩] sc pos) (some (.Name y py)) spos.line X.env = pure true := by rfl) (hs : ∀ x, foldedSetIterable iter X.env x = pure x := by intro _; rfl)
  (hf : X.fn y = true ∨ X.env.scope.names.lookup y = some .local := by first | exact .inl rfl | exact .inr rfl | assumption) : PS X (.Assign [.Name y py] (.ListComp elt [⟨.Name x px, iter, ifs, 0⟩] sc pos) spos) (tAsg (z9k wi tc te js) (z79 i)) := by
 intro pins s σ H D I h
 rw [exec_Assign_Name_used _ _ _ _ hsw]
 refine wpAny_bind (wpAny_standAt (wpAny_bind ?_))
 show wpAny _ X.A (do let _ ← comprehension (.ListComp elt [⟨.Name x px, iter, ifs, 0⟩] sc pos) sc X.env _ (newList []) false (eval iter X.env) (some (assign (.Name y py) X.env))) _ _ s
 refine wpAny_bind (wpAny_mono (wpAny_comprehension_free (use := some (assign (.Name y py) X.env)) (Q := fun _ s' => SP X pins D .next s') rfl hs (z5p (S.cells I)) S.kind S.names (thn (hi pins s σ H _ I h) fun v s1 h1 => thn h1 fun itv s2 h2 => ?_)) (fun _ s' hq => wpAny_pure (wpAny_pure hq)) fun _ _ e => e)
 obtain ⟨it, fp, tn, J, H2, e, I2, T, st2, f2, go⟩ := h2
 subst e
 refine z5r S hcalm hc he I2 T st2 f2 go fun D' C HB sB σB acc its n hD hC hDC IB hHD hd rv hz q => ?_
 obtain ⟨m, hn, _⟩ := IB.loc
 have IE : Inv X pins σ (upd HB D' (.lst acc)) sB := z7m (hB := sB.heap) (sc := sc) (x := x) (cap := cap) I2 f2 IB hC hD hDC hHD hd rv hz fun b o hb e => e
 refine wpAny_assign_Name (z6f IE hN hi' hx (v := .ref D') rfl (fun s3 I3 hsb => ?_) hf)
 obtain ⟨a, sba, ha⟩ := hsb
 have aC : C ≠ a := by
  rcases ha with z | z
  ·rw [z]; exact Nat.ne_of_gt (Nat.lt_of_lt_of_le I2.lt hC)
  ·obtain ⟨v, o, ho, _⟩ := I2.cell y a z
   exact Nat.ne_of_gt (Nat.lt_of_lt_of_le (Heap.lt_size ho) hC)
 refine ⟨m, hn.sameBut sba aC, fun h' sb => ?_⟩
 refine ⟨σ.set i (some (.ref D')), upd HB D' (.lst acc), I3.turned (it := C) (t' := s3.toks) (fun b o hb e => sb.extBut b o hb e) (by rw [zc (Ne.symm hDC)]; exact IB.free) (Nat.ne_of_gt (Nat.lt_of_lt_of_le I2.lt hC)) (.inr (Nat.le_trans I2.sz hC)) (fun y' c e => ?_) (fun p hp => ?_), q D' hHD⟩
 ·obtain ⟨v, o, ho, _⟩ := I2.cell y' c e
  exact Nat.ne_of_lt (Nat.lt_of_lt_of_le (Heap.lt_size ho) hC)
 ·exact Nat.ne_of_lt (Nat.lt_of_lt_of_le (Heap.lt_size (I2.pin p hp).1) hC)
end
end L2
end
section
namespace L2
open PySem PySem.Spec PyProof.Rows
section
variable {X : Cx}
theorem z3g : OpR X (compareOp .LtE) (fun x y H Q => ∃ i j, x = .str i ∧ y = .str j ∧ Q (.bl (!decide (j.cps.toList < i.cps.toList))) H) := by
 intro pins s σ H x y v u Q I rx ry h
 obtain ⟨i, j, rfl, rfl, q⟩ := h
 obtain ⟨t, rfl⟩ := rx
 obtain ⟨t', rfl⟩ := ry
 exact PySem.P.le_str (zt I q rfl)
theorem zda : SlR X (fun x lo hi H Q => ∃ z, x = .str z ∧ z.length ≤ sizeLine ∧ Q (.str (Txt.slice z lo hi)) H) := by
 intro pins s σ H x v vl vu lo hi sl Q I rx hs pl pu h
 obtain ⟨z, rfl, hz, q⟩ := h
 obtain ⟨t, rfl⟩ := rx
 refine ⟨"str", _, F.slot_str_getitem.lookup, typeIs_str _ _ _, ?_⟩
 have fin : ∀ t' k, EP X pins σ Q (.str (Txt.slice z lo hi) t') { s with toks := k } := fun t' k => ⟨.str _, H, I.tok _, ⟨_, rfl⟩, q⟩
 obtain ⟨o, h1, h2, h3⟩ := hs
 cases pl with
 | none =>
  cases pu with
  | none => exact wpAny_getItem_str_slice (l := none) (u := none) (st := none) ⟨o, h1, h2, h3⟩ rfl (post_val_or_str ⟨Nat.le_trans (Txt.slice_le z none none) hz, fin⟩)
  | int j u => exact wpAny_getItem_str_slice (l := none) (u := some (j, u)) (st := none) ⟨o, h1, h2, h3⟩ rfl (post_val_or_str ⟨Nat.le_trans (Txt.slice_le z none (some j)) hz, fin⟩)
 | int i u' =>
  cases pu with
  | none => exact wpAny_getItem_str_slice (l := some (i, u')) (u := none) (st := none) ⟨o, h1, h2, h3⟩ rfl (post_val_or_str ⟨Nat.le_trans (Txt.slice_le z (some i) none) hz, fin⟩)
  | int j u => exact wpAny_getItem_str_slice (l := some (i, u')) (u := some (j, u)) (st := none) ⟨o, h1, h2, h3⟩ rfl (post_val_or_str ⟨Nat.le_trans (Txt.slice_le z (some i) (some j)) hz, fin⟩)
theorem z6m : ∀ (l : List (Str × Tok)), Vals ((l.map (·.1)).map V.str) (strValues l)
 | [] => .nil
 | (x, t) :: r => .cons ⟨t, rfl⟩ (z6m r)
def zaj : V → List V → Hp → VK → Prop := fun x vs H Q => ∃ z y, x = .str z ∧ vs = [.str y] ∧ y.length = 1 ∧ z.length + 2 ≤ sizeLine ∧ ∀ p, H p = none → Q (.ref p) (upd H p (.lst ((Txt.split z y).map V.str)))
theorem z7n : MtR X "str.split" zaj := by
 intro pins s σ H x vs v us Q I rx rv h
 obtain ⟨z, y, rfl, rfl, hy, hz, q⟩ := h
 obtain ⟨t, rfl⟩ := rx
 obtain ⟨u, rfl, t', rfl⟩ := rv.one
 have hn : (Builtin.Str.partsBetween z (Builtin.Str.occurrences z y 0 z.length (z.length + 1)) y.length).length ≤ sizeLine := by
  have e1 := StrLaws.occ_length_le z y 0 z.length (z.length + 1)
  rw [length_partsBetween]; omega
 have hy0 : (y.length == 0) = false := by rw [hy]; rfl
 have fin : ∀ (l : List (Str × Tok)) (tk : Nat), l.map (·.1) = Txt.split z y → (Txt.split z y).length ≤ sizeLine → EP X pins σ Q (.ref s.heap.objs.size) { s with toks := tk, heap := s.heap.push { cls := .type "list", data := .seq (strValues l).toArray } } := fun l tk e hl => by
  refine ⟨.ref s.heap.objs.size, _, I.lnew (t' := tk) (ys := (Txt.split z y).map V.str) ?_ (by rw [List.length_map]; exact hl), rfl, q _ I.fresh⟩
  rw [← e]
  exact z6m l
 cases h1 : (decide (z.length < y.length) || decide (Builtin.Str.strKind z < Builtin.Str.strKind y))
 ·cases hf : (Builtin.Str.occurrences z y 0 z.length (z.length + 1)).isEmpty
  ·have e : Txt.split z y = Builtin.Str.partsBetween z (Builtin.Str.occurrences z y 0 z.length (z.length + 1)) y.length := (if_neg (ne_true_of_eq_false h1)).trans (if_neg (ne_true_of_eq_false hf))
   refine call_meets F.slot_str_split (typeIs_str _ _ _) F.entry_str_split (F.args_str_split_2 _ _) (meets_str_split_sep z y t t' h1 hy0 hf (by omega) hn) ?_
   show wants _ _ _ { s with toks := _, heap := s.heap.push { cls := .type "list", data := .seq (strsFrom s.toks (Builtin.Str.partsBetween z (Builtin.Str.occurrences z y 0 z.length (z.length + 1)) y.length)).toArray } }
   rw [strsFrom_eq]
   exact fin (numbered s.toks _) _ ((numbered_texts _ _).trans e.symm) (by rw [e]; exact hn)
  ·have e : Txt.split z y = [z] := (if_neg (ne_true_of_eq_false h1)).trans (if_pos hf)
   exact call_meets F.slot_str_split (typeIs_str _ _ _) F.entry_str_split (F.args_str_split_2 _ _) (meets_str_split_not_found z y t t' h1 hy0 hf) (fin [(z, t)] s.toks e.symm (by rw [e]; show 1 ≤ sizeLine; decide))
 ·have e : Txt.split z y = [z] := if_pos h1
  exact call_meets F.slot_str_split (typeIs_str _ _ _) F.entry_str_split (F.args_str_split_2 _ _) (meets_str_split_cannot_occur z y t t' h1) (fin [(z, t)] s.toks e.symm (by rw [e]; show 1 ≤ sizeLine; decide))
theorem z6n : ∀ bs : List Bool, (List.range bs.length).all (fun j => bs.getD j true) = bs.all id
 | [] => rfl
 | b :: bs => by
  show (List.range (bs.length + 1)).all _ = _
  rw [List.range_succ_eq_map, List.all_cons, List.all_map, List.all_cons]
  show (b && (List.range bs.length).all fun j => bs.getD j true) = _
  rw [z6n bs]
  rfl
theorem z10 (hc : X.calm = true) : CallR X (.builtin "all") (fun xs H Q => ∃ p bs, xs = [.ref p] ∧ SqL X.K H p ((bs : List Bool).map V.bl) ∧ Q (.bl (bs.all id)) H) := by
  intro pins s σ H xs us Q I r h
  obtain ⟨p, bs, rfl, hp, q⟩ := h
  obtain ⟨u, rfl, ru⟩ := z3e r
  cases ru
  obtain ⟨its, r1, p1, _⟩ := I.list hp
  have hl := r1.length
  rw [List.length_map] at hl
  refine call_all_walk (wpAny_pyIter_list p1.isList ?_)
  obtain ⟨ol, n, hol, hcl, hdl, hsl⟩ := id p1
  have hne : p ≠ s.heap.objs.size := Nat.ne_of_lt (Heap.lt_size hol)
  refine ⟨s.heap.objs.size, [s.heap.objs.size, p], [s.heap.objs.size], its.toArray.size, _, _, fun j => bs.getD j true, rfl, Walks.list (by exact I.ok.hd hc) s.heap.objs.size p hne its.toArray,
    ⟨⟨_, Heap.get?_push_size _ rfl, rfl, rfl⟩, ⟨ol, Heap.get?_push_of_some _ hol, hcl, n, hsl⟩⟩, ?_, fun h' tk k => ?_⟩
  · intro j v s' Q' E' hv hq
    have hv : its.toArray[j]? = some v := hv
    have e0 : its[j]? = some v := by simpa using hv
    have hj : j < its.length := (List.getElem?_eq_some_iff.mp e0).1
    have e1 : (bs.map V.bl)[j]? = some (V.bl (bs.getD j true)) := by
      rw [List.getElem?_map, List.getD_eq_getElem?_getD, List.getElem?_eq_getElem (by omega)]
      rfl
    obtain ⟨w, q1, rw'⟩ := r1.get e1
    rw [e0] at q1
    cases q1
    cases rw'
    exact wpAny_truthy_bool hq
  · have e : (List.range its.toArray.size).all (fun j => bs.getD j true) = bs.all id := by
      rw [List.size_toArray, ← hl]
      exact z6n bs
    rw [e]
    have I2 : Inv X pins σ H { s with heap := h', toks := tk } := by
     refine I.kept (t' := tk) (h' := h') fun b o e => k b o ?_ (Heap.get?_push_of_some _ e)
     intro z
     have : b = s.heap.objs.size := by simpa using z
     exact absurd (Heap.lt_size e) (by rw [this]; exact Nat.lt_irrefl _)
    exact ⟨.bl _, H, I2, rfl, q⟩
theorem zq : CallR X (.builtin "isinstance") (fun xs H Q => ∃ x c t b, xs = [x, .ty c] ∧ TyOf X.K H x t ∧ PySem.W.kitOne X.K t (.type c) = some b ∧ Q (.bl b) H) := by
 intro pins s σ H xs us Q I r h
 obtain ⟨x, c, t, b, rfl, ty, e, q⟩ := h
 obtain ⟨u, w', rfl, r1, r2⟩ := z7b r
 cases r2
 exact zaa I r1 ty e fun tk => ⟨.bl b, H, I.tok _, rfl, q⟩
end
theorem z2b (K : PySem.W.Frag) : PySem.W.kitOne K (.type "bool") (.type "bool") = some true := by with_unfolding_all rfl
theorem z2i (K : PySem.W.Frag) : PySem.W.kitOne K (.type "int") (.type "bool") = some false := by with_unfolding_all rfl
end L2
end
section
namespace L2
open PySem PySem.Spec PyProof.Rows
def Def (K : PySem.W.Frag) (mg : Str → Option Value) (x : Str) (st : Stmt) (ps : List Str) : Prop := ∃ f fd, Fun K x x st f fd ∧ mg x = some (.ref f) ∧ Binds K fd ps []
def Has (P : Program) (w : World) (K : PySem.W.Frag) (mg : Str → Option Value) (base : Heap) (k : Nat) (x : Str) (ps : List Str) (sp : Sp) : Prop :=
 ∃ f fd, FnOk P w K mg base CX0 k f fd ps sp ∧ mg x = some (.ref f) ∧ PySem.W.keepIn K (.ref f) = true ∧ Binds K fd ps [] ∧ ∃ oc od osl, K.lookup f = some ⟨oc, od, .func fd, osl⟩
theorem Def.ok {P : Program} {w : World} {K : PySem.W.Frag} {mg : Str → Option Value} {base : Heap} {x : Str} {st : Stmt} {N ps : List Str} {k : Nat} {sp : Sp} (D : Def K mg x st ps) (S : FnScope N ps (ze st)) (len : ∀ vs H Q E, sp vs H Q E → vs.length = ps.length)
  (hbody : ∀ (f : Addr) (cdv : Value) (A : Around) (outer : List Env) (s : Shared) (H : Hp) (vs : List V) (Q : VK) (E : XK), Room k (A.deeper (envOfC x (ze st) s.heap.objs.size f cdv)) → sp vs H Q E →
   ∃ t, PSs (cxOf CX0 P w K mg base N x (ze st) f cdv A outer s H E).nox (z1n st) t ∧ t { nx := fun _ H' => Q .non H', rt := Q } (start N vs) H) : Has P w K mg base (k + 1) x ps sp := by
 obtain ⟨f, fd, F, hm, hb⟩ := D
 exact ⟨f, fd, F.ok S len (fun cdv A outer s H vs Q E hr h => hbody f cdv A outer s H vs Q E hr h), hm, F.kp, hb, by
  obtain ⟨oc, od, kV, doc, pm, an, cdv, ct, osl, rfl, lk, hcd⟩ := F.ex
  exact ⟨oc, od, osl, lk⟩⟩
section
variable {X : Cx} {k : Nat} {x : Str} {ps : List Str} {sp : Sp} {e : Expr} {es : List Expr} {t : TA} {p pos : Pos}
theorem zu (G : Has X.prog X.w X.K X.mg X.base k x ps sp) (hr : Room k X.A) (hg : Gl X x) (ha : PA X (e :: es) t) (hdb : (x == ("__debug__" : Str)) = false := by decide) (he : starEach (e :: es) X.env = (false, eval e X.env) :: starEach es X.env := by rfl) (hpl : (backTo pos (starEach es X.env)).any (·.1) = false := by rfl) :
  PE X (.Call (.Name x p) (e :: es) [] pos) (z9f sp [] E0 t) := by
 obtain ⟨f, fd, F, hm, hk, hb, _⟩ := G
 exact zch F hr hg hm hk hb .nil z7c ha hdb he hpl
end
def z42 (H : Hp) (Q : VK) (v : V) : Prop := ∀ H', Same H H' → Q v H'
end L2
namespace L2
open PySem PySem.Spec PyProof.Rows
theorem Has.at {P : Program} {w : World} {K : PySem.W.Frag} {mg : Str → Option Value} {base : Heap} {k : Nat} {x : Str} {ps : List Str} {sp : Sp} {st : Stmt} {f : Addr} {fd : FuncData} (G : Has P w K mg base k x ps sp) (hm : mg x = some (.ref f)) (F : Fun K x x st f fd) : FnOk P w K mg base CX0 k f fd ps sp := by
 obtain ⟨f', fd', FO, hm', hk, hb, oc', od', osl', lk'⟩ := G
 have e := hm'.symm.trans hm
 cases e
 obtain ⟨oc, od, kV, doc, pm, an, cdv, ct, osl, rfl, lk, hcd⟩ := F.ex
 rw [lk] at lk'
 have e2 := Option.some.inj lk'
 injection e2 with _ _ e3 _
 injection e3 with e4
 rw [e4]
 exact FO
end L2
namespace L2
open PySem PySem.Spec PyProof.Rows
theorem z9l {n : Nat} (h : n ≤ 1000000) : n + 2 ≤ sizeLine := by rw [sizeLine_eq]; omega
theorem zj {n : Nat} (h : n ≤ 1000000) : n ≤ sizeLine := by rw [sizeLine_eq]; omega
theorem z8t {z y : Str} {H : Hp} {Q : VK} (hy : y.length = 1) (hz : z.length ≤ 1000000) (h : ∀ p, H p = none → Q (.ref p) (upd H p (.lst ((Txt.split z y).map V.str)))) : zaj (.str z) [.str y] H Q :=
 ⟨z, y, rfl, rfl, hy, z9l hz, h⟩
theorem z4b (l : List Str) : (l.map V.str).all z2w = true := by
 rw [List.all_eq_true]
 intro x hx
 obtain ⟨a, _, rfl⟩ := List.mem_map.mp hx
 rfl
theorem Same.upd {H : Hp} {p : Addr} {o : HO} (h : H p = none) : Same H (upd H p o) := fun b u e => by
 rw [zc (zi e h)]
 exact e
end L2
namespace L2
open PySem PySem.Spec PyProof.Rows
def z7d (J : It) (g : TG) (tb : TS) (D : Ends) (σ : St) (H : Hp) : Prop := ∃ W : Nat → Nat → St → Hp → Prop, (∃ m, W 0 m σ H) ∧ ∀ i m σ H, W i m σ H →
 (J.stop i H ∧ D.nx σ H) ∨ (J.go i H ∧ ∃ N : St → Hp → Prop, (∀ σ' H', N σ' H' → ∃ m', m' < m ∧ W (i + 1) m' σ' H') ∧ ∀ x H', J.yld i H x H' → g x σ H' fun σ2 H2 => tb { D with nx := N, ct := N, bk := D.nx } σ2 H2)
theorem zbi (wi : TI) (g : TG) (tb : TS) (D : Ends) (σ : St) (H : Hp) : tFor wi g tb D σ H = wi σ H fun J H1 => z7d J g tb D σ H1 := rfl
theorem zak (ta : TA) (σ : St) (H : Hp) (R : It → Hp → Prop) : z98 ta σ H R = ta σ H fun vs H1 => ∃ j : Int, vs = [.int j] ∧ (-(2 ^ 62) ≤ j ∧ j < 2 ^ 62) ∧ R (Itr 0 j.toNat) H1 := by
 unfold z98
 simp only [and_assoc]
theorem zal (ta : TA) (σ : St) (H : Hp) (R : It → Hp → Prop) : zc0 ta σ H R = ta σ H fun vs H1 => ∃ i j : Int, vs = [.int i, .int j] ∧ (-(2 ^ 62) ≤ i ∧ i < 2 ^ 62 ∧ -(2 ^ 62) ≤ j ∧ j < 2 ^ 62) ∧ R (Itr i (j - i).toNat) H1 := rfl
theorem z52 {lo : Int} {n : Nat} {g : TG} {tb : TS} {D : Ends} {σ : St} {H : Hp} (sp : Nat → St → Hp → Prop) (h0 : sp 0 σ H)
  (hs : ∀ (Pv : Nat → St → Hp → Prop), (∀ i σ H, sp i σ H → Pv i σ H) → ∀ i σ H, i < n → sp i σ H → g (.int (lo + i)) σ H fun σ2 H2 => tb { D with nx := Pv (i + 1), ct := Pv (i + 1), bk := D.nx } σ2 H2) (hd : ∀ σ H, sp n σ H → D.nx σ H) : z7d (Itr lo n) g tb D σ H :=
 za2 sp h0 (hs sp fun _ _ _ h => h) hd
theorem z5t {K : PySem.W.Frag} {a : Addr} {xs : List V} {g : TG} {tb : TS} {D : Ends} {σ : St} {H : Hp} (sp : Nat → St → Hp → Prop) (h0 : sp 0 σ H) (hl : ∀ i σ H, i ≤ xs.length → sp i σ H → SqL K H a xs)
  (hs : ∀ (Pv : Nat → St → Hp → Prop), (∀ i σ H, sp i σ H → Pv i σ H) → ∀ i x σ H, xs[i]? = some x → sp i σ H → g x σ H fun σ2 H2 => tb { D with nx := Pv (i + 1), ct := Pv (i + 1), bk := D.nx } σ2 H2) (hd : ∀ σ H, sp xs.length σ H → D.nx σ H) : z7d (Itl K a) g tb D σ H :=
 zbc sp h0 hl (hs sp fun _ _ _ h => h) hd
theorem zam {z : Str} {g : TG} {tb : TS} {D : Ends} {σ : St} {H : Hp} (sp : Nat → St → Hp → Prop) (h0 : sp 0 σ H)
  (hs : ∀ (Pv : Nat → St → Hp → Prop), (∀ i σ H, sp i σ H → Pv i σ H) → ∀ i c σ H, z.cps[i]? = some c → sp i σ H → g (.str ⟨#[c]⟩) σ H fun σ2 H2 => tb { D with nx := Pv (i + 1), ct := Pv (i + 1), bk := D.nx } σ2 H2) (hd : ∀ σ H, sp z.cps.size σ H → D.nx σ H) : z7d (Its z) g tb D σ H :=
 zco sp h0 (hs sp fun _ _ _ h => h) hd
theorem zan (wi : TI) (tc : TT) (te : TE) (js : List Nat) (σ : St) (H : Hp) (Q : VK) : z9k wi tc te js σ H Q = wi σ H fun J H1 => z1x J tc te js σ H1 Q := rfl
def Nx (n : Nat) (Pv : Nat → List V → Hp → Prop) (i : Nat) (acc : List V) (H : Hp) : Prop := ∃ m', m' < n - i ∧ m' = n - (i + 1) ∧ i + 1 ≤ n ∧ Pv (i + 1) acc H
theorem nx {n : Nat} {Pv : Nat → List V → Hp → Prop} {i : Nat} {acc : List V} {H : Hp} (hi : i < n) (h : Pv (i + 1) acc H) : Nx n Pv i acc H := ⟨n - (i + 1), by omega, rfl, hi, h⟩
theorem z43 {J : It} {tc : TT} {te : TE} {js : List Nat} {σ : St} {H1 : Hp} {Q : VK} (n : Nat) (hn : n ≤ sizeLine) (Pv : Nat → List V → Hp → Prop) (h0 : Pv 0 [] H1) (hlen : ∀ i acc H, Pv i acc H → acc.length ≤ i)
  (hgo : ∀ i acc H, i < n → Pv i acc H → J.go i H) (hstop : ∀ acc H, Pv n acc H → J.stop n H)
  (hs : ∀ i acc H x H', i < n → Pv i acc H → J.yld i H x H' → tc (some x :: capt σ js) H' fun b H2 => if b = true then te (some x :: capt σ js) H2 fun v H3 => Nx n Pv i (acc ++ [v]) H3 else Nx n Pv i acc H2)
  (hd : ∀ acc H, Pv n acc H → ∀ p, H p = none → Q (.ref p) (upd H p (.lst acc))) : z1x J tc te js σ H1 Q := by
 refine ⟨fun i m acc H => m = n - i ∧ i ≤ n ∧ Pv i acc H, ⟨n, by simp, Nat.zero_le _, h0⟩, ?_⟩
 rintro i m acc H ⟨rfl, hi, p⟩
 by_cases hlt : i < n
 ·exact .inr ⟨hgo i acc H hlt p, by have := hlen i acc H p; omega, fun x H' y => hs i acc H x H' hlt p y⟩
 ·have e : i = n := by omega
  subst e
  exact .inl ⟨hstop acc H p, hd acc H p⟩
theorem z8e {z : Str} {tc : TT} {te : TE} {js : List Nat} {σ : St} {H1 : Hp} {Q : VK} (hn : z.cps.size ≤ sizeLine) (Pv : Nat → List V → Hp → Prop) (h0 : Pv 0 [] H1) (hlen : ∀ i acc H, Pv i acc H → acc.length ≤ i)
  (hs : ∀ i acc H c, z.cps[i]? = some c → i < z.cps.size → Pv i acc H → tc (some (.str ⟨#[c]⟩) :: capt σ js) H fun b H2 => if b = true then te (some (.str ⟨#[c]⟩) :: capt σ js) H2 fun v H3 => Nx z.cps.size Pv i (acc ++ [v]) H3 else Nx z.cps.size Pv i acc H2)
  (hd : ∀ acc H, Pv z.cps.size acc H → ∀ p, H p = none → Q (.ref p) (upd H p (.lst acc))) : z1x (Its z) tc te js σ H1 Q := by
 refine z43 z.cps.size hn Pv h0 hlen (fun i acc H hi p => hi) (fun acc H p => Nat.le_refl _) (fun i acc H x H' hi p y => ?_) hd
 obtain ⟨e, c, hc, y⟩ := y
 subst e y
 exact hs i acc H' c hc hi p
theorem z6q {lo : Int} {n : Nat} {tc : TT} {te : TE} {js : List Nat} {σ : St} {H1 : Hp} {Q : VK} (hn : n ≤ sizeLine) (Pv : Nat → List V → Hp → Prop) (h0 : Pv 0 [] H1) (hlen : ∀ i acc H, Pv i acc H → acc.length ≤ i)
  (hs : ∀ i acc H, i < n → Pv i acc H → tc (some (.int (lo + i)) :: capt σ js) H fun b H2 => if b = true then te (some (.int (lo + i)) :: capt σ js) H2 fun v H3 => Nx n Pv i (acc ++ [v]) H3 else Nx n Pv i acc H2)
  (hd : ∀ acc H, Pv n acc H → ∀ p, H p = none → Q (.ref p) (upd H p (.lst acc))) : z1x (Itr lo n) tc te js σ H1 Q := by
 refine z43 n hn Pv h0 hlen (fun i acc H hi p => hi) (fun acc H p => Nat.le_refl _) (fun i acc H x H' hi p y => ?_) hd
 obtain ⟨e, y⟩ := y
 subst e y
 exact hs i acc H' hi p
theorem z7o {K : PySem.W.Frag} {a : Addr} {xs : List V} {tc : TT} {te : TE} {js : List Nat} {σ : St} {H1 : Hp} {Q : VK} (hn : xs.length ≤ sizeLine) (Pv : Nat → List V → Hp → Prop) (h0 : Pv 0 [] H1) (hlen : ∀ i acc H, Pv i acc H → acc.length ≤ i) (hl : ∀ i acc H, Pv i acc H → SqL K H a xs)
  (hs : ∀ i acc H x, xs[i]? = some x → i < xs.length → Pv i acc H → tc (some x :: capt σ js) H fun b H2 => if b = true then te (some x :: capt σ js) H2 fun v H3 => Nx xs.length Pv i (acc ++ [v]) H3 else Nx xs.length Pv i acc H2)
  (hd : ∀ acc H, Pv xs.length acc H → ∀ p, H p = none → Q (.ref p) (upd H p (.lst acc))) : z1x (Itl K a) tc te js σ H1 Q := by
 refine z43 xs.length hn Pv h0 hlen (fun i acc H hi p => ⟨xs, xs[i], hl i acc H p, by simp [hi]⟩) (fun acc H p => ⟨xs, hl _ acc H p, Nat.le_refl _⟩) (fun i acc H x H' hi p y => ?_) hd
 obtain ⟨e, y⟩ := y
 subst e
 exact hs i acc H' x (y xs (hl i acc H' p)) hi p
theorem z9m {z : Str} {tc : TT} {te : TE} {js : List Nat} {σ : St} {H1 : Hp} {Q : VK} (hn : z.cps.size ≤ sizeLine) (sp : Nat → List V → Hp → Prop) (h0 : sp 0 [] H1) (hlen : ∀ i acc H, sp i acc H → acc.length ≤ i)
  (hs : ∀ (Nt : List V → Hp → Prop) i acc H c, (∀ acc H, sp (i + 1) acc H → Nt acc H) → z.cps[i]? = some c → i < z.cps.size → sp i acc H → tc (some (.str ⟨#[c]⟩) :: capt σ js) H fun b H2 => if b = true then te (some (.str ⟨#[c]⟩) :: capt σ js) H2 fun v H3 => Nt (acc ++ [v]) H3 else Nt acc H2)
  (hd : ∀ acc H, sp z.cps.size acc H → ∀ p, H p = none → Q (.ref p) (upd H p (.lst acc))) : z1x (Its z) tc te js σ H1 Q :=
 z8e hn sp h0 hlen (fun i acc H c hc hi p => hs (Nx z.cps.size sp i) i acc H c (fun _ _ h => nx hi h) hc hi p) hd
theorem z1t {lo : Int} {n : Nat} {tc : TT} {te : TE} {js : List Nat} {σ : St} {H1 : Hp} {Q : VK} (hn : n ≤ sizeLine) (sp : Nat → List V → Hp → Prop) (h0 : sp 0 [] H1) (hlen : ∀ i acc H, sp i acc H → acc.length ≤ i)
  (hs : ∀ (Nt : List V → Hp → Prop) i acc H, (∀ acc H, sp (i + 1) acc H → Nt acc H) → i < n → sp i acc H → tc (some (.int (lo + i)) :: capt σ js) H fun b H2 => if b = true then te (some (.int (lo + i)) :: capt σ js) H2 fun v H3 => Nt (acc ++ [v]) H3 else Nt acc H2)
  (hd : ∀ acc H, sp n acc H → ∀ p, H p = none → Q (.ref p) (upd H p (.lst acc))) : z1x (Itr lo n) tc te js σ H1 Q :=
 z6q hn sp h0 hlen (fun i acc H hi p => hs (Nx n sp i) i acc H (fun _ _ h => nx hi h) hi p) hd
theorem z2a {K : PySem.W.Frag} {a : Addr} {xs : List V} {tc : TT} {te : TE} {js : List Nat} {σ : St} {H1 : Hp} {Q : VK} (hn : xs.length ≤ sizeLine) (sp : Nat → List V → Hp → Prop) (h0 : sp 0 [] H1) (hlen : ∀ i acc H, sp i acc H → acc.length ≤ i) (hl : ∀ i acc H, sp i acc H → SqL K H a xs)
  (hs : ∀ (Nt : List V → Hp → Prop) i acc H x, (∀ acc H, sp (i + 1) acc H → Nt acc H) → xs[i]? = some x → i < xs.length → sp i acc H → tc (some x :: capt σ js) H fun b H2 => if b = true then te (some x :: capt σ js) H2 fun v H3 => Nt (acc ++ [v]) H3 else Nt acc H2)
  (hd : ∀ acc H, sp xs.length acc H → ∀ p, H p = none → Q (.ref p) (upd H p (.lst acc))) : z1x (Itl K a) tc te js σ H1 Q :=
 z7o hn sp h0 hlen hl (fun i acc H x hx hi p => hs (Nx xs.length sp i) i acc H x (fun _ _ h => nx hi h) hx hi p) hd
end L2
namespace L2
open PySem PySem.Spec PyProof.Rows
def tCut (t u : TS) : TS := fun D σ H => ∃ Mid : St → Hp → Prop, t { D with nx := Mid } σ H ∧ ∀ σ H, Mid σ H → u D σ H
theorem z1z {X : Cx} {st : Stmt} {rest : List Stmt} {t u : TS} (h1 : PS X st t) (h2 : PSs X rest u) : PSs X (st :: rest) (tCut t u) := by
 intro pins s σ H D I ⟨Mid, h, hm⟩
 refine wpAny_execs_cons (thn (h1 pins s σ H { D with nx := Mid } I h) fun f s1 q => ?_)
 cases f with
 | next =>
  obtain ⟨σ', H', I', q⟩ := q
  exact h2 pins s1 σ' H' D I' (hm σ' H' q)
 | ret v => exact q
 | brk => exact q
 | cont => exact q
theorem z2p {t u : TS} {D : Ends} {σ : St} {H : Hp} (sp : St → Hp → Prop) (h1 : ∀ Mid : St → Hp → Prop, (∀ σ H, sp σ H → Mid σ H) → t { D with nx := Mid } σ H) (h2 : ∀ σ H, sp σ H → u D σ H) : tCut t u D σ H := ⟨sp, h1 sp fun _ _ h => h, h2⟩
theorem cdiv {i j : Int} (h1 : 0 < j) (h2 : j < 1073741824) : CDiv i j := ⟨h1, h2⟩
end L2
namespace L2
open PySem PySem.Spec PyProof.Rows
def zdb (dn cn : List (Str × NameKind)) : Bool := cn.all fun y => (y.2 != .free) || (dn.lookup y.1 == some .cell) || (dn.lookup y.1 == some .free)
theorem zv {X : Cx} {sc : Scope} (h : zdb X.env.scope.names sc.names = true) : ∀ y ∈ sc.names, y.2 = .free → X.env.kindOf y.1 = some .cell ∨ X.env.kindOf y.1 = some .free := by
 intro y hy hf
 have := List.all_eq_true.mp h y hy
 rw [hf] at this
 simp at this
 exact this
end L2
end
section
namespace L2
open PySem PySem.Spec PyProof.Rows
theorem ObjOk.here {P : Program} {w : World} {H : Hp} {h : Heap} {a : Addr} {o : HO} (x : ObjOk P w H h a o) : ∃ ob, h.get? a = some ob := by
 cases o with
 | lst xs => obtain ⟨_, _, _, _, e⟩ := x; exact ⟨_, e⟩
 | tup xs => obtain ⟨_, _, _, ob, e, _⟩ := x; exact ⟨_, e⟩
 | dK kvs => obtain ⟨_, _, _, _, ob, _, _, e, _⟩ := x; exact ⟨_, e⟩
 | dT kvs => obtain ⟨_, _, _, _, ob, _, _, e, _⟩ := x; exact ⟨_, e⟩
 | set S n => obtain ⟨ob, _, _, _, e, _⟩ := x; exact ⟨_, e⟩
 | ins C dx fs => obtain ⟨_, _, _, e, _⟩ := x; exact ⟨_, e⟩
 | own y => obtain ⟨ob, e⟩ := x; exact ⟨_, e⟩
 | xd fs => obtain ⟨_, ⟨ob, _, _, e, _⟩, _⟩ := x; exact ⟨_, e⟩
 | rng lo hi => obtain ⟨_, _, _, e⟩ := x; exact ⟨_, e⟩
 | frz ob u => obtain ⟨e, _⟩ := x; exact ⟨_, e⟩
 | tbl ps => exact ⟨_, (show h.get? a = some _ from x)⟩
 | met f y => exact ⟨_, (show h.get? a = some _ from x)⟩
 | ext φ => obtain ⟨_, ⟨ob, e⟩, _⟩ := x; exact ⟨_, e⟩
theorem z8u {P : Program} {w : World} {H : Hp} {B h h' : Heap} (k : B.StaysIn h) (k' : B.StaysIn h') (tr : ∀ b u, H b = some u → ∃ o, B.get? b = some o) (ok : HOk P w H h) : HOk P w H h' := fun a o e =>
 (ok a o e).stay (fun b u hb q => by
  have hbt : ∃ v, H b = some v := by
   rcases hb with z | z
   ·exact ⟨o, by rw [z]; exact e⟩
   ·exact ⟨_, z⟩
  obtain ⟨v, hv⟩ := hbt
  obtain ⟨ob, hob⟩ := tr b v hv
  have := k b ob hob
  rw [q] at this
  cases this
  exact k' b u hob) (fun _ q => q) fun _ _ q => q
theorem zdc {fs : List Addr} {H H' : Hp} {g B h h' : Heap} (k : B.StaysIn h) (k' : B.StaysIn h') (hfr : ∀ b ∈ fs, ∃ o, h.get? b = some o ∧ ∀ vs, o.data ≠ .fields vs) (up : h.UpToSlots h')
  (old : ∀ b o, g.get? b = some o → b ∉ fs → ∃ o', B.get? b = some o') (u : Un fs [] H H' g h) : Un fs [] H H' g h' where
 keep := fun b o q n hb hx => by
  obtain ⟨ob, hob⟩ := old b o q hb
  have e1 := u.keep b o q n hb hx
  have e2 := k b ob hob
  rw [e1] at e2
  cases e2
  exact k' b o hob
 slot := fun b o q n hb hx => by
  obtain ⟨sl, e1⟩ := u.slot b o q n hb hx
  obtain ⟨o2, e2, d2⟩ := hfr b hb
  rw [e1] at e2
  cases e2
  obtain ⟨sl', e3⟩ := up b _ e1 d2
  exact ⟨sl', e3⟩
 free := u.free
 there := fun b o q hx => by
  by_cases hb : b ∈ fs
  ·obtain ⟨o2, e2, d2⟩ := hfr b hb
   obtain ⟨sl', e3⟩ := up b _ e2 d2
   exact ⟨_, e3⟩
  ·obtain ⟨ob, hob⟩ := old b o q hb
   exact ⟨ob, k' b ob hob⟩
 tups := u.tups
 frzs := u.frzs
 tbls := u.tbls
def CX1 (P : Program) (w : World) : CXT := fun outer H s E e s' => ∃ (x C t : Addr) (B : Heap) (H' : Hp), e = .ref x ∧ s'.os = s.os ∧ AllBare s'.gens ∧ Un (frs outer) [] H H' s.heap s'.heap ∧ HOk P w H' s'.heap ∧
 Heap.FlyingW B outer x (.ref C) (.ref t) s'.heap ∧ (∀ b u, H' b = some u → ∃ o, B.get? b = some o) ∧ (∀ b o, s.heap.get? b = some o → b ∉ frs outer → ∃ o', B.get? b = some o') ∧ E (.ref C) none H'
def zao (X : Cx) (E : XK) : Prop := ∀ (pins : List (Addr × Obj)) (σ : St) (H : Hp) (s : Shared) (x C : Addr) (args : List Value) (h' : Heap), Inv X pins σ H s → Heap.MadeExcOf s.heap h' x (.ref C) args → E (.ref C) none H → X.xe (.ref x) { s with heap := h' }
section
variable {P : Program} {w : World} {K : PySem.W.Frag} {mg : Str → Option Value} {base : Heap} {N : List Str} {qual : Str} {sc : Scope} {f : Addr} {cd : Value} {A : Around} {outer : List Env} {s : Shared} {H : Hp} {E : XK}
theorem zap : zao (cxOf (CX1 P w) P w K mg base N qual sc f cd A outer s H E) E := by
 intro pins σ H2 s2 x C args h' I hx hE
 have hfrm := I.ok.frames
 have hin : ∀ env ∈ (cxOf (CX1 P w) P w K mg base N qual sc f cd A outer s H E).stack, ∀ a, env.frame = some a → a ∈ frs (cxOf (CX1 P w) P w K mg base N qual sc f cd A outer s H E).stack := fun env he a ha => List.mem_filterMap.mpr ⟨env, he, ha⟩
 have hL : (cxOf (CX1 P w) P w K mg base N qual sc f cd A outer s H E).env.locals = s.heap.objs.size := rfl
 have nfr : ∀ b o, s.heap.get? b = some o → b ∉ frs outer → b ∉ frs (cxOf (CX1 P w) P w K mg base N qual sc f cd A outer s H E).stack := fun b o q hb z => by
  rcases List.mem_cons.mp (I.stkSub b z) with e | e
  ·rw [hL] at e
   exact absurd (Heap.lt_size q) (by rw [e]; exact Nat.lt_irrefl _)
  ·exact hb e
 have sub : ∀ b ∈ frs outer, b ∈ frs (cxOf (CX1 P w) P w K mg base N qual sc f cd A outer s H E).stack := fun b hb => by
  obtain ⟨env, he, hf⟩ := List.mem_filterMap.mp hb
  exact List.mem_filterMap.mpr ⟨env, List.mem_cons_of_mem _ he, hf⟩
 have stB : (PySem.W.hideAll s2.heap (frs (cxOf (CX1 P w) P w K mg base N qual sc f cd A outer s H E).stack)).StaysIn s2.heap := fun b o q => PySem.W.of_hideAll _ q
 have tr : ∀ b u, H2 b = some u → ∃ o, (PySem.W.hideAll s2.heap (frs (cxOf (CX1 P w) P w K mg base N qual sc f cd A outer s H E).stack)).get? b = some o := fun b u q => by
  obtain ⟨ob, hob⟩ := (I.hok b u q).here
  exact ⟨ob, PySem.W.hideAll_get _ hob fun z => by rw [I.stkFree b z] at q; cases q⟩
 have old : ∀ b o, s.heap.get? b = some o → b ∉ frs outer → ∃ o', (PySem.W.hideAll s2.heap (frs (cxOf (CX1 P w) P w K mg base N qual sc f cd A outer s H E).stack)).get? b = some o' := fun b o q hb => by
  obtain ⟨o', e⟩ := I.base.there b o q (by simp [cxOf])
  exact ⟨o', PySem.W.hideAll_get _ e (nfr b o q hb)⟩
 refine wpAny_leaves_madeW (h := s2.heap) hfrm rfl stB (PySem.W.funFrames_hide I.stack hin) hx fun h2 t fl tp nt up => ?_
 have up2 : s2.heap.UpToSlots h2 := fun b o q d => up b o (hx.keeps b o q) d
 exact ⟨x, C, t, _, H2, rfl, I.os, I.bare, zdc stB fl.1 (fun b hb => (I.stack.mem (sub b hb)).2) up2 old I.base, z8u stB fl.1 tr I.hok, fl, tr, old, hE⟩
end
theorem z8v {K : PySem.W.Frag} {h : Heap} {C : Addr} {bmB : List Value} {nid : String} (X : K.In h) (q : PySem.W.excIn K C bmB nid = true) :
  ∃ bm N nm qn bs hd sn sub ab col dd k0 k1 k2 k3 k5 mN, h.get? C = some (excClassObj nm qn C N bs bm hd sn sub ab col dd k0 k1 k2 k3 k5 nid) ∧ h.Ns N mN ∧ mN "__init__" = none ∧ OwnTail h bmB bm := by
 unfold PySem.W.excIn at q
 split at q
 case h_2 => cases q
 case h_1 dd cd sl look =>
  split at q
  case h_2 => cases q
  case h_1 C2 bm a0 a1 a2 a3 nm2 a5 hmro hslots =>
   rw [Bool.and_eq_true, Bool.and_eq_true, Bool.and_eq_true, Bool.and_eq_true, Bool.and_eq_true] at q
   obtain ⟨⟨⟨⟨⟨q1, q2⟩, q3⟩, q4⟩, q5⟩, q6⟩ := q
   have e1 : C2 = C := by simpa using q1
   have e2 : nm2 = nid := by simpa using q2
   subst e1 e2
   obtain ⟨c1, c2, c3, c4, c5, c6, c7, c8, c9, c10, c11⟩ := cd
   have e3 : c11 = false := by simpa using q3
   have e4 : c3 = .ref C2 :: bm := hmro
   have e6 : sl = #[a0, a1, a2, a3, some (.builtin nm2), a5] := Array.toList_inj.mp hslots
   rw [e3, e4, e6] at look
   exact ⟨bm, _, _, _, _, _, _, _, _, _, _, _, _, _, _, _, _, X _ _ look, .of_isNs (PySem.W.isNs_of_in X q5), PySem.W.nsMap_none_of_in X q5 (by simpa using q6), PySem.W.tail_of_in X q4⟩
section
variable {X : Cx} {E : XK} {x : Str} {C : Addr} {np cpos pos : Pos} {e : Expr} {es : List Expr} {t : TA} {bmB : List Value} {B nid iid : String}
def zaq (E : XK) (C : Addr) (t : TA) : TS := fun _ σ H => t σ H fun xs H1 => xs.length ≤ sizeLine ∧ E (.ref C) none H1
theorem zbj (th : zao X E) (hc : X.calm = true) (FB : ExcBaseFacts B nid iid bmB) (ex : PySem.W.excIn X.K C bmB nid = true) (hg : Gl X x) (hm : X.mg x = some (.ref C)) (ha : PA X (e :: es) t)
  (he : starEach (e :: es) X.env = (false, eval e X.env) :: starEach es X.env := by rfl) (hpl : (backTo cpos (starEach es X.env)).any (·.1) = false := by rfl) (hdb : (x == ("__debug__" : Str)) = false := by decide) :
  PS X (.Raise (some (.Call (.Name x np) (e :: es) [] cpos)) none pos) (zaq E C t) := by
 intro pins s σ H D I h
 obtain ⟨bm, N, nm, qn, bs, hd, sn, sub, ab, col, dd, k0, k1, k2, k3, k5, mN, hC, hN, hni, T⟩ := z8v I.mod.kin ex
 refine wpAny_Raise_call_subT (C := C) (bm := bm) (nm := nm) (q := qn) (N := N) (bs := bs) (hdct := hd) (sn := sn) (sub := sub) (ab := ab) (col := col) (dd := dd) (k0 := k0) (k1 := k1) (k2 := k2) (k3 := k3) (k5 := k5) FB (mN := mN) (T.hasType FB.hasBase) (I.ok.hd hc) ?_ hni (z2m I hg hm ⟨rfl, ?_⟩ hdb)
 ·rw [he]
  show (false || (backTo cpos (starEach es X.env)).any (·.1)) = false
  rw [hpl]
  rfl
 have hA := ha cpos pins s σ H _ I h
 rw [he] at hA ⊢
 refine Calls.evalArgs_plain (thn hA fun us s2 hq => ?_)
 obtain ⟨vs, H2, I2, r2, hz, hE⟩ := hq
 exact ⟨rfl, by rw [← r2.length]; exact hz, I2.bk _ _ hC, hN.keeps I2.bk, T.keeps I2.bk, fun h' ev hm' => th pins σ H2 s2 ev C us h' I2 hm' hE⟩
end
def MDef (K : PySem.W.Frag) (C : Addr) (m qual : Str) (st : Stmt) (ps : List Str) : Prop := ∃ f fd, Fun K m qual st f fd ∧ Meth K C m f ∧ Binds K fd ps []
def MHas (P : Program) (w : World) (K : PySem.W.Frag) (mg : Str → Option Value) (base : Heap) (CX : CXT) (k : Nat) (C : Addr) (m : Str) (ps : List Str) (sp : Sp) : Prop :=
 ∃ f fd, FnOk P w K mg base CX k f fd ps sp ∧ Meth K C m f ∧ Binds K fd ps []
section
variable {P : Program} {w : World} {K : PySem.W.Frag} {mg : Str → Option Value} {base : Heap}
theorem Fun.okx {x qual : Str} {st : Stmt} {f : Addr} {fd : FuncData} {N ps : List Str} {k : Nat} {sp : Sp} (F : Fun K x qual st f fd) (S : FnScope N ps (ze st)) (len : ∀ vs H Q E, sp vs H Q E → vs.length = ps.length)
  (hbody : ∀ (cdv : Value) (A : Around) (outer : List Env) (s : Shared) (H : Hp) (vs : List V) (Q : VK) (E : XK), Room k (A.deeper (envOfC qual (ze st) s.heap.objs.size f cdv)) → sp vs H Q E →
   ∃ t, PSs (cxOf (CX1 P w) P w K mg base N qual (ze st) f cdv A outer s H E) (z1n st) t ∧ t { nx := fun _ H' => Q .non H', rt := Q } (start N vs) H) : FnOk P w K mg base (CX1 P w) (k + 1) f fd ps sp := by
 obtain ⟨oc, od, kV, doc, pm, an, cdv, ct, osl, rfl, lk, hcd⟩ := F.ex
 exact zc4 lk hcd S len fun A outer s H vs Q E hr hsp => hbody cdv A outer s H vs Q E hr hsp
theorem MDef.ok {C : Addr} {m qual : Str} {st : Stmt} {N ps : List Str} {k : Nat} {sp : Sp} (D : MDef K C m qual st ps) (S : FnScope N ps (ze st)) (len : ∀ vs H Q E, sp vs H Q E → vs.length = ps.length)
  (hbody : ∀ (f : Addr) (cdv : Value) (A : Around) (outer : List Env) (s : Shared) (H : Hp) (vs : List V) (Q : VK) (E : XK), Room k (A.deeper (envOfC qual (ze st) s.heap.objs.size f cdv)) → sp vs H Q E →
   ∃ t, PSs (cxOf CX0 P w K mg base N qual (ze st) f cdv A outer s H E).nox (z1n st) t ∧ t { nx := fun _ H' => Q .non H', rt := Q } (start N vs) H) : MHas P w K mg base CX0 (k + 1) C m ps sp := by
 obtain ⟨f, fd, F, hm, hb⟩ := D
 exact ⟨f, fd, F.ok S len (fun cdv A outer s H vs Q E hr h => hbody f cdv A outer s H vs Q E hr h), hm, hb⟩
theorem MDef.okx {C : Addr} {m qual : Str} {st : Stmt} {N ps : List Str} {k : Nat} {sp : Sp} (D : MDef K C m qual st ps) (S : FnScope N ps (ze st)) (len : ∀ vs H Q E, sp vs H Q E → vs.length = ps.length)
  (hbody : ∀ (f : Addr) (cdv : Value) (A : Around) (outer : List Env) (s : Shared) (H : Hp) (vs : List V) (Q : VK) (E : XK), Room k (A.deeper (envOfC qual (ze st) s.heap.objs.size f cdv)) → sp vs H Q E →
   ∃ t, PSs (cxOf (CX1 P w) P w K mg base N qual (ze st) f cdv A outer s H E) (z1n st) t ∧ t { nx := fun _ H' => Q .non H', rt := Q } (start N vs) H) : MHas P w K mg base (CX1 P w) (k + 1) C m ps sp := by
 obtain ⟨f, fd, F, hm, hb⟩ := D
 exact ⟨f, fd, F.okx S len (fun cdv A outer s H vs Q E hr h => hbody f cdv A outer s H vs Q E hr h), hm, hb⟩
end
section
variable {X : Cx} {k : Nat} {C : Addr} {m : Str} {ps : List Str} {sp : Sp} {o e : Expr} {es : List Expr} {ta : TE} {t : TA} {apos pos : Pos}
theorem zcp {pl : Sem Bool} (G : MHas X.prog X.w X.K X.mg X.base CX0 k C m ps sp) (c : Cls X.K C) (hr : Room k X.A) (he : PE X o ta)
  (ht : eval (.Call (.Attribute o m apos) [] [] pos) X.env = (do
   let ov ← eval o X.env
   standAt apos.atName
   let (f, first) ← holding [ov] (getMethod ov m pl)
   callWith pos f first (backTo pos (starEach [] X.env)) (backToKw pos (keywordEach [] X.env))) := by rfl) :
  PE X (.Call (.Attribute o m apos) [] [] pos) (z9g C m sp [] E0 ta tNil) := by
 obtain ⟨f, fd, F, hm, hb⟩ := G
 exact zbe he c hm F hr hb .nil z7c ht
end
def Mine (X : Cx) (pins : List (Addr × Obj)) (b : Addr) : Prop := (∃ o, X.s₀.heap.get? b = some o) ∨ b = X.env.locals ∨ (∃ y, X.env.cells.lookup y = some b) ∨ ∃ p ∈ X.pn ++ pins, p.1 = b
structure Fly (X : Cx) (pins : List (Addr × Obj)) (σ : St) (H : Hp) (s : Shared) (x C t : Addr) (B : Heap) : Prop where
 inv : Inv X pins σ H s
 fly : Heap.FlyingW B X.stack x (.ref C) (.ref t) s.heap
 tr : ∀ b u, H b = some u → ∃ o, B.get? b = some o
 mine : ∀ b, Mine X pins b → b ∈ frs X.stack ∨ ∃ o, B.get? b = some o
def XP (X : Cx) (pins : List (Addr × Obj)) (σ : St) (Ex : XK) (ev : Value) (s' : Shared) : Prop := ∃ x C t B H', ev = .ref x ∧ Fly X pins σ H' s' x C t B ∧ Ex (.ref C) none H'
theorem Inv.mine {X : Cx} {pins : List (Addr × Obj)} {σ : St} {H : Hp} {s : Shared} (I : Inv X pins σ H s) (hx : X.ex = []) {b : Addr} (h : Mine X pins b) : ∃ o, s.heap.get? b = some o := by
 rcases h with ⟨o, h⟩ | h | ⟨y, h⟩ | ⟨p, hp, h⟩
 ·exact I.base.there b o h (by rw [hx]; simp)
 ·obtain ⟨m, ⟨o, _, _, e, _⟩, _⟩ := I.loc
  exact ⟨o, by rw [h]; exact e⟩
 ·obtain ⟨v, o, e, _⟩ := I.cell y b h
  exact ⟨o, e⟩
 ·exact ⟨_, by rw [← h]; exact (I.pin p hp).1⟩
theorem zdd {X : Cx} {pins : List (Addr × Obj)} {σ : St} {H : Hp} {s s' : Shared} {E : XK} {ev : Value} (hx : X.ex = []) (I : Inv X pins σ H s) (q : CX1 X.prog X.w X.stack H s E ev s') : XP X pins σ E ev s' := by
 obtain ⟨x, C, t, B, H', rfl, os, bare, un, hok, fl, tr, old, hE⟩ := q
 refine ⟨x, C, t, B, H', rfl, ⟨I.call' (ch := []) os un hok bare (fun b z => absurd z (by simp)), fl, tr, fun b hb => ?_⟩, hE⟩
 obtain ⟨o, e⟩ := I.mine hx hb
 by_cases hf : b ∈ frs X.stack
 ·exact .inl hf
 ·exact .inr (old b o e hf)
theorem Fly.on {X : Cx} {pins : List (Addr × Obj)} {σ : St} {H : Hp} {s : Shared} {x C t : Addr} {B : Heap} {h' : Heap} (F : Fly X pins σ H s x C t B) (fl : Heap.FlyingW B X.stack x (.ref C) (.ref t) h') (up : s.heap.UpToSlots h') : Fly X pins σ H { s with heap := h' } x C t B := by
 have I := F.inv
 refine ⟨?_, fl, F.tr, F.mine⟩
 have slotF : ∀ b o, b ∈ frs X.stack → s.heap.get? b = some o → ∃ sl, h'.get? b = some { o with slots := sl } := fun b o hb q => by
  obtain ⟨_, o2, e2, d2⟩ := I.stack.mem hb
  rw [q] at e2
  cases e2
  exact up b _ q d2
 have at' : ∀ b o, Mine X pins b → b ∉ frs X.stack → s.heap.get? b = some o → h'.get? b = some o := fun b o hm hb q => by
  rcases F.mine b hm with z | ⟨ob, z⟩
  ·exact absurd z hb
  ·have := F.fly.1 b ob z
   rw [q] at this
   cases this
   exact fl.1 b o z
 have any' : ∀ b o, Mine X pins b → s.heap.get? b = some o → ∃ sl, h'.get? b = some { o with slots := sl } := fun b o hm q => by
  by_cases hb : b ∈ frs X.stack
  ·exact slotF b o hb q
  ·exact ⟨o.slots, at' b o hm hb q⟩
 have cellK : ∀ y c, X.env.cells.lookup y = some c → ∀ v, s.heap.IsCell c v → h'.IsCell c v := fun y c e v ⟨o, ho, hd⟩ => by
  obtain ⟨sl, q⟩ := any' c o (.inr (.inr (.inl ⟨y, e⟩))) ho
  exact ⟨_, q, hd⟩
 refine ⟨I.ok, I.os, I.bare, ⟨fun b o e n hb hx => ?_, fun b o e n hb hx => ?_, I.base.free, fun b o e hx => ?_, I.base.tups, I.base.frzs, I.base.tbls⟩, ?_, fun y c e => ?_, I.free, I.freeC, fun p hp => ?_, z8u F.fly.1 fl.1 F.tr I.hok, I.len⟩
 ·have q := I.base.keep b o e n hb hx
  by_cases hf : b ∈ frs X.stack
  ·rcases List.mem_cons.mp (I.stkSub b hf) with z | z
   ·exact absurd (Nat.lt_of_lt_of_le (Heap.lt_size e) I.ok.above) (by rw [z]; exact Nat.lt_irrefl _)
   ·exact absurd z hb
  ·exact at' b o (.inl ⟨o, e⟩) hf q
 ·obtain ⟨sl, q⟩ := I.base.slot b o e n hb hx
  obtain ⟨sl', q'⟩ := any' b _ (.inl ⟨o, e⟩) q
  exact ⟨sl', q'⟩
 ·obtain ⟨o', q⟩ := I.base.there b o e hx
  obtain ⟨sl', q'⟩ := any' b _ (.inl ⟨o, e⟩) q
  exact ⟨_, q'⟩
 ·obtain ⟨m, ⟨o, es, ep, ho, r⟩, hl⟩ := I.loc
  obtain ⟨sl, q⟩ := any' _ o (.inr (.inl rfl)) ho
  refine ⟨m, ⟨_, es, ep, q, r⟩, fun i y v e1 e2 e3 => ?_⟩
  obtain ⟨u, ru, l⟩ := hl i y v e1 e2 e3
  refine ⟨u, ru, ?_⟩
  rcases l with l | ⟨k, c, e, z⟩
  ·exact .inl l
  ·exact .inr ⟨k, c, e, cellK y c e _ z⟩
 ·obtain ⟨v, z⟩ := I.cell y c e
  exact ⟨v, cellK y c e v z⟩
 ·obtain ⟨e, n, ne, nf, d⟩ := I.pin p hp
  refine ⟨?_, n, ne, nf, d⟩
  by_cases hf : p.1 ∈ frs X.stack
  ·rcases List.mem_cons.mp (I.stkSub p.1 hf) with z | z
   ·exact absurd z ne
   ·exact absurd z nf
  ·exact at' p.1 p.2 (.inr (.inr (.inr ⟨p, hp, rfl⟩))) hf e
end L2
end
section
namespace L2
open PySem PySem.Spec PyProof.Rows
abbrev TEX := St → Hp → VK → XK → Prop
def PEX (X : Cx) (e : Expr) (t : TEX) : Prop :=
 ∀ (pins : List (Addr × Obj)) (s : Shared) (σ : St) (H : Hp) (Q : VK) (Ex : XK), Inv X pins σ H s → t σ H Q Ex → wpAny (model X.prog X.w) X.A (eval e X.env) (EP X pins σ Q) (XP X pins σ Ex) s
abbrev TSX := Ends → XK → St → Hp → Prop
def PSX (X : Cx) (st : Stmt) (t : TSX) : Prop :=
 ∀ (pins : List (Addr × Obj)) (s : Shared) (σ : St) (H : Hp) (D : Ends) (Ex : XK), Inv X pins σ H s → t D Ex σ H → wpAny (model X.prog X.w) X.A (exec st X.env) (SP X pins D) (XP X pins σ Ex) s
section
variable {X : Cx} {k : Nat} {C : Addr} {m : Str} {ps : List Str} {sp : Sp} {o e : Expr} {es : List Expr} {ta : TE} {t : TA} {tx : TEX} {apos pos : Pos}
theorem zcq {i : Nat} {y : Str} {pos' : Pos} (hN : X.N.Nodup) (hi : X.N[i]? = some y) (hy : Loc X.env.scope y) (h : PEX X e tx) (hs : swapsWith e (some (.Name y pos')) pos.line X.env = pure false := by rfl)
  (hf : X.fn y = true ∨ X.env.scope.names.lookup y = some .local := by first | exact .inl rfl | exact .inr rfl | assumption) :
  PSX X (.Assign [.Name y pos'] e pos) (fun D Ex σ H => tx σ H (fun v H1 => D.nx (σ.set i (some v)) H1) Ex) := by
 intro pins s σ H D Ex I hw
 refine wpAny_Assign_Name (wpAny_mono (h pins s σ H _ Ex I hw) (fun v s1 hq => ?_) fun _ _ z => z) hs
 obtain ⟨x, H1, I1, r1, q1⟩ := hq
 exact z2x I1 hN hi hy r1 (fun s2 I2 => ⟨_, H1, I2, q1⟩) hf
end
abbrev z3x (X : Cx) (ev : Value) : Cx := { X with A := X.A.mark (some ev), calm := false, xe := fun _ _ => False }
theorem Inv.mark {X : Cx} {pins : List (Addr × Obj)} {σ : St} {H : Hp} {s : Shared} (I : Inv X pins σ H s) (ev : Value) : Inv (z3x X ev) pins σ H s :=
 ⟨⟨I.ok.mod, I.ok.kind, I.ok.glob, I.ok.blt, I.ok.above, I.ok.inj, I.ok.has, I.ok.cab, fun z => absurd z Bool.false_ne_true, I.ok.frames, I.ok.stk, I.ok.exf, I.ok.bs, I.ok.bsz, I.ok.noex, I.ok.exfs, I.ok.funs, I.ok.frf⟩, I.os, I.bare, I.base, I.loc, I.cell, I.free, I.freeC, I.pin, I.hok, I.len⟩
theorem Inv.unmark {X : Cx} {ev : Value} {pins : List (Addr × Obj)} {σ : St} {H : Hp} {s : Shared} (ok : X.Ok) (I : Inv (z3x X ev) pins σ H s) : Inv X pins σ H s :=
 ⟨ok, I.os, I.bare, I.base, I.loc, I.cell, I.free, I.freeC, I.pin, I.hok, I.len⟩
theorem SP.unmark {X : Cx} {ev : Value} {pins : List (Addr × Obj)} {D : Ends} {f : Flow} {s' : Shared} (ok : X.Ok) (h : SP (z3x X ev) pins D f s') : SP X pins D f s' := by
 cases f with
 | next => obtain ⟨σ', H', I, q⟩ := h; exact ⟨σ', H', I.unmark ok, q⟩
 | brk => obtain ⟨σ', H', I, q⟩ := h; exact ⟨σ', H', I.unmark ok, q⟩
 | cont => obtain ⟨σ', H', I, q⟩ := h; exact ⟨σ', H', I.unmark ok, q⟩
 | ret u => obtain ⟨v, σ', H', I, r, q⟩ := h; exact ⟨v, σ', H', I.unmark ok, r, q⟩
theorem zar {K : PySem.W.Frag} {prog : Program} {w : World} {A : Around} {E : Value → Shared → Prop} {s : Shared} {x C D : Addr} {oe : Obj} {b : Bool} {bmB : List Value} {nid : String} {Q : Bool → Shared → Prop} (kx : K.In s.heap) (he : s.heap.get? x = some oe) (hc : oe.cls = .ref C)
  (exD : PySem.W.excIn K D bmB nid = true) (hb : bmB.contains (.type "BaseException") = true) (sb : PySem.W.subIn K (.ref C) (.ref D) = some b) (hq : Q b s) : wpAny (model prog w) A (excMatches (.ref x) (.ref D)) Q E s := by
 obtain ⟨bm, N, nm, qn, bs, hd, sn, sub, ab, col, dd, k0, k1, k2, k3, k5, mN, hD, hN, hni, T⟩ := z8v kx exD
 have lk := PySem.W.looks_subIn (M := model prog w) kx sb
 obtain ⟨hp, g, d, tk, os⟩ := s
 have inB : (Value.ref D :: bm).contains (.type "BaseException") = true := by rw [List.contains_cons, T.hasType hb, Bool.or_true]
 have nt := tc_notTuple
 have fin : wpAny (model prog w) A (isSubtype (.ref C) (.ref D)) (fun r s' => Q r s') E ⟨hp, g, d, tk, os⟩ := lk A _ _ _ (fun _ _ z => z) hq
 unfold excMatches
 repeat (first
  | (with_reducible refine wpAny_loadPart_at he ?_; rw [hc])
  | with_reducible refine wpAny_loadPart_at hD ?_
  | (with_reducible refine wpAny_isSubtype_exc hD ?_; rw [inB])
  | wp_step)
 refine lk _ _ _ _ (fun _ _ z => z) ?_
 cases b <;> (wp_walk; exact hq)
abbrev TH := Value → Ends → St → Hp → Prop
def PH (X : Cx) (hs : List ExceptHandler) (th : TH) : Prop :=
 ∀ (pins : List (Addr × Obj)) (s : Shared) (σ : St) (H : Hp) (D : Ends) (x C t : Addr) (B : Heap), Fly X pins σ H s x C t B → th (.ref C) D σ H → wpAny (model X.prog X.w) X.A (handleBy (.ref x) X.env hs) (SP X pins D) X.xe s
def zas : TH := fun _ _ _ _ => False
theorem zde {X : Cx} : PH X [] zas := fun _ _ _ _ _ _ _ _ _ _ h => h.elim
def tTry (t : TSX) (th : TH) : TS := fun D σ H => t D (fun cls _ H' => th cls D σ H') σ H
theorem zdf {X : Cx} {st : Stmt} {h0 : ExceptHandler} {hs : List ExceptHandler} {pos : Pos} {t : TSX} {th : TH} (hb : PSX X st t) (hh : PH X (h0 :: hs) th) (s1 : X.stack = X.env :: X.outer := by rfl) (s2 : X.env.frame = some X.env.locals := by rfl) :
  PS X (.Try [st] (h0 :: hs) [] [] pos) (tTry t th) := by
 intro pins s σ H D I h
 refine wpAny_Try_except (wpAny_execs_cons (wpAny_mono (hb pins s σ H D _ I h) (fun f s3 q => ?_) fun ev s3 q => ?_))
 ·cases f with
  | next => exact wpAny_execs_nil (wpAny_execs_nil q)
  | ret v => exact q
  | brk => exact q
  | cont => exact q
 ·obtain ⟨x, C, t', B, H', rfl, F, hx⟩ := q
  have fl := F.fly
  rw [s1] at fl
  refine wpAny_looks_onW (by rw [← s1]; exact I.ok.frames) s2 fl fun h4 held up4 => ?_
  refine wpAny_landsW held fun h5 fl5 up5 => ?_
  rw [← s1] at fl5
  exact hh pins _ σ H' D x C t' B (F.on fl5 (up4.trans up5)) hx
end L2
end
section
namespace L2
open PySem PySem.Spec PyProof.Rows
section
variable {X : Cx}
theorem z5u : OpR X (binaryOp .Mult) (fun x y H Q => ∃ z n, x = .str z ∧ y = .int n ∧ MulOk z n ∧ Q (.str (Txt.mul z n)) H) := by
 intro pins s σ H x y v u Q I rx ry h
 obtain ⟨z, n, rfl, rfl, hok, q⟩ := h
 obtain ⟨t, rfl⟩ := rx
 obtain ⟨t', rfl⟩ := ry
 exact SB.mul hok fun t2 k => ⟨.str _, H, I.tok _, ⟨_, rfl⟩, q⟩
theorem zbk : MtR X "str.count" (fun x vs H Q => ∃ z y, x = .str z ∧ vs = [.str y] ∧ Q (.int (Txt.count z y)) H) := by
 intro pins s σ H x vs v us Q I rx rv h
 obtain ⟨z, y, rfl, rfl, q⟩ := h
 obtain ⟨t, rfl⟩ := rx
 obtain ⟨u, rfl, t', rfl⟩ := rv.one
 exact SC.count ⟨.int _, H, I.tok _, ⟨_, rfl⟩, q⟩
theorem z7p (hu : X.A.units < cLine) : OpR X (compareOp .NotEq) (fun x y H Q => ∃ p q xs, x = .ref p ∧ y = .ref q ∧ SqL X.K H p xs ∧ SqL X.K H q [] ∧ Q (.bl (!xs.isEmpty)) H) := by
 intro pins s σ H x y v u Q I rx ry h
 obtain ⟨p, q, xs, rfl, rfl, hp, hq, hQ⟩ := h
 cases rx
 cases ry
 obtain ⟨us, r1, p1, _⟩ := I.list hp
 obtain ⟨ws, r2, p2, _⟩ := I.list hq
 have l1 := r1.length
 cases r2
 cases xs with
 | nil =>
  cases r1
  exact SeqAt.RcNeAt.lists (e := fun _ => true) p1.isList p2.isList rfl hu (fun j h1 h2 => absurd h1 (Nat.not_lt_zero _)) _ _ _ _ (zt I hQ rfl)
 | cons a xs => exact SeqAt.RcNeAt.lists_lengths p1.isList p2.isList (by simp only [List.size_toArray, bne_iff_ne]; rw [← l1]; simp) hu _ _ _ _ (zt I hQ rfl)
theorem z9n {A : Around} {E : Value → Shared → Prop} {Q : Value → Shared → Prop} {pins : List (Addr × Obj)} {σ : St} {H : Hp} {s : Shared} {x : V} {u t : Value} {tp : Addr} {its : List Value} {b : Bool} (I : Inv X pins σ H s) (rx : RelV x u) (ty : TyOf X.K H x t) (ht : IsTup s.heap tp its.toArray)
  (e : PySem.W.kitAny X.K t its = some b) (h : ∀ tk, Q (.bool b) { s with toks := tk }) : wpAny (model X.prog X.w) A (call (.builtin "isinstance") [u, .ref tp]) Q E s := by
 obtain ⟨⟨c0, dd, dt, sl⟩, e0, hc0, n0, hd0⟩ := ht
 simp only at hc0 hd0
 subst hc0 hd0
 cases ty with
 | non => cases (show u = Value.none from rx); exact PySem.W.kia_tup PySem.W.kitx_none I.kIn True.intro e0 e (fun z => nomatch z) h
 | bl y => cases (show u = Value.bool y from rx); exact PySem.W.kia_tup PySem.W.kitx_bool I.kIn True.intro e0 e (fun z => nomatch z) h
 | int i => obtain ⟨t, q⟩ := (show ∃ t, u = Value.int i t from rx); cases q; exact PySem.W.kia_tup PySem.W.kitx_int I.kIn True.intro e0 e (fun z => nomatch z) h
 | str y => obtain ⟨t, q⟩ := (show ∃ t, u = Value.str y t from rx); cases q; exact PySem.W.kia_tup PySem.W.kitx_str I.kIn True.intro e0 e (fun z => nomatch z) h
 | flt y => obtain ⟨t, q⟩ := (show ∃ t, u = Value.float y t from rx); cases q; exact PySem.W.kia_tup PySem.W.kitx_float I.kIn True.intro e0 e (fun z => nomatch z) h
 | @lst a xs ea =>
  cases (show u = Value.ref a from rx)
  obtain ⟨_, _, n, _, h1⟩ := (show ObjOk X.prog X.w H s.heap a (.lst xs) from I.hok a _ ea)
  exact PySem.W.kia_tup PySem.W.kitx_list I.kIn ⟨_, h1, rfl⟩ e0 e (fun z => nomatch z) h
 | @tup a xs ea =>
  cases (show u = Value.ref a from rx)
  obtain ⟨_, _, _, p⟩ := (show ObjOk X.prog X.w H s.heap a (.tup xs) from I.hok a _ ea)
  obtain ⟨o, h1, h2, _⟩ := p
  exact PySem.W.kia_tup PySem.W.kitx_tuple I.kIn ⟨o, h1, h2⟩ e0 e (fun z => nomatch z) h
 | @frz a ob xs ea =>
  cases (show u = Value.ref a from rx)
  obtain ⟨_, _, _, n, _, h1⟩ := (show ObjOk X.prog X.w H s.heap a (.frz ob (.lst xs)) from I.hok a _ ea)
  exact PySem.W.kia_tup PySem.W.kitx_list I.kIn ⟨_, h1, rfl⟩ e0 e (fun z => nomatch z) h
 | @dK a kvs ea =>
  cases (show u = Value.ref a from rx)
  obtain ⟨_, _, vs, _, p⟩ := (show ObjOk X.prog X.w H s.heap a (.dK kvs) from I.hok a _ ea)
  obtain ⟨o, es, ep, h1, h2, _⟩ := p
  exact PySem.W.kia_tup PySem.W.kitx_dict I.kIn ⟨o, h1, h2.1⟩ e0 e (fun z => nomatch z) h
 | @dT a kvs ea =>
  cases (show u = Value.ref a from rx)
  obtain ⟨_, _, xs, _, o, es, ep, h1, h2, _⟩ := (show ObjOk X.prog X.w H s.heap a (.dT kvs) from I.hok a _ ea)
  exact PySem.W.kia_tup PySem.W.kitx_dict I.kIn ⟨o, h1, h2.1⟩ e0 e (fun z => nomatch z) h
 | @ins a C dx fs ea cl ha hn htk hm =>
  cases (show u = Value.ref a from rx)
  obtain ⟨mA, O, _⟩ := z3u I.hok ea
  obtain ⟨od, J, _⟩ := O.look
  exact PySem.W.kia_tup (PySem.W.kitx_own (cl.get _) cl.hd ha hn htk hm) I.kIn J e0 e (fun z => nomatch z) h
theorem z4c : CallR X (.builtin "isinstance") (fun xs H Q => ∃ x p c d t b, xs = [x, .ref p] ∧ SqT X.K H p [.ty c, .ty d] ∧ TyOf X.K H x t ∧ PySem.W.kitAny X.K t [.type c, .type d] = some b ∧ Q (.bl b) H) := by
 intro pins s σ H xs us Q I r h
 obtain ⟨x, p, c, d, t, b, rfl, hp, ty, e, q⟩ := h
 obtain ⟨u, w', rfl, r1, r2⟩ := z7b r
 cases r2
 obtain ⟨its, rv, pl, _⟩ := I.tuple hp
 obtain ⟨u1, u2, rfl, q1, q2⟩ := rv.two
 cases q1
 cases q2
 exact z9n I r1 ty pl e fun tk => ⟨.bl b, H, I.tok _, rfl, q⟩
def KHas (P : Program) (w : World) (K : PySem.W.Frag) (mg : Str → Option Value) (base : Heap) (k : Nat) (C : Addr) (ps : List Str) (sp : Sp) : Prop :=
 ∃ f fd, FnOk P w K mg base CX0 k f fd ps sp ∧ Mk K C f ∧ Binds K fd ps []
theorem z8w {k : Nat} {C : Addr} {x : Str} {ps : List Str} {sp : Sp} {p pos : Pos} (G : KHas X.prog X.w X.K X.mg X.base k C ps sp) (hr : Room (k + 1) X.A) (hg : Gl X x) (hm : X.mg x = some (.ref C)) (hdb : (x == ("__debug__" : Str)) = false := by decide) : PE X (.Call (.Name x p) [] [] pos) (z5n C sp [] E0 tNil) := by
 obtain ⟨f, fd, F, M, hb⟩ := G
 exact zbf M F hr hg hm hb .nil z7c hdb
end
def KDef (K : PySem.W.Frag) (C : Addr) (qual : Str) (st : Stmt) (ps : List Str) : Prop := ∃ f fd, Fun K "__init__" qual st f fd ∧ Mk K C f ∧ Binds K fd ps []
theorem KDef.ok {P : Program} {w : World} {K : PySem.W.Frag} {mg : Str → Option Value} {base : Heap} {C : Addr} {qual : Str} {st : Stmt} {N ps : List Str} {k : Nat} {sp : Sp} (D : KDef K C qual st ps) (S : FnScope N ps (ze st)) (len : ∀ vs H Q E, sp vs H Q E → vs.length = ps.length)
  (hbody : ∀ (f : Addr) (cdv : Value) (A : Around) (outer : List Env) (s : Shared) (H : Hp) (vs : List V) (Q : VK) (E : XK), Room k (A.deeper (envOfC qual (ze st) s.heap.objs.size f cdv)) → sp vs H Q E →
   ∃ t, PSs (cxOf CX0 P w K mg base N qual (ze st) f cdv A outer s H E).nox (z1n st) t ∧ t { nx := fun _ H' => Q .non H', rt := Q } (start N vs) H) : KHas P w K mg base (k + 1) C ps sp := by
 obtain ⟨f, fd, F, hm, hb⟩ := D
 exact ⟨f, fd, F.ok S len (fun cdv A outer s H vs Q E hr h => hbody f cdv A outer s H vs Q E hr h), hm, hb⟩
def z8x : Sp := fun _ _ _ _ => False
theorem zat {P : Program} {w : World} {K : PySem.W.Frag} {mg : Str → Option Value} {base : Heap} {x : Str} {st : Stmt} {ps : List Str} {k : Nat} (D : Def K mg x st ps) : Has P w K mg base k x ps z8x := by
 obtain ⟨f, fd, F, hm, hb⟩ := D
 refine ⟨f, fd, ⟨fun _ _ _ _ h => h.elim, fun _ _ _ _ _ _ _ _ _ _ _ _ _ h => h.elim⟩, hm, F.kp, hb, ?_⟩
 obtain ⟨oc, od, kV, doc, pm, an, cdv, ct, osl, rfl, lk, hcd⟩ := F.ex
 exact ⟨oc, od, osl, lk⟩
theorem z44 (K : PySem.W.Frag) : PySem.W.kitOne K (.type "list") (.type "list") = some true := by with_unfolding_all rfl
theorem z12 (K : PySem.W.Frag) : PySem.W.kitOne K (.type "int") (.type "int") = some true ∧ PySem.W.kitOne K (.type "bool") (.type "int") = some true ∧ PySem.W.kitOne K (.type "str") (.type "int") = some false ∧ PySem.W.kitOne K (.type "str") (.type "str") = some true ∧ PySem.W.kitOne K (.type "int") (.type "str") = some false ∧
  PySem.W.kitOne K (.type "str") (.type "bool") = some false ∧ PySem.W.kitOne K (.type "tuple") (.type "tuple") = some true ∧ PySem.W.kitOne K (.type "tuple") (.type "list") = some false ∧ PySem.W.kitOne K (.type "list") (.type "tuple") = some false := by
 refine ⟨?_, ?_, ?_, ?_, ?_, ?_, ?_, ?_, ?_⟩ <;> with_unfolding_all rfl
theorem z2f (K : PySem.W.Frag) : PySem.W.kitAny K (.type "int") [.type "list", .type "tuple"] = some false ∧ PySem.W.kitAny K (.type "bool") [.type "list", .type "tuple"] = some false ∧ PySem.W.kitAny K (.type "str") [.type "list", .type "tuple"] = some false ∧
  PySem.W.kitAny K (.type "list") [.type "list", .type "tuple"] = some true ∧ PySem.W.kitAny K (.type "tuple") [.type "list", .type "tuple"] = some true := by
 refine ⟨?_, ?_, ?_, ?_, ?_⟩ <;> with_unfolding_all rfl
theorem Has.or {P : Program} {w : World} {K : PySem.W.Frag} {mg : Str → Option Value} {base : Heap} {k k' n : Nat} {x : Str} {ps : List Str} {sp sp' : Sp} (G : Has P w K mg base k x ps sp) (G' : Has P w K mg base k' x ps sp') (h1 : k ≤ n) (h2 : k' ≤ n) : Has P w K mg base n x ps (fun vs H Q E => sp vs H Q E ∨ sp' vs H Q E) := by
 obtain ⟨f, fd, F, hm, hk, hb, oc, od, osl, lk⟩ := G
 obtain ⟨f', fd', F', hm', hk', hb', oc', od', osl', lk'⟩ := G'
 have e := hm.symm.trans hm'
 cases e
 rw [lk] at lk'
 have e2 := Option.some.inj lk'
 injection e2 with _ _ e3 _
 injection e3 with e4
 subst e4
 refine ⟨f, fd, ⟨fun vs H Q E h => h.elim (F.len vs H Q E) (F'.len vs H Q E), fun A outer s H args us vs Q E hr he hB hv hs => ?_⟩, hm, hk, hb, oc, od, osl, lk⟩
 rcases hs with hs | hs
 ·exact (F.mono h1).run A outer s H args us vs Q E hr he hB hv hs
 ·exact (F'.mono h2).run A outer s H args us vs Q E hr he hB hv hs
section
variable {X : Cx} {K : PySem.W.Frag}
theorem zbl (h : X.K = K := by rfl) : IxR X (rIxT K) := h ▸ ix_tup
theorem zau (h : X.K = K := by rfl) : IxR X (rIxL K) := h ▸ ix_list
theorem z2n (h : X.K = K := by rfl) : IxR X (rIx K) := h ▸ zd7
theorem z53 (h : X.K = K := by rfl) : OpR X (compareOp .In) (rIn K false) := h ▸ zae
end
end L2
end
section
namespace L2
open PySem PySem.Spec PyProof.Rows
end L2
namespace L2
open PySem PySem.Spec PyProof.Rows
section
variable (P : Program) (w : World)
end
section
variable {P : Program} {w : World} {H H' : Hp} {h h' : Heap} {a : Addr} {o : HO}
end
section
variable {P : Program} {w : World} {H : Hp} {h h' : Heap} {x e : Addr} {o' : HO}
end
section
variable {fs fs' ex ex' : List Addr} {H H1 H2 : Hp} {h h1 h2 h' : Heap} {a x e : Addr} {o : HO}
end
end L2
namespace L2
open PySem PySem.Spec PyProof.Rows
section
variable {X : Cx} {pins : List (Addr × Obj)} {σ : List (Option V)} {H H' : Hp} {s : Shared} {h' : Heap}
end
end L2
namespace L2
open PySem PySem.Spec PyProof.Rows
section
variable {X : Cx}
variable {a b : Expr} {ta tb : TE} {pos : Pos}
variable {tA tB' : TT} {rest : List Expr}
end
end L2
namespace L2
open PySem PySem.Spec PyProof.Rows
section
variable {X : Cx} {pins : List (Addr × Obj)} {σ : St} {H : Hp} {s : Shared} {a : Addr} {xs ys : List V}
end
section
variable {X : Cx} {pins : List (Addr × Obj)} {σ : St} {H : Hp} {s : Shared} {E : Value → Shared → Prop}
end
section
variable {X : Cx} {st : Stmt} {rest : List Stmt} {t u : TS} {e : Expr} {te : TE} {pos : Pos}
end
section
variable {X : Cx} {pos : Pos}
end
section
variable {X : Cx} {pos : Pos}
end
end L2
namespace L2
open PySem PySem.Spec PyProof.Rows
section
variable {X : Cx} {tg : Expr}
end
end L2
namespace L2
open PySem PySem.Spec PyProof.Rows
section
variable {X : Cx} {a b c : Expr} {ta tb tc : TE} {pos : Pos}
end
section
variable {X : Cx} {a b c : Expr} {ta tb tc : TE} {pos : Pos}
end
end L2
namespace L2
open PySem PySem.Spec PyProof.Rows
section
variable {prog : Program} {w : World} {A : Around} {E : Value → Shared → Prop} {s : Shared} {K : PySem.W.Frag} {x dx C f : Addr} {mA : Str → Option Value} {name : Str} {v : Value}
end
section
variable {P : Program} {w : World} {H H' : Hp} {h h' : Heap} {a C dx : Addr} {fs fs' : List (Str × V)}
end
section
variable {X : Cx} {pins : List (Addr × Obj)} {σ : St} {H : Hp} {s : Shared} {a C dx : Addr} {fs : List (Str × V)} {f : Str} {v : V} {A : Around} {E : Value → Shared → Prop}
end
section
variable {X : Cx} {o e value : Expr} {f : Str} {pos pos' tpos : Pos} {ta tv : TE}
end
section
variable {X : Cx} {pins : List (Addr × Obj)} {σ : St} {H : Hp} {s : Shared} {A : Around} {E : Value → Shared → Prop} {Q : Value → Shared → Prop} {c : Value} {b : Bool}
end
end L2
namespace L2
open PySem PySem.Spec PyProof.Rows
section
variable {X : Cx} {e : Expr} {es : List Expr} {te : TE} {t : TA} {pos : Pos}
end
section
variable {X : Cx} {pins : List (Addr × Obj)} {σ : St} {H : Hp} {s s' : Shared}
end
section
variable {X : Cx} {CX : CXT} {k : Nat} {f C : Addr} {fd : FuncData} {ps : List Str} {sp : Sp} {dvs : List V} {ds : List Value} {E : XK} {x m : Str} {p pos apos : Pos} {e o : Expr} {es : List Expr} {ta : TE} {t : TA}
end
section
variable {X : Cx} {CX : CXT} {k : Nat} {f C : Addr} {fd : FuncData} {ps ks : List Str} {sp : Sp} {E : XK} {x m : Str} {p pos apos kpos : Pos} {e o : Expr} {es : List Expr} {kws : List Keyword} {te ta : TE} {t tk : TA} {nm : Option Str}
variable {g : List Value → List Value → List Value} {gV : List V → List V → List V}
end
end L2
namespace L2
open PySem PySem.Spec PyProof.Rows
section
variable {X : Cx} {x : Str} {p pos : Pos} {e : Expr} {es : List Expr} {t : TA} {id T : String} {r : List V → Hp → VK → Prop}
end
end L2
namespace L2
open PySem PySem.Spec PyProof.Rows
section
variable {κ : Type} [DecidableEq κ]
def valV (kvs : List (κ × V)) (k : κ) : Option V := (kvs.find? fun kv => decide (kv.1 = k)).map (·.2)
def putK (kvs : List (κ × V)) (k : κ) (v : V) : List (κ × V) :=
 if (kvs.any fun kv => decide (kv.1 = k)) = true then kvs.map (fun kv => if kv.1 = k then (kv.1, v) else kv) else kvs ++ [(k, v)]
def zc6 (kvs : List (κ × V)) (k : κ) : List (κ × V) := kvs.filter fun kv => decide (kv.1 ≠ k)
theorem z5d {p : κ × V} {r : List (κ × V)} {k : κ} (e : p.1 = k) : valV (p :: r) k = some p.2 := by simp [valV, List.find?_cons, e]
theorem z5e {p : κ × V} {r : List (κ × V)} {k : κ} (e : ¬ p.1 = k) : valV (p :: r) k = valV r k := by simp [valV, List.find?_cons, e]
theorem z7q (k : κ) : ∀ kvs : List (κ × V), (kvs.any fun kv => decide (kv.1 = k)) = (valV kvs k).isSome
 | [] => rfl
 | p :: r => by
  rw [List.any_cons]
  by_cases e : p.1 = k
  ·simp only [z5d e, decide_eq_true e, Bool.true_or, Option.isSome_some]
  ·rw [z5e e, decide_eq_false e, Bool.false_or]; exact z7q k r
theorem z8f (kvs : List (κ × V)) (k : κ) (v : V) : (putK kvs k v).length ≤ kvs.length + 1 := by
 unfold putK
 split
 ·rw [List.length_map]; omega
 ·rw [List.length_append, List.length_cons, List.length_nil]; omega
theorem RelO.isSome_eq {o : Option V} {u : Option Value} (r : RelO o u) : o.isSome = u.isSome := by
 cases o with
 | none => cases u with
  | none => rfl
  | some _ => exact (show False from r).elim
 | some _ => cases u with
  | none => exact (show False from r).elim
  | some _ => rfl
theorem RelO.getD {o : Option V} {u : Option Value} {d : V} {d' : Value} (r : RelO o u) (rd : RelV d d') : RelV (o.getD d) (u.getD d') := by
 cases o with
 | none => cases u with
  | none => exact rd
  | some _ => exact (show False from r).elim
 | some _ => cases u with
  | none => exact (show False from r).elim
  | some _ => exact r
theorem KV.val {kvs : List (κ × V)} {vs : List (κ × Value)} (r : KV kvs vs) (k : κ) : RelO (valV kvs k) (valueAt vs k) := by
 unfold KV at r
 induction r with
 | nil => exact True.intro
 | @cons p q ps qs h t ih =>
  obtain ⟨h1, h2⟩ := h
  by_cases e : p.1 = k
  ·have e' : q.1 = k := h1.symm.trans e
   have b : valueAt (q :: qs) k = some q.2 := by simp [valueAt, List.find?_cons, e']
   rw [z5d e, b]; exact h2
  ·have e' : ¬ q.1 = k := fun z => e (h1.trans z)
   have b : valueAt (q :: qs) k = valueAt qs k := by simp [valueAt, List.find?_cons, e']
   rw [z5e e, b]; exact ih
theorem KV.any {kvs : List (κ × V)} {vs : List (κ × Value)} (r : KV kvs vs) (k : κ) : (kvs.any fun kv => decide (kv.1 = k)) = vs.any fun kv => decide (kv.1 = k) := by
 unfold KV at r
 induction r with
 | nil => rfl
 | cons h t ih => rw [List.any_cons, List.any_cons, ih, h.1]
theorem KV.repl {kvs : List (κ × V)} {vs : List (κ × Value)} (r : KV kvs vs) (k : κ) {y : V} {u : Value} (ry : RelV y u) :
  KV (kvs.map fun kv => if kv.1 = k then (kv.1, y) else kv) (vs.map fun kv => if kv.1 = k then (kv.1, u) else kv) := by
 unfold KV at r ⊢
 induction r with
 | nil => exact .nil
 | @cons p q ps qs h t ih =>
  rw [List.map_cons, List.map_cons]
  refine .cons ?_ ih
  obtain ⟨h1, h2⟩ := h
  by_cases e : p.1 = k
  ·rw [if_pos e, if_pos (h1.symm.trans e)]; exact ⟨h1, ry⟩
  ·rw [if_neg e, if_neg (fun z => e (h1.trans z))]; exact ⟨h1, h2⟩
theorem KV.put {kvs : List (κ × V)} {vs : List (κ × Value)} (r : KV kvs vs) (k : κ) {y : V} {u : Value} (ry : RelV y u) : KV (putK kvs k y) (stored vs k u) := by
 unfold putK stored
 rw [r.any k]
 by_cases e : (vs.any fun kv => decide (kv.1 = k)) = true
 ·rw [if_pos e, if_pos e]; exact r.repl k ry
 ·rw [if_neg e, if_neg e]; exact Paired.snoc r ⟨rfl, ry⟩
theorem KV.drop {kvs : List (κ × V)} {vs : List (κ × Value)} (r : KV kvs vs) (k : κ) : KV (zc6 kvs k) (without vs k) := by
 unfold KV at r ⊢
 unfold zc6 without
 induction r with
 | nil => exact .nil
 | @cons p q ps qs h t ih =>
  obtain ⟨h1, h2⟩ := h
  rw [List.filter_cons, List.filter_cons]
  by_cases e : p.1 = k
  ·have a : ¬ decide (p.1 ≠ k) = true := by simp [e]
   have b : ¬ decide (q.1 ≠ k) = true := by simp [h1.symm.trans e]
   rw [if_neg a, if_neg b]; exact ih
  ·have e' : ¬ q.1 = k := fun z => e (h1.trans z)
   have a : decide (p.1 ≠ k) = true := by simp [e]
   have b : decide (q.1 ≠ k) = true := by simp [e']
   rw [if_pos a, if_pos b]; exact .cons ⟨h1, h2⟩ ih
theorem KV.keys {kvs : List (κ × V)} {vs : List (κ × Value)} (r : KV kvs vs) : kvs.map (·.1) = vs.map (·.1) := by
 unfold KV at r
 induction r with
 | nil => rfl
 | cons h t ih => rw [List.map_cons, List.map_cons, ih, h.1]
theorem KV.length {kvs : List (κ × V)} {vs : List (κ × Value)} (r : KV kvs vs) : kvs.length = vs.length := Paired.length r
end
theorem zdq {P : Program} {w : World} {k : Key} {u : Value} (r : RelV (kV k) u) : (z1i P w).is k u = true := by
 cases k with
 | inl i => obtain ⟨t, e⟩ := (show ∃ t, u = Value.int i t from r); subst e; exact z8b P w i t
 | inr x => obtain ⟨t, e⟩ := (show ∃ t, u = Value.str x t from r); subst e; exact z8c P w x t
abbrev KT (H : Hp) : List (List Key × V) → List (List Key × Addr × Value) → Prop := Paired fun p q => p.1 = q.1 ∧ H q.2.1 = some (.tup (p.1.map kV)) ∧ RelV p.2 q.2.2
theorem KT.val {H : Hp} {kvs : List (List Key × V)} {xs : List (List Key × Addr × Value)} (r : KT H kvs xs) (k : List Key) : RelO (valV kvs k) ((atKey xs k).map (·.2)) := by
 induction r with
 | nil => exact True.intro
 | @cons p q ps qs h t ih =>
  obtain ⟨h1, _, h2⟩ := h
  by_cases e : p.1 = k
  ·have e' : q.1 = k := h1.symm.trans e
   have b : atKey (q :: qs) k = some q.2 := by simp [atKey, List.find?_cons, e']
   rw [z5d e, b]; exact h2
  ·have e' : ¬ q.1 = k := fun z => e (h1.trans z)
   have b : atKey (q :: qs) k = atKey qs k := by simp [atKey, List.find?_cons, e']
   rw [z5e e, b]; exact ih
theorem KT.repl {H : Hp} {kvs : List (List Key × V)} {xs : List (List Key × Addr × Value)} (r : KT H kvs xs) (k : List Key) {y : V} {u : Value} (ry : RelV y u) :
  KT H (kvs.map fun kv => if kv.1 = k then (kv.1, y) else kv) (xs.map (putAt k u)) := by
 induction r with
 | nil => exact .nil
 | @cons p q ps qs h t ih =>
  rw [List.map_cons, List.map_cons]
  refine .cons ?_ ih
  obtain ⟨h1, h2, h3⟩ := h
  unfold putAt
  by_cases e : p.1 = k
  ·rw [if_pos e, if_pos (h1.symm.trans e)]; exact ⟨h1, h2, ry⟩
  ·rw [if_neg e, if_neg (fun z => e (h1.trans z))]; exact ⟨h1, h2, h3⟩
theorem KT.put {H : Hp} {kvs : List (List Key × V)} {xs : List (List Key × Addr × Value)} (r : KT H kvs xs) (k : List Key) {b : Addr} {y : V} {u : Value} (hb : H b = some (.tup (k.map kV))) (ry : RelV y u) :
  KT H (putK kvs k y) (storedH xs k b u) := by
 have e : (kvs.any fun kv => decide (kv.1 = k)) = (atKey xs k).isSome := by
  rw [z7q, (r.val k).isSome_eq, Option.isSome_map]
 unfold putK storedH
 rw [e]
 by_cases q : (atKey xs k).isSome = true
 ·rw [if_pos q, if_pos q]; exact r.repl k ry
 ·rw [if_neg q, if_neg q]; exact Paired.snoc r ⟨rfl, hb, ry⟩
theorem KT.keeps {H H' : Hp} {kvs : List (List Key × V)} {xs : List (List Key × Addr × Value)} (r : KT H kvs xs) (ht : ∀ b ys, H b = some (.tup ys) → H' b = some (.tup ys)) : KT H' kvs xs :=
 Paired.mapP r fun _ _ z => ⟨z.1, ht _ _ z.2.1, z.2.2⟩
section
variable {P : Program} {w : World} {H : Hp} {h : Heap} {a : Addr}
end
def DGet (H : Hp) (a : Addr) (y : V) (r : Option V) : Prop :=
 (∃ kvs k, Rd H a (.dK kvs) ∧ y = kV k ∧ r = valV kvs k) ∨ ∃ kvs k b, Rd H a (.dT kvs) ∧ y = .ref b ∧ H b = some (.tup (k.map kV)) ∧ r = valV kvs k
def DPut (H : Hp) (a : Addr) (y v : V) (H' : Hp) : Prop :=
 (∃ kvs k, H a = some (.dK kvs) ∧ y = kV k ∧ kvs.length < sizeLine ∧ H' = upd H a (.dK (putK kvs k v))) ∨
 ∃ kvs k b, H a = some (.dT kvs) ∧ y = .ref b ∧ H b = some (.tup (k.map kV)) ∧ kvs.length < sizeLine ∧ H' = upd H a (.dT (putK kvs k v))
theorem DGet.k {H : Hp} {a : Addr} {kvs : List (Key × V)} {k : Key} (e : H a = some (.dK kvs)) : DGet H a (kV k) (valV kvs k) := .inl ⟨kvs, k, .inl e, rfl, rfl⟩
theorem DGet.t {H : Hp} {a b : Addr} {kvs : List (List Key × V)} {k : List Key} (e : H a = some (.dT kvs)) (eb : H b = some (.tup (k.map kV))) : DGet H a (.ref b) (valV kvs k) := .inr ⟨kvs, k, b, .inl e, rfl, eb, rfl⟩
theorem DPut.k {H : Hp} {a : Addr} {kvs : List (Key × V)} {k : Key} {v : V} (e : H a = some (.dK kvs)) (hl : kvs.length < sizeLine) : DPut H a (kV k) v (upd H a (.dK (putK kvs k v))) := .inl ⟨kvs, k, e, rfl, hl, rfl⟩
theorem DPut.t {H : Hp} {a b : Addr} {kvs : List (List Key × V)} {k : List Key} {v : V} (e : H a = some (.dT kvs)) (eb : H b = some (.tup (k.map kV))) (hl : kvs.length < sizeLine) :
  DPut H a (.ref b) v (upd H a (.dT (putK kvs k v))) := .inr ⟨kvs, k, b, e, rfl, eb, hl, rfl⟩
section
variable {X : Cx} {pins : List (Addr × Obj)} {σ : St} {H : Hp} {s : Shared} {a : Addr} {y v : V} {u r : Value} {o : Option V} {A : Around} {E : Value → Shared → Prop}
theorem Inv.big (I : Inv X pins σ H s) : sysModules < s.heap.objs.size := by
 have h : mainGlobals < s.heap.objs.size := (I.mod.glob.keeps I.bk).lt
 exact Nat.lt_trans (by decide) h
theorem zdg {P : Program} {w : World} {H' : Hp} {h' : Heap} {kvs : List (Key × V)} {vs : List (Key × Value)} (z : kvs.length ≤ sizeLine) (hd : (a == sysModules) = false) (rel : KV kvs vs) (dd : h'.DictOf (z1i P w) a vs) :
  ObjOk P w H' h' a (.dK kvs) := ⟨z, hd, vs, rel, dd⟩
end
section
variable {X : Cx} {pins : List (Addr × Obj)} {σ : St} {H : Hp} {s : Shared} {a : Addr} {kvs : List (Key × V)} {k : Key} {u : Value} {A : Around} {E : Value → Shared → Prop}
end
section
variable {X : Cx} {o i e value : Expr} {pos pos' tpos : Pos} {td ty tv : TE}
end
theorem zbm {P : Program} {w : World} {H : Hp} (h : Heap) (hb : sysModules < h.objs.size) : ObjOk P w H (h.push { cls := .type "dict", data := .dict #[] }) h.objs.size (.dK []) :=
 ⟨Nat.zero_le _, beq_eq_false_iff_ne.mpr (Ne.symm (Nat.ne_of_lt hb)), [], .nil, Heap.DictOf.new h⟩
def zav : TE := fun _ H Q => ∀ p, H p = none → Q (.ref p) (upd H p (.dK []))
section
variable {X : Cx} {pos : Pos}
theorem z5f : PE X (.Dict [] [] pos) zav := fun pins s σ H Q I h =>
 wpAny_Dict_empty ⟨.ref s.heap.objs.size, _, I.laid (a := s.heap.objs.size) (o := .dK []) (t' := s.toks) (fun _ _ q => Heap.get?_push_of_some _ q) (Nat.le_refl _) (zbm s.heap I.big), rfl, h _ (I.hok.fresh (Nat.le_refl _))⟩
end
def z2s (kvs more : List (Key × V)) : List (Key × V) := more.foldl (fun acc kv => putK acc kv.1 kv.2) kvs
theorem KV.merge : ∀ {more : List (Key × V)} {rs : List (Key × Value)} {kvs : List (Key × V)} {vs : List (Key × Value)}, KV more rs → KV kvs vs → KV (z2s kvs more) (merged vs rs) := by
 intro more rs kvs vs r
 unfold KV at r
 induction r generalizing kvs vs with
 | nil => intro q; exact q
 | @cons p q ps qs h t ih =>
  intro r0
  have e : KV (putK kvs p.1 p.2) (stored vs q.1 q.2) := by
   have := r0.put p.1 h.2
   rw [← h.1]; exact this
  exact ih e
theorem z45 : ∀ (more kvs : List (Key × V)), (z2s kvs more).length ≤ kvs.length + more.length
 | [], kvs => by show kvs.length ≤ kvs.length + 0; omega
 | p :: r, kvs => by
  have h1 := z45 r (putK kvs p.1 p.2)
  have h2 := z8f kvs p.1 p.2
  show (z2s (putK kvs p.1 p.2) r).length ≤ _
  rw [List.length_cons]; omega
structure M1 (X : Cx) (o : Expr) (m : Str) (apos : Pos) (e : Expr) (cpos : Pos) : Prop where
 base : attributeBase o m X.env (eval o X.env) = eval o X.env
 few : ((backTo cpos (starEach [e] X.env)).all (fun x => !x.1) && (backToKw cpos (keywordEach [] X.env)).all (fun x => x.1.isSome)
  && decide (([e] : List Expr).length + ([] : List Keyword).length + (if ([] : List Keyword).isEmpty then 0 else 1) < 30)) = true
 line : (apos.endLine == cpos.line) = true
 trees : backTo cpos (starEach [e] X.env) = [(false, eval e X.env)]
structure M2 (X : Cx) (o : Expr) (m : Str) (apos : Pos) (e f : Expr) (cpos : Pos) : Prop where
 base : attributeBase o m X.env (eval o X.env) = eval o X.env
 few : ((backTo cpos (starEach [e, f] X.env)).all (fun x => !x.1) && (backToKw cpos (keywordEach [] X.env)).all (fun x => x.1.isSome)
  && decide (([e, f] : List Expr).length + ([] : List Keyword).length + (if ([] : List Keyword).isEmpty then 0 else 1) < 30)) = true
 line : (apos.endLine == cpos.line) = true
 trees : backTo cpos (starEach [e, f] X.env) = [(false, eval e X.env), (false, eval f X.env)]
section
variable {X : Cx} {pins : List (Addr × Obj)} {σ : St} {H : Hp} {s : Shared} {a : Addr} {y d : V} {u r : Value} {o : Option V} {A : Around} {E : Value → Shared → Prop}
end
section
variable {X : Cx} {o e f : Expr} {apos cpos : Pos} {td ty tx : TE}
end
section
variable {X : Cx} {pins : List (Addr × Obj)} {σ : St} {H : Hp} {s : Shared} {a : Addr} {kvs : List (Key × V)} {A : Around} {E : Value → Shared → Prop}
end
section
variable {X : Cx} {pins : List (Addr × Obj)} {σ : St} {H : Hp} {s : Shared} {a : Addr} {y : V} {u : Value} {A : Around} {E : Value → Shared → Prop}
end
end L2
namespace Att
open PySem PySem.W PySem.Calls PyProof.Rows
section
variable {prog : Program} {w : World} {A : Around} {E : Value → Shared → Prop} {s : Shared} {K : Frag}
end
end Att
namespace L2
open PySem PySem.Spec PyProof.Rows
end L2
namespace L2
open PySem PySem.Spec PyProof.Rows
end L2
namespace L2
open PySem PySem.Spec PyProof.Rows
section
variable {P : Program} {w : World} {K : PySem.W.Frag} {mg : Str → Option Value} {base : Heap}
end
section
variable {X : Cx}
end
section
variable {κ : Type} [DecidableEq κ]
end
end L2
end
section
namespace PySem.W
open PySem PySem.Spec PySem.Calls PyProof.Rows
open Builtin Builtin.Getset_descriptor
def ErrAt (x C : Addr) (h : Heap) : Prop := ∃ ob, h.get? x = some ob ∧ ob.cls = .ref C
section
variable {prog : Program} {w : World} {A : Around} {E : Value → Shared → Prop} {s : Shared} {K : Frag} {x C : Addr} {R : Result → Shared → Prop}
theorem z33 {M : Model} {h : Heap} (p : ErrAt x C h) : Looks M h (typeOf (.ref x)) (.ref C) := by
 rcases p with ⟨ob, e1, e2⟩
 rw [← e2]
 exact (Looks.ld e1).andThen .now
structure ErrCls (K : Frag) (C : Addr) : Prop where
 ga : findIn K (.ref C) "__getattribute__" = some (some (.builtin "BaseException.__getattribute__"))
 no : findIn K (.ref C) "__getattr__" = some none
 cl : findIn K (.ref C) "__class__" = some (some (.builtin "object.__class__"))
 sp : specialIn K (.builtin "object.__class__") "__get__" = some (some (.builtin "getset_descriptor.__get__"))
 tk : takesIn K (.builtin "object.__class__") = some true
 mo : mroIn K C (.type "object") = some true
 mb : mroIn K C (.type "BaseException") = some true
theorem zcr {tp : Value} (X : K.In s.heap) (p : ErrAt x C s.heap) (c : ErrCls K C) (h : R (.ok (.ret (.ref C))) s) :
  codeAny (model prog w) A (.call (.builtin "getset_descriptor.__get__") ⟨[.builtin "object.__class__", .ref x, tp], []⟩) R s := by
 obtain ⟨h0, g0, d0, t0, o0⟩ := s
 have Lt := z33 (M := model prog w) p
 have Lm := looks_mroIn (M := model prog w) X c.mo
 refine codeAny_call_builtin KF.slot_gs.plain KF.entry_gs (KF.slot_gs.check _ _ _ _ _ _ _ _ KF.type_class
  (KF.args_gs _ _ _) ?_)
 unfold Builtin.«getset_descriptor.__get__»
 unfold descrGet
 rw [dga_obj]
 refine wpAny_bind (wpAny_pure ?_)
 unfold descrGetter descrCheckInstance
 unfold descrNameAndClass isInstance
 simp only [KF.owner_class]
 repeat lk
 refine ⟨Code.quiet_builtin _ (by decide +kernel), ?_⟩
 refine codeAny_builtin KF.entry_class ?_
 unfold Builtin.«object.__class__»
 unfold shownTypeOf
 repeat lk
 exact h
theorem zaw {tk : Tok} {Q : PySem.Fin → Shared → Prop} (X : K.In s.heap) (p : ErrAt x C s.heap) (c : ErrCls K C) (h : Q (.done (.ret (.ref C))) s) :
    wpAny (model prog w) A (Builtin.«object.__getattribute__» ⟨[.ref x, .str "__class__" tk], []⟩) Q E s := by
  obtain ⟨h0, g0, d0, t0, o0⟩ := s
  have Lt := z33 (M := model prog w) p
  have L1 := looks_findIn (M := model prog w) X c.cl
  have L2 := looks_specialIn (M := model prog w) X c.sp
  have L3 := looks_takesIn (M := model prog w) X c.tk
  unfold Builtin.«object.__getattribute__»
  repeat (first
    | (with_reducible show wpAny _ _ (call (Value.builtin "getset_descriptor.__get__") _ _) _ _ _
       refine wpAny_call (zcr X p c ?_))
    | lk)
  exact h
theorem zax {M : Model} {nv : Value} {Q : Unit → Shared → Prop} (X : K.In s.heap) (p : ErrAt x C s.heap) (c : ErrCls K C) (h : Q () s) :
  wpAny M A (checkBuiltinCall "BaseException.__getattribute__" ⟨[.ref x, nv], []⟩) Q E s := by
 obtain ⟨h0, g0, d0, t0, o0⟩ := s
 have Lt := z33 (M := M) p
 have Lm := looks_mroIn (M := M) X c.mb
 have hk1 : builtinKind "BaseException.__getattribute__" = some .slot := by decide +kernel
 have hk2 : splitId "BaseException.__getattribute__" = some ("BaseException", "__getattribute__") := by decide +kernel
 have ha := F.args_bexc_ga (.ref x) nv
 simp only [checkBuiltinCall, hk1, hk2]
 unfold isInstance
 repeat lk
 exact h
theorem zbn {tk : Tok} (X : K.In s.heap) (p : ErrAt x C s.heap) (c : ErrCls K C) (h : R (.ok (.ret (.ref C))) s) :
  codeAny (model prog w) A (.call (.builtin "BaseException.__getattribute__") ⟨[.ref x, .str "__class__" tk], []⟩) R s :=
 codeAny_call_builtin (by decide +kernel) F.entry_bexc_ga (zax X p c (zaw X p c h))
theorem zbo {Q : Option Value → Shared → Prop} (X : K.In s.heap) (p : ErrAt x C s.heap) (c : ErrCls K C) (h : Q (some (.ref C)) { s with toks := s.toks + 1 }) :
  wpAny (model prog w) A (getAttr? (.ref x) "__class__") Q E s := by
 obtain ⟨h0, g0, d0, t0, o0⟩ := s
 have Lt := z33 (M := model prog w) p
 have L1 := looks_findIn (M := model prog w) X c.ga
 have L2 := looks_findIn (M := model prog w) X c.no
 have e1 : (Value.builtin "BaseException.__getattribute__" == Value.builtin "object.__getattribute__") = false := by decide +kernel
 have e2 : (onTheHeap (Value.ref C) && Value.builtin "BaseException.__getattribute__" == Value.builtin "object.__getattribute__") = false := by rw [e1, Bool.and_false]
 have fb : bindSpecial (.builtin "BaseException.__getattribute__") (.ref x) = pure (.builtin "BaseException.__getattribute__", [.ref x]) := by
  rfl
 unfold getAttr? getAttrBy?
 unfold getAttrBy
 refine wpAny_bind (wpAny_mkText ?_)
 refine wpAny_bind (wpAny_attempt (wpAny_holding ?_))
 refine wpAny_bind (Lt.at ?_)
 refine wpAny_bind (L1.at ?_)
 show wpAny _ _ (if _ then _ else _) _ _ _
 rw [if_neg (by rw [e2]; exact Bool.false_ne_true)]
 unfold getAttrByItsOwn
 refine wpAny_bind (m := typeLookup (.ref C) "__getattr__") ?_
 refine L2.at ?_
 refine wpAny_bind (wpAny_attempt (wpAny_holding ?_))
 show wpAny _ _ (boundAndCalled _ _ _) _ _ _
 unfold boundAndCalled
 rw [fb]
 refine wpAny_bind (wpAny_pure ?_)
 refine wpAny_call (zbn (s := ⟨h0, g0, d0, t0 + 1, o0⟩) X p c ?_)
 exact handed_on rfl (wpAny_pure h)
theorem err_kit (c : ErrCls K C) : KitX K (.ref x) (.ref C) (ErrAt x C) where
 ty := fun M h _ p => z33 p
 it := fun M h X _ => by
  obtain ⟨cd, hcd, _⟩ := Option.bind_eq_some_iff.mp c.mo
  unfold clsIn at hcd
  split at hcd
  ·rename_i a1 a2 a3 a4 hl
   intro A2 Q2 E2 s2 kk qq
   unfold isType
   unfold loadHead
   exact wpAny_bind (wpAny_loadPart (kk _ _ (X _ _ hl)) (wpAny_pure qq))
  ·cases hcd
 ne := fun h tp dd its n sl X htp => by
  obtain ⟨cd, hcd, _⟩ := Option.bind_eq_some_iff.mp c.mo
  refine Bool.eq_false_iff.mpr fun q => ?_
  have e : C = tp := Value.ref.inj (beq_iff_eq.mp q)
  subst e
  unfold clsIn at hcd
  split at hcd
  ·rename_i a1 a2 a3 a4 hl
   cases (X _ _ hl).symm.trans htp
  ·cases hcd
 ca := fun X p k => zbo X p c k
end
end PySem.W
namespace L2
open PySem PySem.Spec PyProof.Rows
def exo (x C : Addr) : HO := .ext (PySem.W.ErrAt x C)
section
variable {X : Cx}
def clsV : V → Option Value
 | .ty n => some (.type n)
 | .ref a => some (.ref a)
 | _ => none
theorem zbp {v : V} {c u : Value} (e : clsV v = some c) (r : RelV v u) : u = c := by
 cases v <;> first | cases e | skip
 ·cases (show u = Value.ref _ from r); rfl
 ·cases (show u = Value.type _ from r); rfl
theorem zay : CallR X (.builtin "isinstance") (fun xs H Q => ∃ x C v c b, xs = [.ref x, v] ∧ H x = some (exo x C) ∧ PySem.W.ErrCls X.K C ∧ clsV v = some c ∧ PySem.W.kitOne X.K (.ref C) c = some b ∧ Q (.bl b) H) := by
 intro pins s σ H xs us Q I r h
 obtain ⟨x, C, v, c, b, rfl, hx, ec, hv, e, q⟩ := h
 obtain ⟨u, w', rfl, r1, r2⟩ := z7b r
 cases r1
 cases zbp hv r2
 obtain ⟨p, -, -⟩ := (show ObjOk X.prog X.w H s.heap x (.ext (PySem.W.ErrAt x C)) from I.hok x _ hx)
 exact PySem.W.kia_one (PySem.W.err_kit ec) I.kIn p e (fun z => nomatch z) fun tk => ⟨.bl b, H, I.tok _, rfl, q⟩
theorem Inv.also {pins : List (Addr × Obj)} {σ : St} {H : Hp} {s : Shared} {x : Addr} {o : HO} (I : Inv X pins σ H s) (hx : H x = none) (hm : ¬ Mine X pins x) (ok : ObjOk X.prog X.w (upd H x o) s.heap x o) : Inv X pins σ (upd H x o) s := by
 have nb : ∀ b u, H b = some u → b ≠ x := fun b u e z => by rw [z, hx] at e; cases e
 refine ⟨I.ok, I.os, I.bare, ⟨I.base.keep, I.base.slot, fun b ob e n hb => ?_, I.base.there, fun b ys e => ?_, fun b ob u e => ?_, fun b ps e => ?_⟩, I.loc, I.cell, ?_, fun y c e => ?_, fun p hp => ?_, fun b ob e => ?_, I.len⟩
 ·have : b ≠ x := fun z => hm (.inl ⟨ob, z ▸ e⟩)
  rw [zc this]
  exact I.base.free b ob e n hb
 ·have q := I.base.tups b ys e
  rw [zc (nb _ _ q)]
  exact q
 ·have q := I.base.frzs b ob u e
  rw [zc (nb _ _ q)]
  exact q
 ·obtain ⟨more, q⟩ := I.base.tbls b ps e
  exact ⟨more, by rw [zc (nb _ _ q)]; exact q⟩
 ·have : X.env.locals ≠ x := fun z => hm (.inr (.inl z.symm))
  rw [zc this]
  exact I.free
 ·have : c ≠ x := fun z => hm (.inr (.inr (.inl ⟨y, z ▸ e⟩)))
  rw [zc this]
  exact I.freeC y c e
 ·obtain ⟨a1, a2, a3⟩ := I.pin p hp
  have : p.1 ≠ x := fun z => hm (.inr (.inr (.inr ⟨p, hp, z⟩)))
  exact ⟨a1, by rw [zc this]; exact a2, a3⟩
 ·by_cases hb : b = x
  ·subst hb
   rw [z7] at e
   cases e
   exact ok
  ·rw [zc hb] at e
   refine (I.hok b ob e).stay (fun _ _ _ q => q) (fun c q => ?_) fun c ys q => ?_
   ·rw [zc (nb _ _ q)]; exact q
   ·rw [zc (nb _ _ q)]; exact q
end
end L2
end
section
namespace L2
open PySem PySem.Spec PyProof.Rows
section
variable {J : It} {K : PySem.W.Frag} {a : Addr} {xs : List V} {g2 : TG} {tc : TT} {te : TE} {js : List Nat} {σ : St} {H1 : Hp} {Q : VK}
end
section
variable {X : Cx} {k : Nat} {C : Addr} {m : Str} {ps : List Str} {sp : Sp} {o e : Expr} {es : List Expr} {ta : TE} {t : TA} {apos pos : Pos} {E : XK}
end
theorem zcs {X : Cx} {k : Nat} {C : Addr} {x : Str} {ps : List Str} {sp : Sp} {p pos : Pos} {e : Expr} {es : List Expr} {t : TA} (G : KHas X.prog X.w X.K X.mg X.base k C ps sp) (hr : Room (k + 1) X.A) (hg : Gl X x) (hm : X.mg x = some (.ref C)) (ha : PA X (e :: es) t) (hdb : (x == ("__debug__" : Str)) = false := by decide)
  (he : starEach (e :: es) X.env = (false, eval e X.env) :: starEach es X.env := by rfl) (hpl : (backTo pos (starEach es X.env)).any (·.1) = false := by rfl) : PE X (.Call (.Name x p) (e :: es) [] pos) (z5n C sp [] E0 t) := by
 obtain ⟨f, fd, F, M, hb⟩ := G
 exact zci M F hr hg hm hb .nil z7c ha hdb he hpl
section
variable {X : Cx}
end
end L2
end
section
namespace PySem
theorem z7r : typeLookup (.type "list") "keys" = pure none := by rw [typeLookup_type, builtinLookup_eq_fast]; kernel_rfl
theorem z4d {prog : Program} {w : World} {A : Around} {E : Value → Shared → Prop} {s : Shared} {a : Addr} {o : Obj} {xs : Array Value} {k : Nat} {name : Str} {Q : Option Value → Shared → Prop}
  (hx : s.heap.get? a = some o) (hc : o.cls = .type "list") (hdat : o.data = .seq xs k) (hd : o.dict = none) (hmiss : typeLookup (.type "list") name = pure none) (hname : (["__module__", "__name__", "__qualname__", "__doc__", "__annotations__"] : List Str).contains name = false) (hA : A.handled = none)
  (h : ∀ h' tk e, Heap.NewExcOf s.heap h' e "AttributeError" → Q none { s with heap := h', toks := tk }) (hsz : name.length + 100 ≤ sizeLine := by size_fits) :
  wpAny (model prog w) A (getAttr? (.ref a) name) Q E s := by
 obtain ⟨c, dct, dat, sl⟩ := o
 simp only at hc hdat hd
 subst hc hdat hd
 obtain ⟨hp, g, d, tk, os⟩ := s
 have hT : ∀ tk', (⟨hp, g, d, tk', os⟩ : Shared).TypeIs (.ref a) "list" := fun _ => ⟨_, hx, rfl⟩
 have f1 := sub_AttributeError
 have f3 := F.slot_list_getattribute.lookup
 have f4 := F.slot_list_getattribute.bind (.ref a)
 have f5 := am_list_getattr_none
 unfold getAttr? getAttrBy? getAttrBy
 repeat (any_goals (first | assumption | exact hT _ | ((with_reducible show wpAny _ _ (call (Value.builtin "list.__getattribute__") _ _) _ _ _); refine call_meets F.slot_list_getattribute (hT _) am_entry_list_getattribute (F.args_list_getattribute_2 _ _) (meets_getattribute_miss_list a xs k sl name _ hmiss hname hsz) ⟨hx, hA, fun h' tk' e hx' => ?_⟩) | wp_step))
 obtain ⟨t', u', he⟩ := hx'.there
 show wpAny _ _ (getattributeRaised _ _ _ _ _ _ _) _ _ _
 unfold getattributeRaised
 repeat (any_goals (first | assumption | wp_step))
 exact h _ _ _ hx'.of
end PySem
end
section
namespace PySem
open PyProof.Rows (StrsAre)
theorem z8y (t : SetTable) (j : Nat) : (t.put j).1.led = t.led ∧ (t.put j).1.plain = t.plain := by
 unfold SetTable.put; exact ⟨rfl, rfl⟩
theorem z9o (t : SetTable) (es : Array (Int × Value)) (h : Int) (x : Value) :
  (layNew t es h x).2.1.led = t.led ∧ (t.plain = false → (layNew t es h x).2.1.plain = false) := by
 unfold layNew
 split
 ·dsimp only
  unfold SetTable.orStandIn
  split
  ·exact ⟨(z8y t _).1, fun p => (z8y t _).2.trans p⟩
  ·exact ⟨rfl, fun _ => rfl⟩
 ·exact ⟨rfl, fun _ => rfl⟩
theorem zbq {mask finger moves : Nat} {led plain : Bool} {hs : Array Int} {r : SetTable × Array Nat}
  (e : SetTable.laid mask finger moves led plain hs = some r) : r.1.led = led ∧ r.1.plain = plain := by
 unfold SetTable.laid at e
 simp only [Option.bind_eq_bind, Option.bind_eq_some_iff, Option.some.injEq, Option.pure_def] at e
 obtain ⟨o, _, rfl⟩ := e
 exact ⟨rfl, rfl⟩
theorem z7s (t : SetTable) (es : Array (Int × Value)) (n : Nat) :
  (relayAll t es n).2.1.led = t.led ∧ (t.plain = false → (relayAll t es n).2.1.plain = false) := by
 unfold relayAll
 split
 ·rename_i e
  dsimp only
  split
  ·unfold SetTable.relaid at e
   have := zbq e
   exact ⟨this.1, fun p => this.2.trans p⟩
  ·exact ⟨rfl, fun _ => rfl⟩
 ·exact ⟨rfl, fun _ => rfl⟩
def zw (D : List Str) (v : Str) : List Str := if v ∈ D then D else D ++ [v]
def zy (ss : List Str) : List Str := ss.foldl zw []
theorem z8g (D : List Str) (v k : Str) : k ∈ zw D v ↔ k ∈ D ∨ k = v := by
 unfold zw; split
 ·rename_i h
  exact ⟨.inl, fun o => o.elim id fun e => e ▸ h⟩
 ·simp
theorem z6r {D : List Str} (h : D.Nodup) (v : Str) : (zw D v).Nodup := by
 unfold zw; split
 ·exact h
 ·rename_i hv
  refine List.nodup_append.mpr ⟨h, by simp, ?_⟩
  intro a ha b hb e
  simp at hb; subst hb; subst e; exact hv ha
theorem metFold_nodup : ∀ (ss D : List Str), D.Nodup → (ss.foldl zw D).Nodup
 | [], D, h => h
 | v :: ss, D, h => metFold_nodup ss _ (z6r h v)
theorem metAll_nodup (ss : List Str) : (zy ss).Nodup := metFold_nodup ss [] .nil
theorem z65 (D : List Str) (v : Str) : (zw D v).length = if decide (v ∈ D) = true then D.length else D.length + 1 := by
 unfold zw; by_cases h : v ∈ D <;> simp [h]
theorem z5v : ∀ (ss D : List Str), (ss.foldl zw D).length ≤ D.length + ss.length
 | [], D => by simp
 | v :: ss, D => by
  have := z5v ss (zw D v)
  have h2 := z65 D v
  rw [List.foldl_cons, List.length_cons]
  split at h2 <;> omega
theorem zaz (ss : List Str) : (zy ss).length ≤ ss.length := by have := z5v ss []; simpa [zy] using this
theorem z8h (ss : List Str) (i : Nat) (h : i < ss.length) : zy (ss.take (i + 1)) = zw (zy (ss.take i)) ss[i] := by
 unfold zy; rw [List.take_succ_eq_append_getElem h, List.foldl_append]; rfl
def TextSet (prog : Program) (w : World) (h : Heap) (a : Addr) (D : List Str) (led : Bool) : Prop :=
 ∃ o es ep t, h.get? a = some o ∧ o.ExactSet ∧ o.data = .set es ep t ∧ ElemsOf (strKind prog w) es.toList ∧
  (∀ k, decide (k ∈ D) = true ↔ ∃ e ∈ es.toList, (strKind prog w).is k e.2 = true) ∧
  es.size < scanBound ∧ t.fits es.size = true ∧ es.size = D.length ∧ t.led = led ∧ (es.size ≠ 0 → t.plain = false)
section
variable {prog : Program} {w : World} {A : Around} {E : Value → Shared → Prop} {s : Shared}
theorem TextSet.keep {h h' : Heap} {a : Addr} {D : List Str} {led : Bool} (T : TextSet prog w h a D led)
  (e : ∀ o, h.get? a = some o → h'.get? a = some o) : TextSet prog w h' a D led := by
 obtain ⟨o, es, ep, t, ho, more⟩ := T
 exact ⟨o, es, ep, t, e o ho, more⟩
theorem z4e {g : Bool → Sem Unit} (hg : ∀ (b : Bool) (s₁ : Shared) (Q' : Unit → Shared → Prop), Q' () s₁ → wpAny (model prog w) A (g b) Q' E s₁)
  {a : Addr} {o : Obj} {es : Array (Int × Value)} {ep : Nat} {t : SetTable} (ho : s.heap.get? a = some o) (hx : o.ExactSet)
  (hd : o.data = .set es ep t) {e1 : Array (Int × Value)} {t1 : SetTable} {D : List Str}
  (he : ElemsOf (strKind prog w) e1.toList) (hm : ∀ k, decide (k ∈ D) = true ↔ ∃ e ∈ e1.toList, (strKind prog w).is k e.2 = true)
  (hb : e1.size < scanBound) (hf : t1.fits e1.size = true) (hn : e1.size = D.length) (hp : t1.plain = false)
  {was : Bool} {R : Option Bool → Shared → Prop}
  (h : ∀ h', Heap.SameBut a s.heap h' → TextSet prog w h' a D t1.led → R (some true) { s with heap := h' }) :
  wpAny (model prog w) A (do
   storeSet a e1 t1
   if (!was && t1.tooFull) = true then do
    g (relayAll t1 e1 (SetTable.grown e1.size)).2.2
    storeSet a (relayAll t1 e1 (SetTable.grown e1.size)).1 (relayAll t1 e1 (SetTable.grown e1.size)).2.1
    pure (some true)
   else pure (some true)) R E s := by
 refine wpAny_bind (wpAny_storeSet_of ho hd ?_ (fits_of_scanBound hb))
 obtain ⟨g1, _⟩ := SetOf_store (knd := strKind prog w) ho hx hd he hm hb hf
 have b1 := Heap.SameBut.update s.heap a (Obj.putSet e1 t1)
 split
 ·have pr := relayAll_perm t1 e1 (SetTable.grown e1.size)
  have fr := relayAll_fits t1 e1 (SetTable.grown e1.size)
  have lr := z7s t1 e1 (SetTable.grown e1.size)
  generalize relayAll t1 e1 (SetTable.grown e1.size) = L at pr fr lr ⊢
  obtain ⟨e2, t2, gave⟩ := L
  dsimp only at pr fr lr ⊢
  have sz : e2.size = e1.size := by rw [← Array.length_toList, pr.length_eq, Array.length_toList]
  have hm2 : ∀ k, decide (k ∈ D) = true ↔ ∃ e ∈ e2.toList, (strKind prog w).is k e.2 = true := fun k =>
   (hm k).trans ⟨fun ⟨e, q, z⟩ => ⟨e, pr.mem_iff.mpr q, z⟩, fun ⟨e, q, z⟩ => ⟨e, pr.mem_iff.mp q, z⟩⟩
  refine wpAny_bind (hg _ _ _ ?_)
  refine wpAny_bind (wpAny_storeSet_of g1 rfl ?_ (fits_of_scanBound (by rw [sz]; exact hb)))
  obtain ⟨g2, _⟩ := SetOf_store (knd := strKind prog w) g1 hx rfl (he.perm pr) hm2 (by rw [sz]; exact hb) fr
  refine wpAny_pure (h _ (b1.trans (Heap.SameBut.update _ a _)) ⟨_, e2, _, t2, g2, hx, rfl, he.perm pr, hm2, by rw [sz]; exact hb, fr, sz.trans hn, lr.1, fun _ => lr.2 hp⟩)
 ·exact wpAny_pure (h _ b1 ⟨_, e1, _, t1, g1, hx, rfl, he, hm, hb, hf, hn, rfl, fun _ => hp⟩)
theorem z8i {a : Addr} {D : List Str} {led : Bool} {x : Str} {tk : Tok} {Q : Bool → Shared → Prop} (T : TextSet prog w s.heap a D led)
  (room : D.length + 1 < scanBound)
  (h : ∀ h' b, Heap.SameBut a s.heap h' → TextSet prog w h' a (zw D x) led → Q b { s with heap := h' }) :
  wpAny (model prog w) A (setAddHashed a (.str x tk) ((strKind prog w).hash x)) Q E s := by
 have is := strKind_is prog w x tk
 obtain ⟨o, es, ep, t, ho, hx, hd, he, hm, hb, hf, hn, hl, hp⟩ := T
 unfold setAddHashed setAddHashedIn
 refine wpAny_holding (wpAny_bind (wpAny_setState_of ho hd hf ?_))
 dsimp only
 rw [byScan_of rfl hb he]
 simp only [↓reduceIte]
 unfold setAddByScan
 refine wpAny_bind ?_
 refine wpAny_bind (wpAny_rule ?_)
 refine wpAny_bind (wpAny_setScan_of is ho hd hf he ?_)
 cases hr : List.findIdx? (fun e => (strKind prog w).is x e.2) es.toList with
 | some j =>
  dsimp only
  obtain ⟨hj, pj, _⟩ := List.findIdx?_eq_some_iff_getElem.mp hr
  have xin : x ∈ D := of_decide_eq_true ((hm x).mpr ⟨es.toList[j], List.getElem_mem hj, pj⟩)
  have same : zw D x = D := if_pos xin
  refine wpAny_pure (wpAny_pure ?_)
  have := h s.heap false (Heap.SameBut.refl a s.heap) (by rw [same]; exact ⟨o, es, ep, t, ho, hx, hd, he, hm, hb, hf, hn, hl, hp⟩)
  cases s; exact this
 | none =>
  dsimp only
  have xout : x ∉ D := fun q => by
   obtain ⟨e, qe, z⟩ := (hm x).mp (decide_eq_true q)
   have := List.findIdx?_eq_none_iff.mp hr e qe
   rw [z] at this; cases this
  have grow : zw D x = D ++ [x] := if_neg xout
  have pr := layNew_perm t es ((strKind prog w).hash x) (.str x tk)
  have fr := layNew_fits t es ((strKind prog w).hash x) (.str x tk)
  have lr := z9o t es ((strKind prog w).hash x) (.str x tk)
  generalize layNew t es ((strKind prog w).hash x) (.str x tk) = L at pr fr lr ⊢
  obtain ⟨e1, t1, was, gave⟩ := L
  dsimp only at pr fr lr ⊢
  rw [Array.toList_push] at pr
  have he1 : ElemsOf (strKind prog w) e1.toList := (he.push is rfl).perm pr
  have hm1 : ∀ k, decide (k ∈ zw D x) = true ↔ ∃ e ∈ e1.toList, (strKind prog w).is k e.2 = true := fun k => by
   rw [← mem_push_iff is hm pr k, ← Bool.decide_or, decide_eq_true_eq, decide_eq_true_eq]
   exact z8g D x k
  have sz : e1.size = es.size + 1 := by rw [← Array.length_toList, pr.length_eq, List.length_append, Array.length_toList]; rfl
  have hn1 : e1.size = (zw D x).length := by rw [sz, grow, List.length_append, hn]; rfl
  have hb1 : e1.size < scanBound := by rw [sz, hn]; exact room
  have gw : ∀ (b : Bool) (s₁ : Shared) (Q' : Unit → Shared → Prop), Q' () s₁ →
    wpAny (model prog w) A (match b with | true => rule "set.scan.the-table-gave-way" | false => pure ()) Q' E s₁ := fun b s₁ Q' q => by
   cases b
   ·exact wpAny_pure q
   ·exact wpAny_rule q
  refine wpAny_bind (gw _ _ _ ?_)
  split
  ·refine wpAny_bind ?_
   rw [hashByValue_scannable 8 rfl]
   refine wpAny_pure ?_
   refine z4e (t1 := { t1 with plain := false }) gw ho hx hd he1 hm1 hb1 (SetTable.fits_plain_off fr) hn1 rfl fun h' sb T' => ?_
   dsimp only
   refine wpAny_pure (h h' true sb ?_)
   rw [← hl, ← lr.1]; exact T'
  ·rename_i np
   refine wpAny_bind (wpAny_pure ?_)
   simp only [↓reduceIte]
   refine z4e (t1 := t1) gw ho hx hd he1 hm1 hb1 fr hn1 (by simpa using np) fun h' sb T' => ?_
   dsimp only
   refine wpAny_pure (h h' true sb ?_)
   rw [← hl, ← lr.1]; exact T'
end
section
variable {prog : Program} {w : World} {A : Around} {R : Result → Shared → Prop} {I : Addr}
variable {fp wr : List Addr} {G : Array GenState → Array GenState → Prop} {P : Nat → Value → Prop} {St : Nat → Shared → Prop}
theorem z66 {ss : List Str} (W : WalksS prog w A.in1 I fp wr G ss.length P St) (a : Addr) (ha : a ∉ fp)
  {led : Bool} (hv : ∀ i v (h : i < ss.length), P i v → ∃ t, v = .str ss[i] t) (hb : ss.length + 1 < scanBound) :
  ∀ (k i : Nat) (s : Shared), ss.length - i = k → i ≤ ss.length → St i s → TextSet prog w s.heap a (zy (ss.take i)) led →
   (∀ s', Moved (a :: wr) G s s' → TextSet prog w s'.heap a (zy ss) led → R (.ok (.ret .none)) s') →
   codeAny (model prog w) A (.builtin "set.update.loop" ⟨[.ref a, .ref I], []⟩) R s := by
 have haw : a ∉ wr := fun h => ha (W.sub _ h)
 intro k
 induction k with
 | zero =>
  intro i s hk hi st T hR
  have ei : i = ss.length := by omega
  subst ei
  rw [List.take_length] at T
  refine codeAny_builtin PyProof.Rows.F.entry_set_update_loop ?_
  rw [Around.under_plainId PyProof.Rows.F.plain_set_update_loop _]
  refine wpAny_bind (m := pyNext (.ref I)) (W.done s _ _ st fun s' mv => ?_)
  refine wpAny_pure (hR s' (mv.mono fun b h => .tail _ h) (T.keep fun o e => mv.heap a o haw e))
 | succ k ih =>
  intro i s hk hi st T hR
  have lt : i < ss.length := by omega
  refine codeAny_builtin PyProof.Rows.F.entry_set_update_loop ?_
  rw [Around.under_plainId PyProof.Rows.F.plain_set_update_loop _]
  refine wpAny_bind (m := pyNext (.ref I)) (W.item i s _ _ lt st fun v s' hP st' mv => ?_)
  obtain ⟨t, rfl⟩ := hv i v lt hP
  have T' := T.keep (h' := s'.heap) fun o e => mv.heap a o haw e
  refine wpAny_bind (m := holding [Value.str ss[i] t] (setAdd a (.str ss[i] t))) (wpAny_holding ?_)
  unfold setAdd
  refine wpAny_holding ?_
  refine wpAny_bind ((strKind prog w).pyHash (k := ss[i]) (strKind_is prog w _ t) ?_)
  have room : (zy (ss.take i)).length + 1 < scanBound := by
   have := zaz (ss.take i)
   rw [List.length_take] at this
   omega
  refine z8i (s := { s' with toks := s'.toks + 1 }) T' room fun h2 _ sb T2 => ?_
  have T3 : TextSet prog w h2 a (zy (ss.take (i + 1))) led := by
   rw [z8h ss i lt]; exact T2
  refine wpAny_pure ⟨plainId_quiet PyProof.Rows.F.plain_set_update_loop _, ih (i + 1) _ (by omega) lt ?_ T3 fun s3 mv3 T4 => ?_⟩
  ·refine W.frame _ s' _ _ st' (Nat.le_succ _) fun b hbf o e => ?_
   rw [sb.2 b fun e' : b = a => ha (e' ▸ hbf)]
   exact e
  ·refine hR s3 (Moved.trans W.gtrans ((mv.mono fun b h => .tail _ h).then_heap (Nat.le_succ _) fun b o hbw e => ?_) mv3) T4
   rw [sb.2 b fun e' : b = a => hbw (e' ▸ .head _)]
   exact e
end
abbrev z20 (w : World) : Bool := !(w.params.followText "set-order")
section
variable {prog : Program} {w : World} {A : Around} {E : Value → Shared → Prop} {s : Shared}
abbrev z1g (led : Bool) : Obj := { cls := .type "set", dict := none, data := .set #[] 0 (.fresh 0 0 led) }
theorem z8j (a : Value) {Q₁ : Value → Shared → Prop}
  (h : Q₁ (.ref s.heap.objs.size) { s with heap := s.heap.push (z1g (z20 w)) }) :
  codeAny (model prog w) A (.call (.builtin "set.__new__") ⟨[.type "set", a], []⟩) (wants Q₁ E) s := by
 refine codeAny_of_tree ?_
 have c := F.newCall_set_1 a
 show wpAny _ A.in1 (checkBuiltinCall "set.__new__" ⟨[.type "set", a], []⟩ >>= fun _ => again (.builtin "set.__new__" ⟨[.type "set", a], []⟩)) _ _ s
 refine wpAny_bind (wpAny_of_eq c (wpAny_pure ⟨plainId_quiet F.plain_set_new _, ?_⟩))
 refine codeAny_builtin F.entry_set_new ?_
 rw [Around.under_plainId F.plain_set_new _]
 unfold Builtin.«set.__new__» Builtin.Frozenset.newClass
 have sub := sub_set_self
 obtain ⟨hp, g, d, tk, os⟩ := s
 dsimp only
 wp_walk
 refine wpAny_askSetting (wpAny_pure ?_)
 dsimp only
 simp only [newObj]
 refine wpAny_bind (wpAny_alloc (wpAny_pure ?_))
 exact wpAny_pure h
theorem z6s {h : Heap} {a : Addr} {led : Bool} (g : h.get? a = some (z1g led)) : TextSet prog w h a [] led :=
 ⟨_, #[], 0, .fresh 0 0 led, g, ⟨rfl, rfl, rfl⟩, rfl, fun e q => by simp at q, fun k => by simp, by decide, by cases led <;> decide, rfl, rfl, fun z => absurd rfl z⟩
end
end PySem
end
section
namespace PySem
open PyProof.Rows (StrsAre)
section
variable {prog : Program} {w : World} {A : Around} {E : Value → Shared → Prop} {s : Shared}
theorem z54 : ∀ {vs : List Value} {ss : List Str}, StrsAre vs ss → ∀ (i : Nat) (v : Value) (h : i < ss.length), vs[i]? = some v → ∃ t, v = .str ss[i] t
 | _, _, .nil, i, v, h, e => by simp at e
 | _, _, .cons y t r, 0, v, h, e => by simp at e; exact ⟨t, e.symm⟩
 | _, _, .cons y t r, i + 1, v, h, e => by
  simp only [List.getElem?_cons_succ] at e
  simpa using z54 r i v (by simpa using h) e
theorem z67 {l : Addr} {items : Array Value} {ss : List Str} {Q : Value → Shared → Prop} (hh : A.handled = none)
  (hl : s.heap.IsList l items) (hi : StrsAre items.toList ss) (hb : ss.length + 1 < scanBound)
  (h : ∀ (h' : Heap) (tk : Nat), TextSet prog w h' s.heap.objs.size (zy ss) (z20 w) → s.toks ≤ tk →
   (∀ b o, s.heap.get? b = some o → h'.get? b = some o) → Q (.ref s.heap.objs.size) { s with heap := h', toks := tk }) :
  wpAny (model prog w) A (call (.type "set") [.ref l]) Q E s := by
 obtain ⟨_, _, mro⟩ := F.called_set.mro
 have made := F.called_set.made
 have self := F.called_set.sub
 refine wpAny_call (codeAny_of_tree ?_)
 show wpAny _ _ (callAny (.type "set") _) _ _ _
 refine wpAny_pure ⟨Code.quiet_builtin _ (by decide +kernel), ?_⟩
 refine codeAny_builtin F.entry_type_call ?_
 rw [Around.under_plain (weight_type_call_type "set" [.ref l] []) rfl]
 have n1 := F.called_set.notType
 have n2 := F.called_set.canCreate
 have n3 := F.typeCall_set_1 (.ref l)
 repeat (any_goals (first | assumption | wp_step))
 refine codeAny_mono (z8j (.ref l) (E := E)
  (Q₁ := fun x s₁ => ∃ led : Bool, led = z20 w ∧ x = .ref s.heap.objs.size ∧ s₁ = { s with heap := s.heap.push (z1g led) }) ⟨_, rfl, rfl, rfl⟩) fun r s₁ hr => ?_
 match r, hr with
 | .error e, hr => exact hr
 | .ok (.ret x), hr =>
  obtain ⟨led, hled, rfl, rfl⟩ := hr
  have gS : (s.heap.push (z1g led)).get? s.heap.objs.size = some (z1g led) := Heap.get?_push_size _ rfl
  have ty : Shared.TypeIs { s with heap := s.heap.push (z1g led) } (.ref s.heap.objs.size) "set" := ⟨_, gS, rfl⟩
  have look := F.called_set.init.lookup
  have bound := F.called_set.init.bind (.ref s.heap.objs.size)
  repeat (any_goals (first | assumption | wp_step))
  refine codeAny_mono (codeAny_call_builtin (R := wants (fun r s₂ => r = .none ∧ ∃ h' tk, s₂ = { s with heap := h', toks := tk } ∧
   TextSet prog w h' s.heap.objs.size (zy ss) (z20 w) ∧ s.toks ≤ tk ∧ ∀ b o, s.heap.get? b = some o → h'.get? b = some o) E)
   F.called_set.init.plain F.entry_set_init (check_set_init_1 ty ?_)) fun r₂ s₂ hr₂ => ?_
  ·obtain ⟨ol, gl, cl, nl, dl⟩ := hl
   obtain ⟨ocls, odict, odata, oslots⟩ := ol
   simp only at cl dl
   subst cl dl
   have gl' : (s.heap.push (z1g led)).get? l = some { cls := .type "list", dict := odict, data := .seq items nl, slots := oslots } :=
    Heap.get?_push_of_some _ gl
   have m1 := F.sub_list_set
   have m2 := F.sub_list_frozenset
   have m3 : (Value.type "list" == Value.type "dict") = false := by decide
   have isl : (s.heap.push (z1g led)).IsList l items := ⟨_, gl', rfl, nl, rfl⟩
   unfold Builtin.«set.__init__» noKeywords Builtin.Frozenset.updateFrom
   generalize hPI : pyIter = PI
   wp_walk
   subst hPI
   refine wpAny_pyIter_list isl ?_
   refine wpAny_bind (wpAny_runValue ?_)
   have lt : l < s.heap.objs.size := Heap.lt_size gl
   have h3 : A.in1.in1.in1.handled = none := by simp [hh]
   have lI : l ≠ (s.heap.push (z1g led)).objs.size := by
    rw [Heap.size_push]; exact Nat.ne_of_lt (Nat.lt_succ_of_lt lt)
   have aI : s.heap.objs.size ∉ [(s.heap.push (z1g led)).objs.size, l] := by
    rw [Heap.size_push]; intro m
    rcases List.mem_cons.mp m with e | m
    ·exact Nat.ne_of_lt (Nat.lt_succ_self _) e
    ·exact Nat.ne_of_gt lt (List.mem_singleton.mp m)
   have len : items.size = ss.length := by rw [← Array.length_toList]; exact hi.length
   have hv : ∀ (i : Nat) (v : Value) (h : i < ss.length), items[i]? = some v → ∃ t, v = .str ss[i] t :=
    fun i v h e => z54 hi i v h (by rw [Array.getElem?_toList]; exact e)
   have WW := ((Walks.list (prog := prog) (w := w) h3 _ l lI items).toS)
   rw [len] at WW
   refine z66 (led := z20 w) WW s.heap.objs.size aI hv hb (ss.length - 0) 0 _ (by omega) (Nat.zero_le _)
    ⟨⟨_, Heap.get?_push_size _ rfl, rfl, rfl⟩, (isl.push _)⟩ ?s0 ?sR
   case s0 =>
    have g2 : ((s.heap.push (z1g led)).push { cls := .type "list_iterator", data := .fields #[.ref l, .int 0 0] }).get? s.heap.objs.size = some (z1g led) :=
     Heap.get?_push_of_some _ gS
    rw [← hled]; exact z6s g2
   case sR =>
    intro s' mv T
    obtain ⟨h', g', d', tk', os'⟩ := s'
    obtain rfl : g' = s.gens := mv.gens
    obtain rfl : d' = s.drawn := mv.drawn
    obtain rfl : os' = s.os := mv.os
    show wpAny _ _ _ _ _ _
    refine wpAny_pure ?_
    show wpAny _ _ (ret Value.none) _ _ _
    refine wpAny_pure ⟨rfl, h', tk', rfl, T, mv.toks, fun b o e => ?_⟩
    have bl := Heap.lt_size e
    refine mv.heap b o ?_ (Heap.get?_push_of_some _ (Heap.get?_push_of_some _ e))
    rw [Heap.size_push]; intro m
    rcases List.mem_cons.mp m with e | m
    ·exact Nat.ne_of_lt bl e
    ·exact Nat.ne_of_lt (Nat.lt_succ_of_lt bl) (List.mem_singleton.mp m)
  ·match r₂, hr₂ with
   | .error e, hr₂ => exact hr₂
   | .ok (.ret r), hr₂ =>
    obtain ⟨rfl, h', tk, rfl, T, lt, old⟩ := hr₂
    repeat (any_goals (first | assumption | wp_step))
    exact h _ _ T lt old
end
end PySem
end
section
namespace PySem
open PyProof.Rows (StrsAre)
section
variable {prog : Program} {w : World} {A : Around} {E : Value → Shared → Prop}
theorem z7t {src : Source} {n : Nat} {Q : Nat → Shared → Prop} {s : Shared} (hn : n ≠ 0)
  (h : ∀ i, i < n → Q i { s with drawn := s.drawn.bump src }) : wpAny (model prog w) A (choose src n) Q E s := by
 intro Γ p hA
 exact ⟨hn, h _ (Nat.mod_lt _ (Nat.pos_of_ne_zero hn))⟩
theorem z2t {α : Type} : ∀ (l : List α) (i : Nat) (h : i < l.length), List.Perm (l[i] :: l.eraseIdx i) l
 | x :: l, 0, h => by simp
 | x :: l, i + 1, h => by
  have := z2t l i (by simpa using h)
  simp only [List.getElem_cons_succ, List.eraseIdx_cons_succ]
  exact (List.Perm.swap ..).trans (this.cons x)
theorem z6t {α : Type} : drawOrder 0 ([] : List α) = pure [] := by rw [drawOrder]
theorem z5w {α : Type} (n : Nat) : ∀ (xs : List α) {Q : List α → Shared → Prop} {s : Shared}, xs.length = n →
  (∀ ys d, List.Perm ys xs → Q ys { s with drawn := d }) → wpAny (model prog w) A (drawOrder n xs) Q E s := by
 induction n with
 | zero =>
  intro xs Q s hl h
  have e := List.length_eq_zero_iff.mp hl
  subst e
  rw [z6t]
  exact wpAny_pure (h [] s.drawn .nil)
 | succ n ih =>
  intro xs Q s hl h
  cases xs with
  | nil => cases hl
  | cons x xs =>
   rw [drawOrder]
   case x_2 => intro z; cases z
   refine wpAny_bind (z7t (by simp) fun i hi => ?_)
   rw [List.getElem?_eq_getElem hi]
   dsimp only
   refine wpAny_bind (ih _ (by rw [List.length_eraseIdx_of_lt hi]; omega) fun ys d pr => ?_)
   exact wpAny_pure (h _ d ((pr.cons _).trans (z2t _ _ hi)))
theorem z55 {α : Type} (next : Nat → Nat) : ∀ (fuel k : Nat) (left : List α) (out : Array α), left.length = fuel →
  (pickOrder.go next fuel k left out).toList.Perm (out.toList ++ left)
 | 0, k, left, out, h => by
  rw [List.length_eq_zero_iff.mp h]; unfold pickOrder.go; simp
 | fuel + 1, k, left, out, h => by
  unfold pickOrder.go
  have hi : next k % left.length < left.length := Nat.mod_lt _ (by omega)
  rw [List.getElem?_eq_getElem hi]
  dsimp only
  refine (z55 next fuel _ _ _ (by rw [List.length_eraseIdx_of_lt hi]; omega)).trans ?_
  rw [Array.toList_push, List.append_assoc]
  exact (z2t _ _ hi).append_left _
theorem z2o {α : Type} (next : Nat → Nat) (xs : Array α) : (pickOrder next xs).toList.Perm xs.toList := by
 have := z55 next xs.size 0 xs.toList #[] (by simp)
 simpa [pickOrder] using this
end
end PySem
end
section
namespace PySem
open PyProof.Rows (StrsAre)
theorem z6u : entryFor table "set.__iter__" = some Builtin.«frozenset.__iter__» :=
 entryFor_alias (id' := "frozenset.__iter__") (by kernel_rfl) rfl (by decide +kernel) (by kernel_rfl)
theorem z7u (v : Value) : argsOk "set.__iter__" ⟨[v], []⟩ := by unfold argsOk; kernel_rfl
theorem slot_setNext : Slot "set_iterator" "__next__" "set_iterator.__next__" := by
 refine .of (owner := "set_iterator") (n := "__next__") ?_ ?_ ?_ ?_ ?_ ?_
 ·rw [typeLookup_type, builtinLookup_eq_fast]; kernel_rfl
 ·decide +kernel
 ·decide +kernel
 ·decide +kernel
 ·first
   | exact .inl (by decide +kernel)
   | exact .inr (by decide +kernel)
 ·rw [isSubtype_type]; kernel_rfl
theorem z34 : Slot "set_iterator" "__iter__" "set_iterator.__iter__" := by
 refine .of (owner := "set_iterator") (n := "__iter__") ?_ ?_ ?_ ?_ ?_ ?_
 ·rw [typeLookup_type, builtinLookup_eq_fast]; kernel_rfl
 ·decide +kernel
 ·decide +kernel
 ·decide +kernel
 ·first
   | exact .inl (by decide +kernel)
   | exact .inr (by decide +kernel)
 ·rw [isSubtype_type]; kernel_rfl
theorem z2c : entryFor table "set_iterator.__next__" = some Builtin.«set_iterator.__next__» := by
 refine entryFor_of_tree ?_
 kernel_rfl
theorem z2j (v : Value) : argsOk "set_iterator.__next__" ⟨[v], []⟩ := by unfold argsOk; kernel_rfl
section
variable {prog : Program} {w : World} {A : Around} {E : Value → Shared → Prop} {s : Shared}
theorem z1v {Q : Bool → Shared → Prop} (h : Q (w.params.followText "set-order") s) :
  wpAny (model prog w) A setsByText Q E s := by
 unfold setsByText
 exact wpAny_bind (wpAny_askSetting (wpAny_pure h))
abbrev z16 (first : Value) (i : Nat) (a : Addr) (n ep : Nat) : Obj :=
 { cls := .type "set_iterator", data := .fields #[first, .int i 0, .ref a, .int n 0, .int ep 0] }
theorem z9p {a : Addr} {o : Obj} {es : Array (Int × Value)} {ep : Nat} {t : SetTable} {Q : Value → Shared → Prop}
  (ho : s.heap.get? a = some o) (hx : o.ExactSet) (hd : o.data = .set es ep t) (hf : t.fits es.size = true) (hb : es.size < scanBound)
  (hdrawn : w.params.followText "set-order" = false → t.plain = false → es.size > 1 → ∀ (ps : List Nat) d, ps.Perm (List.range es.size) →
   Q (.ref (s.heap.objs.size + 1)) { s with
    heap := (s.heap.push { cls := .type "tuple", data := .seq (ps.map fun (i : Nat) => rawInt i).toArray }).push (z16 (.ref s.heap.objs.size) 0 a es.size ep), drawn := d })
  (hplace : (w.params.followText "set-order" = true ∨ t.plain = true ∨ es.size ≤ 1) →
   Q (.ref s.heap.objs.size) { s with heap := s.heap.push (z16 (.int 0 0) 0 a es.size ep) }) :
  wpAny (model prog w) A (pyIter (.ref a)) Q E s := by
 have ty : s.TypeIs (.ref a) "set" := ⟨o, ho, hx.1⟩
 refine wpAny_pyIter_slot ty F.slot_set_iter (wpAny_call_entry F.slot_set_iter ty z6u ?_ (z7u _))
 unfold Builtin.«frozenset.__iter__» Builtin.Frozenset.slot0 slotArgs
 simp only [List.isEmpty_nil, Bool.not_true, Bool.false_eq_true, ↓reduceIte, bind_assoc, List.length_nil, bne_self_eq_false]
 unfold Builtin.Frozenset.addrOf Builtin.Frozenset.sizeOf setDrawn
 refine wpAny_bind (wpAny_pure ?_)
 dsimp only
 refine wpAny_bind (wpAny_pure ?_)
 refine wpAny_bind (wpAny_bind (wpAny_setEntries_of ho hd hf (wpAny_pure ?_)))
 refine wpAny_bind (wpAny_bind (wpAny_setState_of ho hd hf ?_))
 dsimp only
 refine wpAny_bind (z1v (wpAny_pure ?_))
 have look := slot_setNext.lookup
 by_cases c : (!w.params.followText "set-order" && (!t.plain && decide (es.size > 1))) = true
 ·refine (?_ : wpAny _ _ (if (!w.params.followText "set-order" && (!t.plain && decide (es.size > 1))) = true then _ else _) _ _ _)
  rw [if_pos c]
  simp only [Bool.and_eq_true, Bool.not_eq_true', decide_eq_true_eq] at c
  refine wpAny_bind (z5w _ _ (by simp) fun ps d pr => ?_)
  unfold newTuple
  refine wpAny_bind (wpAny_newObj_type ?_ (by
   have l := fits_of_scanBound hb
   have z := pr.length_eq
   simp only [List.length_range] at z
   show _ ≤ sizeLine
   simp only [List.size_toArray, List.length_map]
   omega))
  refine wpAny_bind (wpAny_setEpoch_of (Heap.get?_push_of_some _ ho) hd hf ?_)
  unfold newFields
  refine wpAny_bind (wpAny_newObj_type (wpAny_pure ⟨_, rfl, "set_iterator", _, ⟨_, Heap.get?_push_size _ rfl, rfl⟩, look, ?_⟩))
  have := hdrawn c.1 c.2.1 c.2.2 ps d pr
  rw [Heap.size_push]
  exact this
 ·refine (?_ : wpAny _ _ (if (!w.params.followText "set-order" && (!t.plain && decide (es.size > 1))) = true then _ else _) _ _ _)
  rw [if_neg c]
  refine wpAny_bind (wpAny_pure ?_)
  refine wpAny_bind (wpAny_setEpoch_of ho hd hf ?_)
  unfold newFields
  refine wpAny_bind (wpAny_newObj_type (wpAny_pure ⟨_, rfl, "set_iterator", _, ⟨_, Heap.get?_push_size _ rfl, rfl⟩, look, ?_⟩))
  refine hplace ?_
  cases hb : w.params.followText "set-order" with
  | true => exact .inl rfl
  | false =>
   cases hp : t.plain with
   | true => exact .inr (.inl rfl)
   | false =>
    refine .inr (.inr ?_)
    rw [hb, hp] at c; simp at c; omega
def SetIterAt (h : Heap) (I : Addr) (first : Value) (i : Nat) (a : Addr) (n ep : Nat) : Prop :=
 ∃ o, h.get? I = some o ∧ o.cls = .type "set_iterator" ∧ o.data = .fields #[first, .int i 0, .ref a, .int n 0, .int ep 0]
theorem z6v {I T a : Addr} {i : Nat} {o oT : Obj} {es : Array (Int × Value)} {ep : Nat} {t : SetTable} {ps : List Nat} {nT : Nat} {Q : Option Value → Shared → Prop}
  (ho : s.heap.get? a = some o) (hd : o.data = .set es ep t) (hf : t.fits es.size = true)
  (hi : SetIterAt s.heap I (.ref T) i a es.size ep) (gT : s.heap.get? T = some oT) (dT : oT.data = .seq (ps.map fun (i : Nat) => rawInt i).toArray nT)
  {p : Nat} {e : Int × Value} (hp : ps[i]? = some p) (he : es[p]? = some e)
  (h : ∀ h', SetIterAt h' I (.ref T) (i + 1) a es.size ep → Heap.SameBut I s.heap h' → Q (some e.2) { s with heap := h' }) :
  wpAny (model prog w) A (pyNext (.ref I)) Q E s := by
 obtain ⟨oI, gI, cI, dI⟩ := hi
 have ty : s.TypeIs (.ref I) "set_iterator" := ⟨oI, gI, cI⟩
 unfold pyNext
 refine wpAny_bind (wpAny_attempt (wpAny_callSpecial?_slot (name := Str.ofString "__next__") ty slot_setNext
  (wpAny_call_entry slot_setNext ty z2c ?_ (z2j _))))
 unfold Builtin.«set_iterator.__next__» slotArgs
 simp only [List.isEmpty_nil, Bool.not_true, Bool.false_eq_true, ↓reduceIte, bind_assoc, List.length_nil, bne_self_eq_false]
 refine wpAny_bind (wpAny_pure ?_)
 dsimp only
 refine wpAny_bind (wpAny_fieldsOf gI dI ?_)
 dsimp only
 refine wpAny_bind (wpAny_setEntries_of ho hd hf ?_)
 rw [if_neg (show ¬ ((((es.size : Nat) : Int) != ((es.size : Nat) : Int)) = true) by simp)]
 refine wpAny_bind (wpAny_seqItems gT dT ?_)
 have look : (ps.map fun (i : Nat) => rawInt i).toArray[(↑i : Int).toNat]? = some (.int p 0) := by
  simp [hp, rawInt]
 dsimp only
 rw [look]
 dsimp only
 unfold setNextDrawn
 refine wpAny_bind (wpAny_bind (wpAny_setState_of ho hd hf ?_))
 dsimp only
 rw [if_neg (show ¬ ((ep != (↑ep : Int).toNat) = true) by simp)]
 have look2 : es[(↑p : Int).toNat]? = some e := by simpa using he
 rw [look2]
 dsimp only
 refine wpAny_pure ?_
 refine wpAny_bind (wpAny_setField gI dI (by simp) (wpAny_pure ⟨e.2, rfl, wpAny_pure (h _ ?_ (Heap.SameBut.update ..))⟩))
 refine ⟨_, Heap.get?_update_self _ gI (Obj.isFreed_of_fields (Obj.data_mapFields dI _)), (Obj.cls_mapFields ..).trans cI, ?_⟩
 rw [Obj.data_mapFields dI]
 simp [rawInt]
end
end PySem
end
section
namespace PySem
open PyProof.Rows (StrsAre)
section
variable {prog : Program} {w : World} {A : Around} {E : Value → Shared → Prop} {s : Shared}
theorem z4t {I T a : Addr} {i : Nat} {o oT : Obj} {es : Array (Int × Value)} {ep : Nat} {t : SetTable} {ps : List Nat} {nT : Nat} {Q : Option Value → Shared → Prop}
  (hh : A.handled = none) (ho : s.heap.get? a = some o) (hd : o.data = .set es ep t) (hf : t.fits es.size = true)
  (hi : SetIterAt s.heap I (.ref T) i a es.size ep) (gT : s.heap.get? T = some oT) (dT : oT.data = .seq (ps.map fun (i : Nat) => rawInt i).toArray nT)
  (hp : ps[i]? = none) (h : ∀ h', Heap.ExtBut I s.heap h' → Q none { s with heap := h' }) :
  wpAny (model prog w) A (pyNext (.ref I)) Q E s := by
 obtain ⟨oI, gI, cI, dI⟩ := hi
 have ty : s.TypeIs (.ref I) "set_iterator" := ⟨oI, gI, cI⟩
 unfold pyNext
 refine wpAny_bind (wpAny_attempt (wpAny_callSpecial?_slot (name := Str.ofString "__next__") ty slot_setNext
  (wpAny_call_entry slot_setNext ty z2c ?_ (z2j _))))
 unfold Builtin.«set_iterator.__next__» slotArgs
 simp only [List.isEmpty_nil, Bool.not_true, Bool.false_eq_true, ↓reduceIte, bind_assoc, List.length_nil, bne_self_eq_false]
 refine wpAny_bind (wpAny_pure ?_)
 dsimp only
 refine wpAny_bind (wpAny_fieldsOf gI dI ?_)
 dsimp only
 refine wpAny_bind (wpAny_setEntries_of ho hd hf ?_)
 rw [if_neg (show ¬ ((((es.size : Nat) : Int) != ((es.size : Nat) : Int)) = true) by simp)]
 refine wpAny_bind (wpAny_seqItems gT dT ?_)
 have look : (ps.map fun (i : Nat) => rawInt i).toArray[(↑i : Int).toNat]? = none := by
  simp at hp; simp [hp]
 dsimp only
 rw [look]
 dsimp only
 refine wpAny_bind (wpAny_setField gI dI (by simp) ?_)
 have g2 := Heap.get?_update_self (Obj.mapFields (·.setIfInBounds 0 (rawInt 0))) gI (Obj.isFreed_of_fields (Obj.data_mapFields dI _))
 refine wpAny_bind (wpAny_setField g2 (Obj.data_mapFields dI _) (by simp) ?_)
 refine wpAny_bind ?_
 simp only [newExc, newTuple]
 refine wpAny_bind (wpAny_newObj_type ?_ (by size_fits))
 refine wpAny_bind (m := firstArgMember _ _) (wpAny_of_eq (a := Value.none) (by simp only [firstArgMember]; rfl) ?_)
 refine wpAny_newObj_type ?_ (by size_fits)
 simp only [raiseNew]
 refine wpAny_bind (wpAny_handled ?_)
 rw [show A.in1.handled = none from hh]
 refine wpAny_bind (wpAny_pure (wpAny_throw ?_))
 refine wpAny_bind (wpAny_isInstance (T := "StopIteration") (b := true) ⟨_, Heap.get?_push_size _ rfl, rfl⟩ isSubtype_stop ?_)
 exact wpAny_pure (h _ ((((Heap.SameBut.update ..).trans (Heap.SameBut.update ..)).extBut.push _).push _))
theorem z4f {a : Addr} {o : Obj} {es : Array (Int × Value)} {ep : Nat} {t : SetTable} {slot i : Nat} {Q : Option (Value × Nat) → Shared → Prop}
  (hw : w.params.followText "set-order" = true) (ho : s.heap.get? a = some o) (hd : o.data = .set es ep t) (hf : t.fits es.size = true)
  (h : Q (((pickOrder (w.params.setOrder a ep) es)[i]?).map fun e => (e.2, slot)) s) : wpAny (model prog w) A (setNext a slot i ep) Q E s := by
 unfold setNext
 refine wpAny_bind (wpAny_setState_of ho hd hf ?_)
 dsimp only
 refine wpAny_bind (z1v ?_)
 rw [hw]
 simp only [↓reduceIte, bne_self_eq_false, Bool.false_eq_true]
 unfold setWalk
 refine wpAny_bind (wpAny_bind (wpAny_setState_of ho hd hf ?_))
 dsimp only
 refine wpAny_bind (z1v ?_)
 rw [hw]
 simp only [↓reduceIte]
 refine wpAny_bind (wpAny_askSetting (wpAny_pure ?_))
 exact wpAny_pure h
theorem z56 {a : Addr} {o : Obj} {es : Array (Int × Value)} {ep : Nat} {t : SetTable} {slot i : Nat} {Q : Option (Value × Nat) → Shared → Prop}
  (hw : w.params.followText "set-order" = false) (ho : s.heap.get? a = some o) (hd : o.data = .set es ep t) (hf : t.fits es.size = true)
  (hn : es.size ≤ 1) (hl : t.led = true)
  (h : Q (match es[SetTable.below t.place slot]?, t.place[SetTable.below t.place slot]? with
   | some (_, x), some j => some (x, j + 1)
   | _, _ => none) s) : wpAny (model prog w) A (setNext a slot i ep) Q E s := by
 unfold setNext
 refine wpAny_bind (wpAny_setState_of ho hd hf ?_)
 dsimp only
 refine wpAny_bind (z1v ?_)
 rw [hw]
 simp only [Bool.false_eq_true, ↓reduceIte]
 refine (?_ : wpAny _ _ (if (!t.plain && decide (es.size > 1)) = true then _ else _) _ _ _)
 rw [if_neg (by simp; omega)]
 refine wpAny_bind (m := if (!t.led && !es.isEmpty) = true then unsupported "set:maker-not-led" else pure ()) ?_
 rw [if_neg (by simp [hl])]
 exact wpAny_pure (wpAny_pure h)
end
end PySem
end
section
namespace PySem
open PyProof.Rows (StrsAre)
section
variable {prog : Program} {w : World} {A : Around} {E : Value → Shared → Prop} {s : Shared}
theorem z4g {I a : Addr} {slot i next : Nat} {x : Value} {o : Obj} {es : Array (Int × Value)} {ep : Nat} {t : SetTable} {Q : Option Value → Shared → Prop}
  (ho : s.heap.get? a = some o) (hd : o.data = .set es ep t) (hf : t.fits es.size = true)
  (hi : SetIterAt s.heap I (.int slot 0) i a es.size ep)
  (hs : ∀ (A : Around) (E : Value → Shared → Prop) (Q : Option (Value × Nat) → Shared → Prop), Q (some (x, next)) s → wpAny (model prog w) A (setNext a slot i ep) Q E s)
  (h : ∀ h', SetIterAt h' I (.int next 0) (i + 1) a es.size ep → Heap.SameBut I s.heap h' → Q (some x) { s with heap := h' }) :
  wpAny (model prog w) A (pyNext (.ref I)) Q E s := by
 obtain ⟨oI, gI, cI, dI⟩ := hi
 have ty : s.TypeIs (.ref I) "set_iterator" := ⟨oI, gI, cI⟩
 unfold pyNext
 refine wpAny_bind (wpAny_attempt (wpAny_callSpecial?_slot (name := Str.ofString "__next__") ty slot_setNext
  (wpAny_call_entry slot_setNext ty z2c ?_ (z2j _))))
 unfold Builtin.«set_iterator.__next__» slotArgs
 simp only [List.isEmpty_nil, Bool.not_true, Bool.false_eq_true, ↓reduceIte, bind_assoc, List.length_nil, bne_self_eq_false]
 refine wpAny_bind (wpAny_pure ?_)
 dsimp only
 refine wpAny_bind (wpAny_fieldsOf gI dI ?_)
 dsimp only
 refine wpAny_bind (wpAny_setEntries_of ho hd hf ?_)
 rw [if_neg (show ¬ ((((es.size : Nat) : Int) != ((es.size : Nat) : Int)) = true) by simp)]
 simp only [Int.toNat_natCast]
 refine wpAny_bind (hs _ _ _ ?_)
 dsimp only
 refine wpAny_bind (wpAny_setField gI dI (by simp) ?_)
 have d2 := Obj.data_mapFields dI (·.setIfInBounds 0 (rawInt next))
 have g2 := Heap.get?_update_self (Obj.mapFields (·.setIfInBounds 0 (rawInt next))) gI (Obj.isFreed_of_fields d2)
 refine wpAny_bind (wpAny_setField g2 d2 (by simp) (wpAny_pure ⟨x, rfl, wpAny_pure (h _ ?_ ((Heap.SameBut.update ..).trans (Heap.SameBut.update ..)))⟩))
 refine ⟨_, Heap.get?_update_self _ g2 (Obj.isFreed_of_fields (Obj.data_mapFields d2 _)), ?_, ?_⟩
 ·exact (Obj.cls_mapFields ..).trans ((Obj.cls_mapFields ..).trans cI)
 ·rw [Obj.data_mapFields d2]
  simp [rawInt]
theorem z35 {I a : Addr} {slot i : Nat} {o : Obj} {es : Array (Int × Value)} {ep : Nat} {t : SetTable} {Q : Option Value → Shared → Prop}
  (hh : A.handled = none) (ho : s.heap.get? a = some o) (hd : o.data = .set es ep t) (hf : t.fits es.size = true)
  (hi : SetIterAt s.heap I (.int slot 0) i a es.size ep)
  (hs : ∀ (A : Around) (E : Value → Shared → Prop) (Q : Option (Value × Nat) → Shared → Prop), Q none s → wpAny (model prog w) A (setNext a slot i ep) Q E s)
  (h : ∀ h', Heap.ExtBut I s.heap h' → Q none { s with heap := h' }) :
  wpAny (model prog w) A (pyNext (.ref I)) Q E s := by
 obtain ⟨oI, gI, cI, dI⟩ := hi
 have ty : s.TypeIs (.ref I) "set_iterator" := ⟨oI, gI, cI⟩
 unfold pyNext
 refine wpAny_bind (wpAny_attempt (wpAny_callSpecial?_slot (name := Str.ofString "__next__") ty slot_setNext
  (wpAny_call_entry slot_setNext ty z2c ?_ (z2j _))))
 unfold Builtin.«set_iterator.__next__» slotArgs
 simp only [List.isEmpty_nil, Bool.not_true, Bool.false_eq_true, ↓reduceIte, bind_assoc, List.length_nil, bne_self_eq_false]
 refine wpAny_bind (wpAny_pure ?_)
 dsimp only
 refine wpAny_bind (wpAny_fieldsOf gI dI ?_)
 dsimp only
 refine wpAny_bind (wpAny_setEntries_of ho hd hf ?_)
 rw [if_neg (show ¬ ((((es.size : Nat) : Int) != ((es.size : Nat) : Int)) = true) by simp)]
 simp only [Int.toNat_natCast]
 refine wpAny_bind (hs _ _ _ ?_)
 dsimp only
 refine wpAny_bind (wpAny_setField gI dI (by simp) ?_)
 refine wpAny_bind ?_
 simp only [newExc, newTuple]
 refine wpAny_bind (wpAny_newObj_type ?_ (by size_fits))
 refine wpAny_bind (m := firstArgMember _ _) (wpAny_of_eq (a := Value.none) (by simp only [firstArgMember]; rfl) ?_)
 refine wpAny_newObj_type ?_ (by size_fits)
 simp only [raiseNew]
 refine wpAny_bind (wpAny_handled ?_)
 rw [show A.in1.handled = none from hh]
 refine wpAny_bind (wpAny_pure (wpAny_throw ?_))
 refine wpAny_bind (wpAny_isInstance (T := "StopIteration") (b := true) ⟨_, Heap.get?_push_size _ rfl, rfl⟩ isSubtype_stop ?_)
 exact wpAny_pure (h _ (((Heap.SameBut.update ..).extBut.push _).push _))
theorem z68 (p : Nat) : SetTable.below #[p] 0 = 0 := by
 simp [SetTable.below, SetTable.below.go]
theorem z69 (p : Nat) : SetTable.below #[p] (p + 1) = 1 := by
 simp [SetTable.below, SetTable.below.go]
end
end PySem
end
section
namespace PySem
open PyProof.Rows (StrsAre)
theorem z4u : entryFor table "set_iterator.__iter__" = some Builtin.«dict_keyiterator.__iter__» :=
 entryFor_alias (id' := "dict_keyiterator.__iter__") (by kernel_rfl) rfl (by decide +kernel) (by kernel_rfl)
theorem z5g (v : Value) : argsOk "set_iterator.__iter__" ⟨[v], []⟩ := by unfold argsOk; kernel_rfl
section
variable {prog : Program} {w : World} {A : Around} {E : Value → Shared → Prop} {s : Shared}
theorem z36 {I a : Addr} {first : Value} {i n ep : Nat} {Q : Value → Shared → Prop} (hi : SetIterAt s.heap I first i a n ep)
  (h : Q (.ref I) s) : wpAny (model prog w) A (pyIter (.ref I)) Q E s := by
 obtain ⟨o, g, c, d⟩ := hi
 have ty : s.TypeIs (.ref I) "set_iterator" := ⟨o, g, c⟩
 refine wpAny_pyIter_slot ty z34 (wpAny_call_entry z34 ty z4u ?_ (z5g _))
 show wpAny _ _ (ret (.ref I)) _ _ s
 exact wpAny_pure ⟨_, rfl, "set_iterator", _, ty, slot_setNext.lookup, h⟩
theorem SetIterAt.keep {h h' : Heap} {I a : Addr} {first : Value} {i n ep : Nat} (t : SetIterAt h I first i a n ep)
  (e : ∀ o, h.get? I = some o → h'.get? I = some o) : SetIterAt h' I first i a n ep := by
 obtain ⟨o, g, r⟩ := t
 exact ⟨o, e o g, r⟩
theorem z8k (hh : A.handled = none) {I T a : Addr} {o oT : Obj} {es : Array (Int × Value)} {ep : Nat} {t : SetTable} {ps : List Nat} {nT : Nat}
  (hd : o.data = .set es ep t) (hf : t.fits es.size = true) (dT : oT.data = .seq (ps.map fun (i : Nat) => rawInt i).toArray nT)
  (hI : a ≠ I) (hT : T ≠ I) (pr : ps.Perm (List.range es.size)) :
  WalksS prog w A I [I, a, T] [I] (fun x y => x = y) es.size (fun i v => ∃ p e, ps[i]? = some p ∧ es[p]? = some e ∧ v = e.2)
   (fun i s => SetIterAt s.heap I (.ref T) i a es.size ep ∧ s.heap.get? a = some o ∧ s.heap.get? T = some oT) where
 sub := fun b hb => by simp at hb; simp [hb]
 grefl := fun _ => rfl
 gtrans := fun _ _ _ p q => p.trans q
 frame := fun i s h' tk st _ k => ⟨st.1.keep (k I (by simp)), k a (by simp) _ st.2.1, k T (by simp) _ st.2.2⟩
 item := fun i s Q E lt st hQ => by
  have len : ps.length = es.size := by simpa using pr.length_eq
  have hp : ps[i]? = some ps[i] := List.getElem?_eq_getElem (by omega)
  have mem : ps[i] < es.size := List.mem_range.mp (pr.mem_iff.mp (List.getElem_mem _))
  have he : es[ps[i]]? = some es[ps[i]] := Array.getElem?_eq_getElem mem
  refine z6v st.2.1 hd hf st.1 st.2.2 dT hp he fun h' si sb => ?_
  refine hQ _ _ ⟨_, _, hp, he, rfl⟩ ⟨si, ?_, ?_⟩ ⟨fun b o' hb e => ?_, rfl, rfl, rfl, Nat.le_refl _⟩
  ·exact (sb.2 a hI).trans st.2.1
  ·exact (sb.2 T hT).trans st.2.2
  ·exact (sb.2 b (by simpa using hb)).trans e
 done := fun s Q E st hQ => by
  have len : ps.length = es.size := by simpa using pr.length_eq
  refine z4t hh st.2.1 hd hf st.1 st.2.2 dT (List.getElem?_eq_none (by omega)) fun h' xb => ?_
  exact hQ _ ⟨fun b o' hb e => xb b o' (by simpa using hb) e, rfl, rfl, rfl, Nat.le_refl _⟩
 self := fun i s Q E st h => z36 st.1 h
theorem z9q (hh : A.handled = none) (hw : w.params.followText "set-order" = true) {I a : Addr} {o : Obj} {es : Array (Int × Value)} {ep : Nat} {t : SetTable}
  (hd : o.data = .set es ep t) (hf : t.fits es.size = true) (hI : a ≠ I) :
  WalksS prog w A I [I, a] [I] (fun x y => x = y) es.size (fun i v => ∃ e, (pickOrder (w.params.setOrder a ep) es)[i]? = some e ∧ v = e.2)
   (fun i s => SetIterAt s.heap I (.int (0 : Nat) 0) i a es.size ep ∧ s.heap.get? a = some o) where
 sub := fun b hb => by simp at hb; simp [hb]
 grefl := fun _ => rfl
 gtrans := fun _ _ _ p q => p.trans q
 frame := fun i s h' tk st _ k => ⟨st.1.keep (k I (by simp)), k a (by simp) _ st.2⟩
 item := fun i s Q E lt st hQ => by
  have len : (pickOrder (w.params.setOrder a ep) es).size = es.size := by
   rw [← Array.length_toList, (z2o _ _).length_eq, Array.length_toList]
  have he : (pickOrder (w.params.setOrder a ep) es)[i]? = some (pickOrder (w.params.setOrder a ep) es)[i] := Array.getElem?_eq_getElem (by omega)
  refine z4g (next := 0) (x := (pickOrder (w.params.setOrder a ep) es)[i].2) st.2 hd hf st.1 (fun A' E' Q' q => z4f hw st.2 hd hf (by rw [he]; exact q)) fun h' si sb => ?_
  refine hQ _ _ ⟨_, he, rfl⟩ ⟨si, (sb.2 a hI).trans st.2⟩ ⟨fun b o' hb e => ?_, rfl, rfl, rfl, Nat.le_refl _⟩
  exact (sb.2 b (by simpa using hb)).trans e
 done := fun s Q E st hQ => by
  have len : (pickOrder (w.params.setOrder a ep) es).size = es.size := by
   rw [← Array.length_toList, (z2o _ _).length_eq, Array.length_toList]
  have he : (pickOrder (w.params.setOrder a ep) es)[es.size]? = none := Array.getElem?_eq_none (by omega)
  refine z35 hh st.2 hd hf st.1 (fun A' E' Q' q => z4f hw st.2 hd hf (by rw [he]; exact q)) fun h' xb => ?_
  exact hQ _ ⟨fun b o' hb e => xb b o' (by simpa using hb) e, rfl, rfl, rfl, Nat.le_refl _⟩
 self := fun i s Q E st h => z36 st.1 h
end
end PySem
end
section
namespace PySem
open PyProof.Rows (StrsAre)
section
variable {prog : Program} {w : World} {A : Around} {E : Value → Shared → Prop} {s : Shared}
theorem z5x {t : SetTable} {n : Nat} (h : t.fits n = true) : t.place.size = n := by
 unfold SetTable.fits at h
 simp only [Bool.and_eq_true, beq_iff_eq] at h
 exact h.1
def z1o (t : SetTable) (i : Nat) : Nat := if i = 0 then 0 else t.place.getD 0 0 + 1
theorem z6w {t : SetTable} {es : Array (Int × Value)} (hf : t.fits es.size = true) (hn : es.size ≤ 1) {i : Nat} (lt : i < es.size) :
  (match es[SetTable.below t.place (z1o t i)]?, t.place[SetTable.below t.place (z1o t i)]? with
   | some (_, x), some j => some (x, j + 1)
   | _, _ => none) = some (es[i].2, z1o t (i + 1)) := by
 have sz := z5x hf
 obtain rfl : i = 0 := by omega
 have one : t.place.size = 1 := by omega
 obtain ⟨p, hp⟩ : ∃ p, t.place = #[p] := ⟨t.place[0], by
  apply Array.ext
  ·simpa using one
  ·intro k h1 h2
   simp at h2
   subst h2; rfl⟩
 simp only [z1o, hp, if_true, z68]
 rw [Array.getElem?_eq_getElem lt]
 simp
theorem z7v {t : SetTable} {es : Array (Int × Value)} (hf : t.fits es.size = true) (hn : es.size ≤ 1) :
  (match es[SetTable.below t.place (z1o t es.size)]?, t.place[SetTable.below t.place (z1o t es.size)]? with
   | some (_, x), some j => some (x, j + 1)
   | _, _ => none) = (none : Option (Value × Nat)) := by
 have sz := z5x hf
 by_cases z : es.size = 0
 ·have e : es = #[] := Array.eq_empty_of_size_eq_zero z
  subst e; simp
 ·have one : t.place.size = 1 := by omega
  obtain ⟨p, hp⟩ : ∃ p, t.place = #[p] := ⟨t.place[0], by
   apply Array.ext
   ·simpa using one
   ·intro k h1 h2
    simp at h2
    subst h2; rfl⟩
  have e1 : es.size = 1 := by omega
  have hs : z1o t es.size = p + 1 := by simp [z1o, e1, hp]
  rw [hs, hp, z69]
  have : es[1]? = none := Array.getElem?_eq_none (by omega)
  rw [this]
theorem zb0 (hh : A.handled = none) (hw : w.params.followText "set-order" = false) {I a : Addr} {o : Obj} {es : Array (Int × Value)} {ep : Nat} {t : SetTable}
  (hd : o.data = .set es ep t) (hf : t.fits es.size = true) (hn : es.size ≤ 1) (hl : t.led = true) (hI : a ≠ I) :
  WalksS prog w A I [I, a] [I] (fun x y => x = y) es.size (fun i v => ∃ e, es[i]? = some e ∧ v = e.2)
   (fun i s => SetIterAt s.heap I (.int (z1o t i) 0) i a es.size ep ∧ s.heap.get? a = some o) where
 sub := fun b hb => by simp at hb; simp [hb]
 grefl := fun _ => rfl
 gtrans := fun _ _ _ p q => p.trans q
 frame := fun i s h' tk st _ k => ⟨st.1.keep (k I (by simp)), k a (by simp) _ st.2⟩
 item := fun i s Q E lt st hQ => by
  refine z4g (next := z1o t (i + 1)) (x := es[i].2) st.2 hd hf st.1
   (fun A' E' Q' q => z56 hw st.2 hd hf hn hl ((congrArg (fun z => Q' z s) (z6w hf hn lt)).mpr q)) fun h' si sb => ?_
  refine hQ _ _ ⟨_, Array.getElem?_eq_getElem lt, rfl⟩ ⟨si, (sb.2 a hI).trans st.2⟩ ⟨fun b o' hb e => ?_, rfl, rfl, rfl, Nat.le_refl _⟩
  exact (sb.2 b (by simpa using hb)).trans e
 done := fun s Q E st hQ => by
  refine z35 hh st.2 hd hf st.1
   (fun A' E' Q' q => z56 hw st.2 hd hf hn hl ((congrArg (fun z => Q' z s) (z7v hf hn)).mpr q)) fun h' xb => ?_
  exact hQ _ ⟨fun b o' hb e => xb b o' (by simpa using hb) e, rfl, rfl, rfl, Nat.le_refl _⟩
 self := fun i s Q E st h => z36 st.1 h
end
end PySem
end
section
namespace PySem
open PyProof.Rows (StrsAre)
section
variable {prog : Program} {w : World} {A : Around} {E : Value → Shared → Prop} {s : Shared}
theorem zbr {a : Addr} {Q : Bool → Shared → Prop} (ty : s.TypeIs (.ref a) "set") (h : Q false s) :
  wpAny (model prog w) A (Builtin.List.listLengthHint (.ref a)) Q E s := by
 unfold Builtin.List.listLengthHint
 refine wpAny_bind (wpAny_specialOf ty F.slot_set_len.lookup ?_)
 generalize e : ("set.__len__" : String) = id
 wp_delta
 have sp : splitId id = some ("set", "__len__") := by subst e; decide +kernel
 rw [sp]
 subst e
 refine wpAny_bind (wpAny_isInstance (b := true) ty sub_set_self ?_)
 refine wpAny_ite_split (fun z => absurd z (by decide)) (fun _ => ?_)
 refine wpAny_ite_split (fun _ => ?_) (fun z => absurd (by decide +kernel) z)
 exact wpAny_bind (wpAny_typeOf ty (wpAny_pure h))
theorem z2k {R : Result → Shared → Prop} {a I S : Addr} {fp : List Addr} {n c : Nat} {P : Nat → Value → Prop} {St : Nat → Shared → Prop} {res : Value} {b : Bool}
  (W : WalksS prog w A.in1 I fp [I] (fun x y => x = y) n P St) (hn : n ≤ sizeLine) (hS : S ∉ fp) (st : St 0 s)
  (gS : s.heap.get? S = some { cls := .type "list", data := .seq #[] c }) (ty : s.TypeIs (.ref a) "set")
  (hR : ∀ s' acc c', Moved (S :: [I]) (fun x y => x = y) s s' → s'.heap.get? S = some { cls := .type "list", dict := none, data := .seq acc c', slots := #[] } → ItemsOf P acc n → R (.ok (.ret res)) s') :
  wpAny (model prog w) A.in1 (do
   let room ← holding [.ref I] (Builtin.List.listLengthHint (.ref a))
   if (room || b) = true then do
    rule "list.extend.makes-room"
    Builtin.List.listTouch (.ref S)
    again (.builtin "list.extend.loop" ⟨[.ref S, .ref I, res], []⟩)
   else again (.builtin "list.extend.loop" ⟨[.ref S, .ref I, res], []⟩))
   (fun fin s' => match fin with | .done f => R (.ok f) s' | .again c' => c'.quiet = true ∧ codeAny (model prog w) A c' R s') (fun e s' => R (.error e) s') s := by
 refine wpAny_bind (wpAny_holding (zbr ty ?_))
 refine wpAny_ite_split (fun _ => ?_) (fun _ => wpAny_pure ⟨plainId_quiet F.plain_extend_loop _, codeAny_extend_loopS W hn S hS res n 0 _ #[] c rfl (Nat.zero_le _) st gS (ItemsOf.nil _) hR⟩)
 refine wpAny_bind (wpAny_rule ?_)
 refine wpAny_bind ?_
 show wpAny _ _ (updateSeq S (·.push .none) >>= fun _ => updateSeq S (·.pop)) _ _ _
 refine wpAny_bind (wpAny_updateSeq gS rfl ?_)
 have g2 := Heap.get?_update_self (Obj.mapSeq (·.push Value.none)) gS rfl
 refine wpAny_updateSeq (hz := by seq_fits) g2 rfl ?_
 have g3 := Heap.get?_update_self (Obj.mapSeq (·.pop)) g2 rfl
 have oth : ∀ q o, q ≠ S → s.heap.get? q = some o → ((s.heap.update S (Obj.mapSeq (·.push Value.none))).update S (Obj.mapSeq (·.pop))).get? q = some o :=
  fun q o hq e => (Heap.get?_update_other _ _ (Ne.symm hq)).trans ((Heap.get?_update_other _ _ (Ne.symm hq)).trans e)
 refine wpAny_pure ⟨plainId_quiet F.plain_extend_loop _, codeAny_extend_loopS W hn S hS res n 0 _ _ _ rfl (Nat.zero_le _) ?_ g3 (ItemsOf.nil _) fun s' acc c' mv g ii => ?_⟩
 ·exact W.frame 0 s _ s.toks st (Nat.le_refl _) fun q hq o e => oth q o (fun z => hS (z ▸ hq)) e
 ·refine hR s' acc c' (Moved.trans W.gtrans ((Moved.refl W.grefl).then_heap (Nat.le_refl _) fun q o hq e => ?_) mv) g ii
  exact oth q o (fun z => hq (z ▸ .head _)) e
end
end PySem
end
section
namespace PySem
open PyProof.Rows (StrsAre)
theorem z57 {α : Type} [BEq α] [LawfulBEq α] : ∀ (D ks : List α), D.Nodup → (∀ x ∈ D, x ∈ ks) → ks.length = D.length → ks.Perm D
 | [], ks, _, _, h => by rw [List.length_eq_zero_iff.mp h]
 | x :: D, ks, nd, sub, h => by
  have xin := sub x (.head _)
  have pe := List.perm_cons_erase xin
  refine pe.trans ((z57 D (ks.erase x) (List.nodup_cons.mp nd).2 (fun y hy => ?_) ?_).cons x)
  ·have ne : y ≠ x := fun e => (List.nodup_cons.mp nd).1 (e ▸ hy)
   exact (List.mem_erase_of_ne ne).mpr (sub y (.tail _ hy))
  ·have := pe.length_eq
   simp only [List.length_cons] at this h
   omega
theorem zb1 {P : Nat → Value → Prop} {L : List (Int × Value)} {acc : Array Value} (h : ItemsOf P acc L.length)
  (hP : ∀ i v, P i v → ∃ e, L[i]? = some e ∧ v = e.2) : acc.toList = L.map (·.2) := by
 apply List.ext_getElem?
 intro i
 by_cases lt : i < L.length
 ·have lt' : i < acc.size := by rw [h.1]; exact lt
  obtain ⟨e, he, hv⟩ := hP i acc[i] (h.2 i acc[i] (Array.getElem?_eq_getElem lt'))
  rw [Array.getElem?_toList, Array.getElem?_eq_getElem lt', List.getElem?_map, he, hv]
  rfl
 ·rw [List.getElem?_eq_none (by rw [Array.length_toList, h.1]; omega), List.getElem?_eq_none (by rw [List.length_map]; omega)]
section
variable {prog : Program} {w : World} {A : Around} {E : Value → Shared → Prop} {s : Shared}
theorem zbs {L : List (Int × Value)} {D : List Str} (he : ElemsOf (strKind prog w) L) (nd : D.Nodup)
  (hm : ∀ k, decide (k ∈ D) = true ↔ ∃ e ∈ L, (strKind prog w).is k e.2 = true) (hn : L.length = D.length) :
  ∃ ks, StrsAre (L.map (·.2)) ks ∧ ks.Perm D := by
 have is : ∀ (k : Str) (v : Value), (strKind prog w).is k v = true → ∃ t, v = .str k t := fun k v z => by
  cases v <;> first
   | (obtain rfl := (by simpa [strKind, Value.isInt, Value.isStrOf] using z : _ = k); exact ⟨_, rfl⟩)
   | cases z
 have ex : ∀ L : List (Int × Value), ElemsOf (strKind prog w) L → ∃ ks, StrsAre (L.map (·.2)) ks ∧ ∀ k e, e ∈ L → (strKind prog w).is k e.2 = true → k ∈ ks := by
  intro L
  induction L with
  | nil => exact fun _ => ⟨[], .nil, fun _ _ z => nomatch z⟩
  | cons e L ih =>
   intro he
   obtain ⟨ks, h1, h2⟩ := ih he.tail
   obtain ⟨k, hk, _⟩ := he.head.1
   obtain ⟨t, ht⟩ := is k e.2 hk
   refine ⟨k :: ks, ?_, fun k' e' m z => ?_⟩
   ·rw [List.map_cons, ht]; exact .cons k t h1
   ·rcases List.mem_cons.mp m with rfl | m
    ·rw [(strKind prog w).inj _ k' k z hk]; exact .head _
    ·exact .tail _ (h2 k' e' m z)
 obtain ⟨ks, h1, h2⟩ := ex L he
 refine ⟨ks, h1, z57 D ks nd (fun k hk => ?_) ?_⟩
 ·obtain ⟨e, m, z⟩ := (hm k).mp (decide_eq_true hk)
  exact h2 k e m z
 ·have := h1.length
  rw [List.length_map] at this
  omega
end
end PySem
end
section
namespace PySem
open PyProof.Rows (StrsAre)
section
variable {prog : Program} {w : World} {A : Around} {E : Value → Shared → Prop} {s : Shared}
theorem z6x {a : Addr} {D : List Str} {Q : List Value → Shared → Prop} (hh : A.handled = none) (nd : D.Nodup)
  (T : TextSet prog w s.heap a D (z20 w))
  (h : ∀ s' vs ks, StrsAre vs ks → ks.Perm D → (∀ b o, s.heap.get? b = some o → s'.heap.get? b = some o) → s'.gens = s.gens → s'.os = s.os →
   s.toks ≤ s'.toks → Q vs s') : wpAny (model prog w) A (collect (.ref a)) Q E s := by
 obtain ⟨o, es, ep, t, ho, hx, hd, he, hm, hb, hf, hn, hl, hp⟩ := T
 have la := Heap.lt_size ho
 unfold collect
 refine wpAny_bind (wpAny_runValue (codeAny_builtin F.entry_proto_collect ?_))
 rw [Around.under_plainId F.plain_proto_collect _]
 refine wpAny_bind (m := newList []) (wpAny_newObj_type ?_)
 refine wpAny_pure ⟨plainId_quiet F.plain_list_iadd _, codeAny_builtin F.entry_list_iadd ?_⟩
 rw [Around.under_plainId F.plain_list_iadd _]
 show wpAny _ A.in1 (Builtin.List.listExtendWith (.ref s.heap.objs.size) (.ref a) (.ref s.heap.objs.size)) _ _ _
 unfold Builtin.List.listExtendWith
 generalize hH : s.heap.push { cls := .type "list", data := .seq ([] : List Value).toArray } = H
 have ho1 : H.get? a = some o := by rw [← hH]; exact Heap.get?_push_of_some _ ho
 have gS : H.get? s.heap.objs.size = some { cls := .type "list", data := .seq #[] } := by rw [← hH]; exact Heap.get?_push_size _ rfl
 have zH : H.objs.size = s.heap.objs.size + 1 := by rw [← hH, Heap.size_push]
 have ty : Shared.TypeIs { s with heap := H } (.ref a) "set" := ⟨o, ho1, hx.1⟩
 refine wpAny_bind (wpAny_typeOf ty ?_)
 have h1 : Builtin.List.listSameRef (.ref s.heap.objs.size) (.ref a) = false := by
  simp only [Builtin.List.listSameRef, beq_eq_false_iff_ne]; exact Nat.ne_of_gt la
 have h2 : (Value.type "set" == Value.type "list") = false := by decide
 have h3 : (Value.type "set" == Value.type "tuple") = false := by decide
 simp only [h1, h2, h3, Bool.or_false, Bool.false_eq_true, if_false]
 have hz := fits_of_scanBound hb
 have fin : ∀ (s1 s' : Shared) (I : Addr) (P : Nat → Value → Prop) (L : List (Int × Value)) (acc : Array Value) (c : Nat),
   (∀ b o, H.get? b = some o → s1.heap.get? b = some o) → s1.gens = s.gens → s1.os = s.os → s1.toks = s.toks → s.heap.objs.size < I →
   L.Perm es.toList → (∀ i v, P i v → ∃ e, L[i]? = some e ∧ v = e.2) →
   Moved (s.heap.objs.size :: [I]) (fun x y => x = y) s1 s' → ItemsOf P acc es.size → Q acc.toList s' := by
  intro s1 s' I P L acc c k0 k1 k2 k3 k4 pr hP mv ii
  have len : L.length = es.size := by rw [pr.length_eq, Array.length_toList]
  rw [← len] at ii
  rw [zb1 ii hP]
  have hm2 : ∀ k, decide (k ∈ D) = true ↔ ∃ e ∈ L, (strKind prog w).is k e.2 = true := fun k =>
   (hm k).trans ⟨fun ⟨e, q, z⟩ => ⟨e, pr.mem_iff.mpr q, z⟩, fun ⟨e, q, z⟩ => ⟨e, pr.mem_iff.mp q, z⟩⟩
  obtain ⟨ks, t1, t2⟩ := zbs (he.perm pr) nd hm2 (len.trans hn)
  refine h s' _ ks t1 t2 (fun b o' e => ?_) (mv.gens.symm.trans k1) (mv.os.trans k2) (k3 ▸ mv.toks)
  have lb := Heap.lt_size e
  refine mv.heap b o' (fun m => ?_) (k0 b o' (by rw [← hH]; exact Heap.get?_push_of_some _ e))
  rcases List.mem_cons.mp m with q | m
  ·exact Nat.ne_of_lt lb q
  ·exact Nat.ne_of_lt (Nat.lt_trans lb k4) (List.mem_singleton.mp m)
 have h4 : A.in1.handled = none := by simp [hh]
 let K : Value → Shared → Prop := fun v s' => wpAny (model prog w) A (match v with
  | .ref a => do
   match (← load a).data with
   | .seq xs _ => pure xs.toList
   | _ => unsupported "internal:collect"
  | _ => unsupported "internal:collect") Q E s'
 have aS : s.heap.objs.size ≠ a := Nat.ne_of_gt la
 have laH : a < H.objs.size := Heap.lt_size ho1
 refine wpAny_bind (z9p ho1 hx hd hf hb ?_ ?_)
 ·intro w1 w2 w3 ps d pr
  have len : ps.length = es.size := by simpa using pr.length_eq
  have gT : ((H.push { cls := .type "tuple", data := .seq (ps.map fun (i : Nat) => rawInt i).toArray }).push (z16 (.ref H.objs.size) 0 a es.size ep)).get? H.objs.size
    = some { cls := .type "tuple", data := .seq (ps.map fun (i : Nat) => rawInt i).toArray } := Heap.get?_push_of_some _ (Heap.get?_push_size _ rfl)
  have gI : ((H.push { cls := .type "tuple", data := .seq (ps.map fun (i : Nat) => rawInt i).toArray }).push (z16 (.ref H.objs.size) 0 a es.size ep)).get? (H.objs.size + 1)
    = some (z16 (.ref H.objs.size) 0 a es.size ep) := by
   have z2 : (H.push { cls := .type "tuple", data := .seq (ps.map fun (i : Nat) => rawInt i).toArray }).objs.size = H.objs.size + 1 := Heap.size_push ..
   rw [← z2]
   exact Heap.get?_push_size _ rfl
  have two : ∀ b o', H.get? b = some o' → ((H.push { cls := .type "tuple", data := .seq (ps.map fun (i : Nat) => rawInt i).toArray }).push (z16 (.ref H.objs.size) 0 a es.size ep)).get? b = some o' :=
   fun b o' e => Heap.get?_push_of_some _ (Heap.get?_push_of_some _ e)
  have W := z8k (prog := prog) (w := w) (A := A.in1) h4 (I := H.objs.size + 1) (T := H.objs.size) (a := a) (o := o) (ps := ps) (nT := 0)
   (oT := { cls := .type "tuple", data := .seq (ps.map fun (i : Nat) => rawInt i).toArray }) hd hf rfl
   (Nat.ne_of_lt (Nat.lt_succ_of_lt laH)) (Nat.ne_of_lt (Nat.lt_succ_self _)) pr
  have out : s.heap.objs.size ∉ [H.objs.size + 1, a, H.objs.size] := by
   rw [zH]; intro m
   rcases List.mem_cons.mp m with q | m
   ·exact Nat.ne_of_lt (Nat.lt_succ_of_lt (Nat.lt_succ_self _)) q
   ·rcases List.mem_cons.mp m with q | m
    ·exact aS q
    ·exact Nat.ne_of_lt (Nat.lt_succ_self _) (List.mem_singleton.mp m)
  refine z2k (a := a) (R := wants K E) (b := _) W hz out ?_ (c := 0) ?_ ?_ ?_
  ·exact ⟨⟨_, gI, rfl, rfl⟩, two _ _ ho1, gT⟩
  ·exact two _ _ gS
  ·exact ⟨o, two _ _ ho1, hx.1⟩
  intro s' acc c' mv g ii
  show wpAny _ _ (load _ >>= _) _ _ _
  refine wpAny_bind (wpAny_load g (wpAny_pure ?_))
  refine fin { s with heap := (H.push { cls := .type "tuple", data := .seq (ps.map fun (i : Nat) => rawInt i).toArray }).push (z16 (.ref H.objs.size) 0 a es.size ep), drawn := d } s' (H.objs.size + 1) _ (ps.map fun p => es.getD p default) acc c' two rfl rfl rfl (by rw [zH]; exact Nat.lt_succ_of_lt (Nat.lt_succ_self _)) ?_ ?_ mv ii
  ·refine (pr.map _).trans ?_
   have : (List.range es.size).map (fun p => es.getD p default) = es.toList := by
    apply List.ext_getElem?
    intro i
    by_cases lt : i < es.size
    ·simp [lt]
    ·simp [lt]
   rw [this]
  ·rintro i v ⟨p, e, hp', he', rfl⟩
   refine ⟨e, ?_, rfl⟩
   rw [List.getElem?_map, hp']
   obtain ⟨lt, q⟩ := Array.getElem?_eq_some_iff.mp he'
   simp [lt, q]
 ·intro w1
  have gI : (H.push (z16 (.int 0 0) 0 a es.size ep)).get? H.objs.size = some (z16 (.int 0 0) 0 a es.size ep) := Heap.get?_push_size _ rfl
  have one : ∀ b o', H.get? b = some o' → (H.push (z16 (.int 0 0) 0 a es.size ep)).get? b = some o' := fun b o' e => Heap.get?_push_of_some _ e
  have out : s.heap.objs.size ∉ [H.objs.size, a] := by
   rw [zH]; intro m
   rcases List.mem_cons.mp m with q | m
   ·exact Nat.ne_of_lt (Nat.lt_succ_self _) q
   ·exact aS (List.mem_singleton.mp m)
  have lI : s.heap.objs.size < H.objs.size := by rw [zH]; exact Nat.lt_succ_self _
  cases hw : w.params.followText "set-order" with
  | true =>
   have W := z9q (prog := prog) (A := A.in1) h4 hw (I := H.objs.size) (a := a) (o := o) hd hf (Nat.ne_of_lt laH)
   refine z2k (a := a) (R := wants K E) (b := _) W hz out ?_ (c := 0) ?_ ?_ ?_
   ·exact ⟨⟨_, gI, rfl, rfl⟩, one _ _ ho1⟩
   ·exact one _ _ gS
   ·exact ⟨o, one _ _ ho1, hx.1⟩
   intro s' acc c' mv g ii
   show wpAny _ _ (load _ >>= _) _ _ _
   refine wpAny_bind (wpAny_load g (wpAny_pure ?_))
   refine fin { s with heap := H.push (z16 (.int 0 0) 0 a es.size ep) } s' H.objs.size _ (pickOrder (w.params.setOrder a ep) es).toList acc c' one rfl rfl rfl lI (z2o _ _) ?_ mv ii
   rintro i v ⟨e, q, rfl⟩
   exact ⟨e, by rw [Array.getElem?_toList]; exact q, rfl⟩
  | false =>
   have small : es.size ≤ 1 := by
    rcases w1 with q | q | q
    ·rw [hw] at q; cases q
    ·by_cases z : es.size = 0
     ·omega
     ·rw [hp z] at q; cases q
    ·exact q
   have W := zb0 (prog := prog) (A := A.in1) h4 hw (I := H.objs.size) (a := a) (o := o) hd hf small (hl.trans (by simp [z20, hw])) (Nat.ne_of_lt laH)
   refine z2k (a := a) (R := wants K E) (b := _) W hz out ?_ (c := 0) ?_ ?_ ?_
   ·exact ⟨⟨_, gI, rfl, rfl⟩, one _ _ ho1⟩
   ·exact one _ _ gS
   ·exact ⟨o, one _ _ ho1, hx.1⟩
   intro s' acc c' mv g ii
   show wpAny _ _ (load _ >>= _) _ _ _
   refine wpAny_bind (wpAny_load g (wpAny_pure ?_))
   refine fin { s with heap := H.push (z16 (.int 0 0) 0 a es.size ep) } s' H.objs.size _ es.toList acc c' one rfl rfl rfl lI (.refl _) ?_ mv ii
   rintro i v ⟨e, q, rfl⟩
   exact ⟨e, by rw [Array.getElem?_toList]; exact q, rfl⟩
end
end PySem
end
section
namespace PySem
open PyProof.Rows
section
variable {prog : Program} {w : World} {A : Around} {E : Value → Shared → Prop} {s : Shared}
theorem z6a {a : Addr} {D : List Str} {Q : Value → Shared → Prop} (hh : A.handled = none) (nd : D.Nodup) (h64 : D.length < 64)
  (T : TextSet prog w s.heap a D (z20 w))
  (h : ∀ s' l vs ks e, StrsAre vs ks → ks.Perm D → sortedS ks = true → (∀ b o, s.heap.get? b = some o → s'.heap.get? b = some o ∧ b ≠ l) →
   s'.heap.get? l = some (seqObj "list" vs.toArray e) → s.heap.get? l = none → s'.gens = s.gens → s'.os = s.os → s.toks ≤ s'.toks → Q (.ref l) s') :
  wpAny (model prog w) A (call (.builtin "sorted") [.ref a]) Q E s := by
 refine Calls.call_function_entry kind_sorted plain_sorted entry_sorted (args_sorted1 _) ?_
 unfold Builtin.«sorted»
 refine wpAny_bind (m := checkCount "sorted" 1 1 _) (wpAny_pure ?_)
 refine wpAny_bind (z6x (by simpa using hh) nd T fun s1 vs ks t1 t2 k0 k1 k2 k3 => ?_)
 have v64 : vs.length < 64 := by rw [t1.length, t2.length_eq]; exact h64
 have fit : vs.length ≤ sizeLine := Nat.le_trans (Nat.le_of_lt v64) (by decide)
 refine wpAny_bind (wpAny_newList ?_ fit)
 have hS := Heap.get?_push_size (h := s1.heap) (o := seqObj "list" vs.toArray 0) rfl
 refine wpAny_bind (wpAny_holding (wpAny_call_entry slot_list_sort ⟨_, hS, rfl⟩ entry_list_sort
  (list_sort_treeK strKind_oneLt hS t1.keysOf (fun v₁ v₂ rest e => keyKind_strs (by rw [← e]; exact t1)) v64 fun st' a1 a2 => ⟨_, rfl, ?_⟩) (args_list_sort _)))
 obtain ⟨ks', u1, u2, u3⟩ := sorted_out_str t1 a1 a2
 refine wpAny_pure ⟨_, rfl, ?_⟩
 obtain ⟨e, ge⟩ := sortedHeap_at (out := (arrOf st').map (·.2)) hS
 refine h _ s1.heap.objs.size ((arrOf st').map (·.2)).toList ks' e u1 (u2.trans t2) u3 (fun b o q => ?_) ?_ ?_ k1 k2 k3
 ·have lb := Heap.lt_size (k0 b o q)
  refine ⟨?_, Nat.ne_of_lt lb⟩
  refine (sortedHeap_old (Nat.ne_of_lt lb) ?_).trans (Heap.get?_push_of_some _ (k0 b o q))
  rw [Heap.size_push]; exact Nat.lt_succ_of_lt lb
 ·exact ge
 ·cases z : s.heap.get? s1.heap.objs.size with
  | none => rfl
  | some o => exact absurd (Heap.lt_size (k0 _ o z)) (Nat.lt_irrefl _)
end
end PySem
end
section
namespace L2
open PySem PySem.Spec PyProof.Rows
def tso (P : Program) (w : World) (a : Addr) (D : List Str) : HO := .ext fun h => TextSet P w h a D (z20 w)
theorem zdh {P : Program} {w : World} {H : Hp} {h : Heap} {a : Addr} {D : List Str} (T : TextSet P w h a D (z20 w)) : ObjOk P w H h a (tso P w a D) := by
 refine ⟨T, ?_, fun h1 h2 t k => TextSet.keep t k⟩
 obtain ⟨o, es, ep, t, ho, _⟩ := T
 exact ⟨o, ho⟩
theorem z8z : ∀ {ss : List Str} {us : List Value}, Vals (ss.map V.str) us → StrsAre us ss
 | [], _, h => by cases h; exact .nil
 | s :: ss, _, h => by
  cases h with
  | cons h1 t =>
   obtain ⟨k, rfl⟩ := h1
   exact .cons s k (z8z t)
theorem z90 : ∀ {us : List Value} {ss : List Str}, StrsAre us ss → Vals (ss.map V.str) us
 | _, _, .nil => .nil
 | _, _, .cons y t r => .cons ⟨t, rfl⟩ (z90 r)
theorem z8l {P : Program} {w : World} {H : Hp} {h : Heap} {a : Addr} {o : HO} (x : ObjOk P w H h a o) : ∃ u, h.get? a = some u := by
 cases o with
 | lst xs => obtain ⟨_, _, _, _, e⟩ := x; exact ⟨_, e⟩
 | tup xs => obtain ⟨_, _, _, _, e, _⟩ := x; exact ⟨_, e⟩
 | dK kvs => obtain ⟨_, _, _, _, _, _, _, e, _⟩ := x; exact ⟨_, e⟩
 | dT kvs => obtain ⟨_, _, _, _, _, _, _, e, _⟩ := x; exact ⟨_, e⟩
 | set S n => obtain ⟨_, _, _, _, e, _⟩ := x; exact ⟨_, e⟩
 | ins C dx fs => obtain ⟨_, _, _, e, _⟩ := x; exact ⟨_, e⟩
 | own y => obtain ⟨_, e⟩ := x; exact ⟨_, e⟩
 | xd fs => obtain ⟨_, ⟨_, _, _, e, _⟩, _⟩ := x; exact ⟨_, e⟩
 | rng lo hi => obtain ⟨_, _, _, e⟩ := x; exact ⟨_, e⟩
 | frz ob u => obtain ⟨e, _⟩ := x; exact ⟨_, e⟩
 | tbl ps => exact ⟨_, show h.get? a = some _ from x⟩
 | met f y => exact ⟨_, show h.get? a = some _ from x⟩
 | ext φ => obtain ⟨_, ⟨_, e⟩, _⟩ := x; exact ⟨_, e⟩
section
variable {X : Cx}
theorem z3h (hc : X.calm = true) : CallR X (.type "set") (fun xs H Q => ∃ p ss, xs = [.ref p] ∧ SqL X.K H p ((ss : List Str).map V.str) ∧ ss.length + 1 < scanBound ∧ ∀ d, H d = none → Q (.ref d) (upd H d (tso X.prog X.w d (zy ss)))) := by
 intro pins s σ H xs us Q I r h
 obtain ⟨p, ss, rfl, hp, hb, q⟩ := h
 obtain ⟨u, rfl, ru⟩ := z3e r
 cases ru
 obtain ⟨its, r1, pl, hz⟩ := I.list hp
 refine z67 (ss := ss) (I.ok.hd hc) pl.isList (by simpa using z8z r1) hb fun h' tk T ht hk => ?_
 exact ⟨.ref _, _, I.laid (t' := tk) hk (Nat.le_refl _) (zdh T), rfl, q _ I.fresh⟩
theorem z7w (hc : X.calm = true) : CallR X (.builtin "sorted") (fun xs H Q => ∃ a D, xs = [.ref a] ∧ H a = some (tso X.prog X.w a D) ∧ D.Nodup ∧ D.length < 64 ∧ ∀ l ks, H l = none → ks.Perm D → sortedS ks = true → Q (.ref l) (upd H l (.lst ((ks : List Str).map V.str)))) := by
 intro pins s σ H xs us Q I r h
 obtain ⟨a, D, rfl, ha, nd, h64, q⟩ := h
 obtain ⟨u, rfl, ru⟩ := z3e r
 cases ru
 obtain ⟨T, -, -⟩ := (show ObjOk X.prog X.w H s.heap a (tso X.prog X.w a D) from I.hok a _ ha)
 refine z6a (I.ok.hd hc) nd h64 T fun s' l vs ks e t1 t2 t3 hk hl hn hg ho ht => ?_
 have hz : (ks.map V.str).length ≤ sizeLine := by
  rw [List.length_map, t2.length_eq]; exact Nat.le_trans (Nat.le_of_lt h64) (by decide)
 have k : ∀ b u, s.heap.get? b = some u → s'.heap.get? b = some u := fun b u e => (hk b u e).1
 have hHl : H l = none := by
  cases z : H l with
  | none => rfl
  | some o =>
   obtain ⟨u, hu⟩ := z8l (I.hok l o z)
   exact absurd rfl (hk l u hu).2
 have un : Un (frs X.stack) [] H (upd H l (.lst (ks.map V.str))) s.heap s'.heap := by
  refine ⟨fun b u z _ _ _ => k b u z, fun b u z _ _ _ => ⟨u.slots, k b u z⟩, fun b u z n _ => ?_, fun b u z _ => ⟨u, k b u z⟩, fun b ys z => ?_, fun b u ys z => ?_, fun b ps z => ⟨#[], ?_⟩⟩
  ·rw [zc (hk b u z).2]; exact n
  ·rw [zc (zi z hHl)]; exact z
  ·rw [zc (zi z hHl)]; exact z
  ·rw [zc (zi z hHl), z]; simp
 have hok : HOk X.prog X.w (upd H l (.lst (ks.map V.str))) s'.heap := fun b u e' => by
  by_cases hb : b = l
  ·subst hb; rw [z7] at e'; cases e'
   exact ⟨hz, vs, e, z90 t1, hl⟩
  ·rw [zc hb] at e'
   exact (I.hok b u e').stay (fun c v _ q => k c v q) (fun c q => by rw [zc (zi q hHl)]; exact q) fun c xs q => by rw [zc (zi q hHl)]; exact q
 exact ⟨.ref l, _, I.call' ho un hok (by rw [hg]; exact I.bare) (fun b z => absurd z (by simp)), rfl, q l ks hHl t2 t3⟩
end
end L2
end
section
namespace L2
open PySem PySem.Spec PyProof.Rows
section
variable {X : Cx}
theorem Inv.blank {pins : List (Addr × Obj)} {σ : St} {H : Hp} {s : Shared} {h' : Heap} {m' : Str → Option Value} {t' : Nat} (I : Inv X pins σ H s) (hn : h'.Ns X.env.locals m') (hs : Heap.SameBut X.env.locals s.heap h') :
  Inv X pins (List.replicate X.N.length none) H { s with heap := h', toks := t' } := by
 have old : ∀ b o, X.s₀.heap.get? b = some o → b ≠ X.env.locals := fun b o e => Nat.ne_of_lt (Nat.lt_of_lt_of_le (Heap.lt_size e) I.ok.above)
 refine ⟨I.ok, I.os, I.bare, ⟨fun b o e n hb hx => ?_, fun b o e n hb hx => ?_, I.base.free, fun b o e hx => ?_, I.base.tups, I.base.frzs, I.base.tbls⟩, ⟨m', hn, fun j y v e1 e2 => ?_⟩, fun y c e => ?_, I.free, I.freeC, fun p hp => ?_, fun b ob e => ?_, by simp⟩
 ·rw [hs.2 b (old b o e)]
  exact I.base.keep b o e n hb hx
 ·obtain ⟨sl, q⟩ := I.base.slot b o e n hb hx
  exact ⟨sl, by rw [hs.2 b (old b o e)]; exact q⟩
 ·obtain ⟨o2, q⟩ := I.base.there b o e hx
  exact ⟨o2, by rw [hs.2 b (old b o e)]; exact q⟩
 ·rw [List.getElem?_replicate] at e2
  split at e2
  ·cases e2
  ·cases e2
 ·obtain ⟨u, z⟩ := I.cell y c e
  exact ⟨u, z.sameBut hs (I.cne y c e)⟩
 ·obtain ⟨a1, a2, a3, a4⟩ := I.pin p hp
  exact ⟨by rw [hs.2 p.1 a3]; exact a1, a2, a3, a4⟩
 ·have hf := I.free
  refine (I.hok b ob e).stay (fun c u hc q => ?_) (fun _ q => q) fun _ _ q => q
  have ne : c ≠ X.env.locals := by
   rintro rfl
   rcases hc with hc | hc
   ·rw [hc] at hf
    rw [hf] at e
    cases e
   ·rw [hf] at hc
    cases hc
  rw [hs.2 c ne]
  exact q
theorem zct {K : PySem.W.Frag} {A : Addr} : PySem.W.kitOne K (.ref A) (.ref A) = some true := by
 unfold PySem.W.kitOne
 rw [if_pos (beq_self_eq_true _)]
theorem zdr {K : PySem.W.Frag} {A : Addr} {n : String} {b : Bool} (h : PySem.W.subIn K (.ref A) (.type n) = some b) (hk : PySem.W.kitMeta n = true) : PySem.W.kitOne K (.ref A) (.type n) = some b := by
 unfold PySem.W.kitOne
 rw [if_neg (fun z => by cases eq_of_beq z)]
 unfold PySem.W.kitCls
 simpa [hk] using h
theorem z58 {K : PySem.W.Frag} (h : X.K = K := by rfl) : CallR X (.builtin "isinstance") (fun xs H Q => ∃ x C v c b, xs = [.ref x, v] ∧ H x = some (exo x C) ∧ PySem.W.ErrCls K C ∧ clsV v = some c ∧ PySem.W.kitOne K (.ref C) c = some b ∧ Q (.bl b) H) := h ▸ zay
def hAs (K : PySem.W.Frag) (D : Addr) (i : Nat) (tb : TS) (th : TH) : TH := fun cls En σ H =>
 ∃ b, PySem.W.subIn K cls (.ref D) = some b ∧ if b = true then (∀ x C, cls = .ref C → H x = none → tb { nx := fun _ _ => False, rt := En.rt } (σ.set i (some (.ref x))) (upd H x (exo x C))) else th cls En σ H
theorem zds {cn n : Str} {i : Nat} {D : Addr} {b0 : Stmt} {suite : List Stmt} {rest : List ExceptHandler} {np hpos : Pos} {tb : TS} {th : TH} {bmB : List Value} {nid : String} (hg : Gl X cn) (hm : X.mg cn = some (.ref D)) (ex : PySem.W.excIn X.K D bmB nid = true) (hb : bmB.contains (.type "BaseException") = true)
  (hN : X.N.Nodup) (hi : X.N[i]? = some n) (hl : X.env.scope.names.lookup n = some .local) (hst : X.stack = X.env :: X.outer) (hfr : X.env.frame = some X.env.locals)
  (hs : ∀ ev, PSs (z3x X ev) (b0 :: suite) tb) (hr : PH X rest th) (hdb : (cn == ("__debug__" : Str)) = false := by decide) : PH X (.ExceptHandler (some (.Name cn np)) (some n) (b0 :: suite) hpos :: rest) (hAs X.K D i tb th) := by
 intro pins s σ H En x C t B F h
 obtain ⟨b, sb, h⟩ := h
 have I := F.inv
 obtain ⟨oe, hoe, hcl⟩ := F.fly.there
 refine wpAny_handleBy_cons (codeAny_handlers_test (z2m (X := z3x X (.ref x)) (I.mark _) hg hm ?_ hdb)) (by intro q; cases q)
 refine zar I.kIn hoe hcl ex hb sb ?_
 cases b with
 | false => exact hr pins s σ H En x C t B F h
 | true =>
  refine codeAny_handlers_suite_as (lands_againW F.fly fun h2 fl2 up2 => ?_)
  have F2 := F.on fl2 up2
  obtain ⟨oe2, hoe2, hcl2⟩ := F2.fly.there
  have hx0 : H x = none := by
   cases e : H x with
   | none => rfl
   | some u =>
    obtain ⟨o, q⟩ := F.tr x u e
    have z := F.fly.2.1
    rw [q] at z
    cases z
  have hmine : ¬ Mine X pins x := fun hm => by
   rcases F.mine x hm with z | ⟨o, z⟩
   ·obtain ⟨_, _, _, oe3, vs, _, _, _, q1, _, q3, _⟩ := F.fly
    obtain ⟨_, o2, e2, d2⟩ := I.stack.mem z
    rw [q1] at e2
    cases e2
    exact d2 vs q3
   ·have q := F.fly.2.1
    rw [z] at q
    cases q
  have ok : ObjOk X.prog X.w (upd H x (exo x C)) h2 x (exo x C) := ⟨⟨oe2, hoe2, hcl2⟩, ⟨oe2, hoe2⟩, fun h3 h4 ⟨o, q1, q2⟩ k => ⟨o, k o q1, q2⟩⟩
  have I2 := F2.inv.also hx0 hmine ok
  have body := h x C rfl hx0
  refine z2x (X := z3x X (.ref x)) (I2.mark _) hN hi (.inl hl) (v := .ref x) rfl (fun s3 I3 => ?_) (.inr hl)
  refine wpAny_mono (hs (.ref x) pins _ _ _ _ I3 body) (fun f s4 q => ?_) fun _ _ z => z.elim
  have hk : (X.env.scope.kind == .class || (X.env.scope.kind == .module && X.env.locals != X.env.globals)) = false := by
   rw [I.ok.kind]
   rfl
  cases f with
  | next => obtain ⟨_, _, _, z⟩ := q; exact z.elim
  | brk => obtain ⟨_, _, _, z⟩ := q; exact z.elim
  | cont => obtain ⟨_, _, _, z⟩ := q; exact z.elim
  | ret u =>
   obtain ⟨v, σ2, H2, I4, rv, z⟩ := q
   have I5 := I4.unmark I.ok
   obtain ⟨m, hn, _⟩ := id I5.loc
   exact wpAny_nameGoes hl hn hk fun h5 m5 hn5 hs5 => ⟨v, _, H2, I5.blank hn5 hs5, rv, z⟩
end
end L2
end
section
namespace L2
open PySem PySem.Spec PyProof.Rows
section
variable {X : Cx}
def zcu : V → List V → Hp → VK → Prop := fun x vs H Q => ∃ (l : Addr) (xs : List V) (k : Nat) (y : V), x = .ref l ∧ vs = [.int k, y] ∧ H l = some (.lst xs) ∧ k ≤ xs.length ∧ xs.length < sizeLine ∧ Q .non (upd H l (.lst (xs.take k ++ y :: xs.drop k)))
theorem z6o : MtM X "list.insert" zcu := by
 intro pins s σ H x vs v us Q I rx rv h
 obtain ⟨l, xs, k, y, rfl, rfl, hH, hk, hz, q⟩ := h
 cases rx
 obtain ⟨u, u', rfl, ru, ru'⟩ := rv.two
 obtain ⟨t, rfl⟩ := ru
 obtain ⟨z, its, n, r, hl, e⟩ := I.lstM hH
 have hkl : k ≤ its.length := by omega
 have big : (k : Int) < 2 ^ 63 := by rw [sizeLine_eq] at hz; omega
 have hlo : -(2 ^ 63) ≤ (k : Int) := by omega
 have e1 : (if (k : Int) < 0 then ((k : Int) + ((its.toArray.size : Nat) : Int)).toNat else min (k : Int).toNat its.toArray.size) = k := by
  rw [if_neg (by omega), Int.toNat_natCast, List.size_toArray]
  omega
 generalize (k : Int) = ki at big hlo e1 ⊢
 have hz1 : its.toArray.size ≤ sizeLine := by rw [List.size_toArray]; omega
 have hb := fitsIndex_both hlo big
 refine call_meets F.slot_list_insert ⟨_, e, rfl⟩ F.entry_list_insert (F.args_list_insert_3 _ _ _) (AutoListH.list_insert_list_int_val_1 l its.toArray n ki t u' (by rw [hb]; exact Bool.false_ne_true) hz1) ⟨e, ?_⟩
 refine ⟨.non, _, I.lset (its' := its.take k ++ u' :: its.drop k) hH e ?_ ((r.take k).append (.cons ru' (r.drop k))) ?_, rfl, q⟩
 ·show (its.toArray.extract 0 (if ki < 0 then (ki + ((its.toArray.size : Nat) : Int)).toNat else min ki.toNat its.toArray.size)).push u' ++ its.toArray.extract (if ki < 0 then (ki + ((its.toArray.size : Nat) : Int)).toNat else min ki.toNat its.toArray.size) = _
  rw [e1]
  apply Array.ext'
  simp
  exact List.take_of_length_le (by rw [List.length_drop]; omega)
 ·simp only [List.length_append, List.length_take, List.length_cons, List.length_drop]
  omega
end
end L2
end
section
namespace L2
open PySem PySem.Spec PyProof.Rows
def z4r : List Expr → Option (List V)
 | [] => some []
 | .Constant (.int i) _ _ :: es => (z4r es).map (.int i :: ·)
 | .Constant (.str x) _ _ :: es => (z4r es).map (.str x :: ·)
 | _ => none
def tVs (vs : List V) : TA := fun _ H Q => Q vs H
theorem stCc {c : Const} {k : Nat} {p : Pos} {es : List Expr} {env : Env} : starEach (.Constant c k p :: es) env = (false, eval (.Constant c k p) env) :: starEach es env := rfl
theorem z6b {X : Cx} : ∀ {es : List Expr} {vs : List V}, z4r es = some vs → PA X es (tVs vs)
 | [], vs, h => by
  cases h
  exact z5
 | .Constant (.int i) k p :: es, vs, h => by
  unfold z4r at h
  obtain ⟨js, hj, rfl⟩ := Option.map_eq_some_iff.mp h
  exact z0 (te := tC (.int i)) (t := tVs js) z6 (z6b hj) stCc
 | .Constant (.str i) k p :: es, vs, h => by
  unfold z4r at h
  obtain ⟨js, hj, rfl⟩ := Option.map_eq_some_iff.mp h
  exact z0 (te := tC (.str i)) (t := tVs js) z1d (z6b hj) stCc
def zb2 : Expr → Option (List V)
 | .List es _ => z4r es
 | _ => none
theorem zcv {X : Cx} {e : Expr} {vs : List V} (h : zb2 e = some vs) : PE X e (tLst (tVs vs)) := by
 unfold zb2 at h
 split at h
 ·exact z19 (z6b h)
 ·cases h
end L2
end
section
namespace PySem
theorem z3i : entryFor table "dict.update.loop" = some Builtin.«dict.update.loop» := entryFor_of_tree (by kernel_rfl)
theorem z23 : plainId "dict.update.loop" = true := by decide +kernel
theorem z9r {K : Type} [DecidableEq K] (kvs : List (K × Value)) (k : K) (v : Value) : (stored kvs k v).length ≤ kvs.length + 1 := by
 unfold stored
 split
 ·simp
 ·simp
theorem z5y {K : Type} [DecidableEq K] : ∀ (more kvs : List (K × Value)), (merged kvs more).length ≤ kvs.length + more.length
 | [], kvs => Nat.le_refl _
 | a :: more, kvs => by
  show (merged (stored kvs a.1 a.2) more).length ≤ _
  have h1 := z5y more (stored kvs a.1 a.2)
  have h2 := z9r kvs a.1 a.2
  simp only [List.length_cons]
  omega
section
open L2
variable {prog : Program} {w : World} {A : Around} {R : Result → Shared → Prop} {I l d : Addr} {h0 : Heap}
theorem z4v (hh : A.in1.handled = none) (hlI : l ≠ I) (hdI : d ≠ I) (hdl : d ≠ l) (items : Array Value) (ps : List (Key × Value)) (hn : ps.length = items.size) (hsz : ps.length ≤ sizeLine)
  (T : ∀ (j : Nat) (kv : Key × Value) (v : Value), items[j]? = some v → ps[j]? = some kv → ∃ (a : Addr) (o : Obj) (e : Nat) (key : Value), v = .ref a ∧ a ≠ I ∧ a ≠ d ∧ h0.get? a = some o ∧ o.cls = .type "tuple" ∧ o.data = .seq #[key, kv.2] e ∧ (z1i prog w).is kv.1 key = true) :
  ∀ (k j : Nat) (s : Shared) (i : Int), items.size - j = k → j ≤ items.size → s.heap.IsListIter I l j ∧ s.heap.IsList l items → s.heap.DictOf (z1i prog w) d (merged [] (ps.take j)) →
  (∀ b o, h0.get? b = some o → b ≠ I → b ≠ d → s.heap.get? b = some o) →
  (∀ h' tk, h'.DictOf (z1i prog w) d (merged [] ps) → (∀ b o, h0.get? b = some o → b ≠ I → b ≠ d → h'.get? b = some o) → R (.ok (.ret .none)) { s with heap := h', toks := tk }) →
  codeAny (model prog w) A (.builtin "dict.update.loop" ⟨[.ref d, .ref I, .int i 0, .none], []⟩) R s := by
 have W := Walks.list (prog := prog) (w := w) (A := A.in1) hh I l hlI items
 intro k
 induction k with
 | zero =>
  intro j s i hk hj hst hD hK hR
  have hin : j = items.size := by omega
  refine codeAny_builtin z3i ?_
  rw [Around.under_plainId z23 _]
  show wpAny _ A.in1 (pyNext (.ref I) >>= _) _ _ s
  refine wpAny_bind (W.done s _ _ (hin ▸ hst) fun h' tk hk' => ?_)
  have hDI : ∀ b ∉ [I], b ≠ I := fun b hb z => hb (by rw [z]; exact List.mem_singleton.mpr rfl)
  have e : ps.take j = ps := List.take_of_length_le (by omega)
  rw [e] at hD
  show wpAny _ _ (Builtin.Dict.addKeywords d [] >>= _) _ _ _
  refine wpAny_bind (wpAny_pure (wpAny_pure (hR h' tk ?_ fun b o hb n1 n2 => hk' b o (fun z => n1 (by simpa using z)) (hK b o hb n1 n2))))
  obtain ⟨od, es, ep, ho, r⟩ := hD
  exact ⟨od, es, ep, hk' d od (fun z => hdI (by simpa using z)) ho, r⟩
 | succ k ih =>
  intro j s i hk hj hst hD hK hR
  have hlt : j < items.size := by omega
  refine codeAny_builtin z3i ?_
  rw [Around.under_plainId z23 _]
  show wpAny _ A.in1 (pyNext (.ref I) >>= _) _ _ s
  refine wpAny_bind (W.item j s _ _ hlt hst fun v h' tk hP hst' hk' => ?_)
  have hP : items[j]? = some v := hP
  have hpj : ps[j]? = some (ps[j]'(by omega)) := List.getElem?_eq_getElem (by omega)
  obtain ⟨a, o, e, key, rfl, na, nd, ho, hc, hdt, hkey⟩ := T j _ v hP hpj
  have ho' := hk' a o (fun z => na (by simpa using z)) (hK a o ho na nd)
  show wpAny _ _ (holding [Value.ref a] _ >>= _) _ _ _
  have hT : ({ s with heap := h', toks := tk } : Shared).TypeIs (.ref a) "tuple" := ⟨_, ho', hc⟩
  refine wpAny_bind (wpAny_holding (wpAny_bind (wpAny_tryCatch ?_)))
  unfold Builtin.Dict.pairItems
  refine wpAny_bind (wpAny_typeOf hT ?_)
  simp only [show (Value.type "tuple" == Value.type "list" || Value.type "tuple" == Value.type "tuple") = true from by decide, if_true]
  refine wpAny_bind (wpAny_seqItems ho' hdt (wpAny_pure ?_))
  show wpAny _ _ (holding [key, (ps[j]'(by omega)).2] (dictSet d key (ps[j]'(by omega)).2)) _ _ _
  have hD' : h'.DictOf (z1i prog w) d (merged [] (ps.take j)) := by
   obtain ⟨od, es, ep, ho, r⟩ := hD
   exact ⟨od, es, ep, hk' d od (fun z => hdI (by simpa using z)) ho, r⟩
  refine wpAny_holding (wpAny_dictSet_pairs hkey hD' (fun h2 hD2 hs2 => ?_) ?_)
  ·refine wpAny_pure ⟨plainId_quiet z23 _, ih (j + 1) _ _ (by omega) hlt (W.frame _ _ _ hst' fun b hb o2 e2 => ?_) ?_ (fun b o2 hb n1 n2 => ?_) fun h3 tk3 hD3 hK3 => ?_⟩
   ·have nb : b ≠ d := by
     rcases List.mem_cons.mp hb with z | z
     ·rw [z]; exact hdI.symm
     ·have : b = l := by simpa using z
      rw [this]; exact hdl.symm
    exact (hs2.2 b nb).trans e2
   ·rw [merged_take_succ _ _ _ _ hpj]
    exact hD2
   ·exact (hs2.2 b n2).trans (hk' b o2 (fun z => n1 (by simpa using z)) (hK b o2 hb n1 n2))
   ·exact hR h3 tk3 hD3 hK3
  ·refine Nat.le_trans (z5y _ _) ?_
   rw [List.length_take]
   simp only [List.length_nil]
   omega
end
end PySem
namespace L2
open PySem PySem.Spec PyProof.Rows
section
variable {X : Cx}
theorem z6p {pins : List (Addr × Obj)} {σ : St} {H : Hp} {s : Shared} (I : Inv X pins σ H s) : ∀ L : List (Addr × Key × V), (∀ q ∈ L, H q.1 = some (.tup [kV q.2.1, q.2.2])) →
  ∃ ps : List (Key × Value), KV (L.map (·.2)) ps ∧ ps.length = L.length ∧ ∀ (j : Nat) q kv, L[j]? = some q → ps[j]? = some kv → ∃ (o : Obj) (e : Nat) (key : Value), s.heap.get? q.1 = some o ∧ o.cls = .type "tuple" ∧ o.data = .seq #[key, kv.2] e ∧ (z1i X.prog X.w).is kv.1 key = true
 | [], _ => ⟨[], .nil, rfl, fun j q kv e => by simp at e⟩
 | q :: L, h => by
  obtain ⟨ps, k1, k2, k3⟩ := z6p I L fun x hx => h x (List.mem_cons_of_mem _ hx)
  obtain ⟨its, r, ⟨o, ho, hc, n, hd⟩, _⟩ := I.tuple (SqT.of (h q (List.mem_cons_self ..)))
  cases r with
  | @cons a b as bs h1 t1 =>
   cases t1 with
   | @cons a' b' as' bs' h2 t2 =>
    cases t2
    refine ⟨(q.2.1, b') :: ps, .cons ⟨rfl, h2⟩ k1, by simp [k2], fun j x kv e1 e2 => ?_⟩
    cases j with
    | zero =>
     simp at e1 e2
     subst e1 e2
     exact ⟨o, n, b, ho, hc, hd, zdq h1⟩
    | succ j => exact k3 j x kv (by simpa using e1) (by simpa using e2)
theorem z5z (hc : X.calm = true) : CallR X (.type "dict") (fun xs H Q => ∃ p L, xs = [.ref p] ∧ SqL X.K H p ((L : List (Addr × Key × V)).map fun q => V.ref q.1) ∧ (∀ q ∈ L, H q.1 = some (.tup [kV q.2.1, q.2.2])) ∧ ∀ d, H d = none → Q (.ref d) (upd H d (.dK (z2s [] (L.map (·.2)))))) := by
 intro pins s σ H xs us Q I r h
 obtain ⟨p, L, rfl, hp, hL, q⟩ := h
 obtain ⟨u, rfl, ru⟩ := z3e r
 cases ru
 obtain ⟨its, r1, ⟨ol, n, hol, hcl, hdl, hsl⟩, hz⟩ := I.list hp
 obtain ⟨ps, k1, k2, k3⟩ := z6p I L hL
 have hl := r1.length
 rw [List.length_map] at hl hz
 have hlt : p < s.heap.objs.size := Heap.lt_size hol
 refine callType_codes (Q₁ := fun obj s₁ => obj = .ref s.heap.objs.size ∧ s₁ = { s with heap := s.heap.push { cls := .type "dict", data := .dict #[] } }) F.kt_called_dict (F.kt_typeCall_dict_1 _) F.entry_dict_init (kt_code_dict_new _ ⟨rfl, rfl⟩) ?_
 rintro obj s₁ ⟨rfl, rfl⟩
 have hnew : (s.heap.push { cls := .type "dict", data := .dict #[] }).DictOf (z1i X.prog X.w) s.heap.objs.size [] := Heap.DictOf.new s.heap
 have hol1 := Heap.get?_push_of_some (h := s.heap) { cls := .type "dict", data := .dict #[] } hol
 refine ⟨hnew.typeIs, F.args_dict_init_2 _ _, ?_⟩
 unfold Builtin.«dict.__init__»
 refine wpAny_bind ?_
 unfold Builtin.Dict.selfAndRest
 refine wpAny_bind (wpAny_notOrdered_dict hnew.typeIs ?_)
 show wpAny _ _ (pure (s.heap.objs.size, [Value.ref p])) _ _ _
 refine wpAny_pure ?_
 show wpAny _ _ (Builtin.Dict.updateFrom "dict.__init__" s.heap.objs.size (.ref p) [] .none) _ _ _
 unfold Builtin.Dict.updateFrom
 refine wpAny_bind (wpAny_typeOf (show Shared.TypeIs _ (.ref p) "list" from ⟨_, hol1, hcl⟩) ?_)
 rw [if_pos (by decide)]
 refine wpAny_bind (z4d hol1 hcl hsl hdl z7r (by decide +kernel) (by exact I.ok.hd hc) (fun h2 tk2 e2 hx2 => ?_) (by decide +kernel))
 have hol2 := hx2.keeps _ _ hol1
 have hpl2 : PlainL h2 p its.toArray := ⟨ol, n, hol2, hcl, hdl, hsl⟩
 show wpAny _ _ (pyIter (.ref p) >>= _) _ _ _
 refine wpAny_bind (wpAny_pyIter_list (s := { s with heap := h2, toks := tk2 }) hpl2.isList ?_)
 have hlt2 : s.heap.objs.size < h2.objs.size := by
  obtain ⟨od, es, ep, ho, _⟩ := hnew
  exact Heap.lt_size (hx2.keeps _ _ ho)
 refine wpAny_pure ⟨plainId_quiet z23 _, ?_⟩
 have hnew3 : (h2.push { cls := .type "list_iterator", data := .fields #[.ref p, .int 0 0] }).DictOf (z1i X.prog X.w) s.heap.objs.size (merged [] (ps.take 0)) := by
  obtain ⟨od, es, ep, ho, r⟩ := hnew
  exact ⟨od, es, ep, Heap.get?_push_of_some _ (hx2.keeps _ _ ho), r⟩
 have hps : p ≠ h2.objs.size := Nat.ne_of_lt (Heap.lt_size hol2)
 refine z4v (I := h2.objs.size) (l := p) (d := s.heap.objs.size) (h0 := s.heap) (by exact I.ok.hd hc) hps (Nat.ne_of_lt hlt2) (Nat.ne_of_gt hlt) its.toArray ps (by rw [k2, hl, List.size_toArray]) (by rw [k2]; exact hz) ?_ _ 0 _ 0 rfl (Nat.zero_le _)
  ⟨⟨_, Heap.get?_push_size _ rfl, rfl, rfl⟩, ⟨ol, Heap.get?_push_of_some _ hol2, hcl, n, hsl⟩⟩ hnew3 (fun b o e n1 n2 => Heap.get?_push_of_some _ (hx2.keeps _ _ (Heap.get?_push_of_some _ e))) fun h3 tk3 hD3 hK3 => ?_
 ·intro j kv v e1 e2
  have e0 : its[j]? = some v := by simpa using e1
  have hj : j < its.length := (List.getElem?_eq_some_iff.mp e0).1
  have g1 : L[j]? = some (L[j]'(by omega)) := List.getElem?_eq_getElem (by omega)
  have g2 : (L.map fun q => V.ref q.1)[j]? = some (V.ref (L[j]'(by omega)).1) := by rw [List.getElem?_map, g1]; rfl
  obtain ⟨w', q1, q2⟩ := r1.get g2
  rw [e0] at q1
  cases q1
  cases q2
  obtain ⟨o, e, key, ho, hc', hd', hi⟩ := k3 j _ kv g1 e2
  have hb := Heap.lt_size ho
  exact ⟨_, o, e, key, rfl, Nat.ne_of_lt (Nat.lt_trans hb hlt2), Nat.ne_of_lt hb, ho, hc', hd', hi⟩
 ·refine ⟨rfl, ?_⟩
  have kk : KV (z2s [] (L.map (·.2))) (merged [] ps) := KV.merge k1 .nil
  have zz : (z2s [] (L.map (·.2))).length ≤ sizeLine := Nat.le_trans (z45 _ _) (by simpa using hz)
  refine ⟨.ref _, _, I.laid (a := s.heap.objs.size) (o := .dK (z2s [] (L.map (·.2)))) (t' := tk3) (fun b o hb => ?_) (Nat.le_refl _) (zdg zz (beq_eq_false_iff_ne.mpr (Ne.symm (Nat.ne_of_lt I.big))) kk hD3), rfl, q _ I.fresh⟩
  have hb' := Heap.lt_size hb
  exact hK3 b o hb (Nat.ne_of_lt (Nat.lt_trans hb' hlt2)) (Nat.ne_of_lt hb')
end
end L2
end
section
namespace L2
open PySem PySem.Spec PyProof.Rows
section
variable {X : Cx}
theorem z37 : CallR X (.builtin "len") (fun xs H Q => ∃ a D, xs = [.ref a] ∧ H a = some (tso X.prog X.w a D) ∧ Q (.int (D.length : Nat)) H) := by
 intro pins s σ H xs us Q I r h
 obtain ⟨a, D, rfl, ha, q⟩ := h
 obtain ⟨u, rfl, ru⟩ := z3e r
 cases ru
 obtain ⟨T, -, -⟩ := (show ObjOk X.prog X.w H s.heap a (tso X.prog X.w a D) from I.hok a _ ha)
 obtain ⟨o, es, ep, t, ho, hx, hd, he, hm, hb, hf, hn, hl, hp⟩ := T
 refine PySem.call_len_set ho hx hd hf (by have : scanBound = 4096 := rfl; omega) ⟨.int (D.length : Nat), H, (I.tok _).tok _, ⟨_, by rw [hn]⟩, q⟩
end
def KHasX (P : Program) (w : World) (K : PySem.W.Frag) (mg : Str → Option Value) (base : Heap) (CX : CXT) (k : Nat) (C : Addr) (ps : List Str) (sp : Sp) : Prop :=
 ∃ f fd, FnOk P w K mg base CX k f fd ps sp ∧ Mk K C f ∧ Binds K fd ps []
theorem KDef.okx {P : Program} {w : World} {K : PySem.W.Frag} {mg : Str → Option Value} {base : Heap} {C : Addr} {qual : Str} {st : Stmt} {N ps : List Str} {k : Nat} {sp : Sp} (D : KDef K C qual st ps) (S : FnScope N ps (ze st)) (len : ∀ vs H Q E, sp vs H Q E → vs.length = ps.length)
  (hbody : ∀ (f : Addr) (cdv : Value) (A : Around) (outer : List Env) (s : Shared) (H : Hp) (vs : List V) (Q : VK) (E : XK), Room k (A.deeper (envOfC qual (ze st) s.heap.objs.size f cdv)) → sp vs H Q E →
   ∃ t, PSs (cxOf (CX1 P w) P w K mg base N qual (ze st) f cdv A outer s H E) (z1n st) t ∧ t { nx := fun _ H' => Q .non H', rt := Q } (start N vs) H) : KHasX P w K mg base (CX1 P w) (k + 1) C ps sp := by
 obtain ⟨f, fd, F, hm, hb⟩ := D
 exact ⟨f, fd, F.okx S len (fun cdv A outer s H vs Q E hr h => hbody f cdv A outer s H vs Q E hr h), hm, hb⟩
def zb3 (C : Addr) (sp : Sp) (t : TA) : TEX := fun σ H Q Ex => t σ H fun vs H1 => ∀ x dx, H1 x = none → H1 dx = none → dx ≠ x → sp (.ref x :: vs) (upd (upd H1 dx (.own x)) x (.ins C dx [])) (fun v H2 => v = .non ∧ Q (.ref x) H2) Ex
theorem zcw {X : Cx} {k : Nat} {C : Addr} {x : Str} {ps : List Str} {sp : Sp} {p pos : Pos} {e : Expr} {es : List Expr} {t : TA} (G : KHasX X.prog X.w X.K X.mg X.base (CX1 X.prog X.w) k C ps sp) (hr : Room (k + 1) X.A) (hg : Gl X x) (hm : X.mg x = some (.ref C)) (ha : PA X.nox (e :: es) t) (hx : X.ex = [] := by rfl) (hdb : (x == ("__debug__" : Str)) = false := by decide)
  (he : starEach (e :: es) X.env = (false, eval e X.env) :: starEach es X.env := by rfl) (hpl : (backTo pos (starEach es X.env)).any (·.1) = false := by rfl) : PEX X (.Call (.Name x p) (e :: es) [] pos) (zb3 C sp t) := by
 obtain ⟨f, fd, F, M, hb⟩ := G
 intro pins s σ H Q Ex I h
 refine wpAny_Call_Name_kw (z2m I hg hm ?_ hdb)
 refine PySem.W.callWith_K (h₀ := X.base) I.ok.mod.kin M.kp (wpAny_mono (ha pos pins s σ H _ (I.wish _) h) (fun us s1 hq2 => ?_) fun _ _ z => z.elim) he hpl
 obtain ⟨vs, H1, I1, r, q⟩ := hq2
 have I1 := I1.unwish
 refine ⟨I1.kIn, ?_⟩
 have hq := q (s1.heap.objs.size + 1) s1.heap.objs.size (I1.hok.fresh (Nat.le_succ _)) (I1.hok.fresh (Nat.le_refl _)) (Nat.ne_of_lt (Nat.lt_succ_self _))
 have I2 := Inv.made (C := C) I1
 have r2 : Vals (V.ref (s1.heap.objs.size + 1) :: vs) (Value.ref (s1.heap.objs.size + 1) :: us) := .cons rfl r
 have hl : (Value.ref (s1.heap.objs.size + 1) :: us ++ []).length = ps.length := by
  rw [List.append_nil, ← r2.length]
  exact F.len _ _ _ _ hq
 have hB := hb _ (Value.ref (s1.heap.objs.size + 1) :: us) I2.kIn hl
 rw [List.append_nil] at hB
 refine wpAny_call (z7i (f := f) I1.kIn M.makes M.init (beq_iff_eq.mp M.fn) (codeAny_mono (F.run _ X.stack _ _ ⟨Value.ref (s1.heap.objs.size + 1) :: us, []⟩ (Value.ref (s1.heap.objs.size + 1) :: us) _ _ Ex (hr.make C us [])
  (I2.env0.make C us []) hB r2 hq) fun r s' hq' => ?_))
 cases r with
 | error e => exact zdd hx I2 hq'
 | ok fl =>
  cases fl with
  | ret u =>
   obtain ⟨v, H', I3, rv, ev, q3⟩ := I2.after hq'
   subst ev
   exact ⟨rv, ⟨V.ref (s1.heap.objs.size + 1), H', I3, rfl, q3⟩⟩
  | next => exact False.elim hq'
  | brk => exact False.elim hq'
  | cont => exact False.elim hq'
theorem KHasX.never {P : Program} {w : World} {K : PySem.W.Frag} {mg : Str → Option Value} {base : Heap} {k : Nat} {C : Addr} {ps : List Str} {sp : Sp} (G : KHasX P w K mg base (CX1 P w) k C ps sp) : KHas P w K mg base k C ps (fun vs H Q _ => sp vs H Q E0) := by
 obtain ⟨f, fd, F, hm, hb⟩ := G
 refine ⟨f, fd, ⟨fun vs H Q E h => F.len vs H Q E0 h, fun A outer s H args us vs Q E hr he hb hv hs => codeAny_mono (F.run A outer s H args us vs Q E0 hr he hb hv hs) fun r s' h => ?_⟩, hm, hb⟩
 cases r with
 | error e =>
  obtain ⟨_, _, _, _, _, _, _, _, _, _, _, _, _, z⟩ := h
  exact z
 | ok fl => cases fl <;> exact h
theorem z3y {X : Cx} {K : PySem.W.Frag} (h : X.K = K := by rfl) : CallR X (.type "list") (fun xs H Q => ∃ p ys, xs = [.ref p] ∧ (SqL K H p ys ∨ SqT K H p ys) ∧ ∀ l, H l = none → Q (.ref l) (upd H l (.lst ys))) := h ▸ z24
end L2
end
namespace Fg
open PySem L2
local macro_rules | `(tactic| walk_at "rd") => `(tactic| simp only [cxOf, L2.start, tSeq, zbx, tAsg, tBM, z79, gSub, tRet, tIfS, zby, tOp, tUn, tSl, zc5, z8r, tCB, zc3, tNil, tTup, tLst, tVar, tC, zc2, tB, tAnd, tOr, tNot, zbw, za6, z9f, tFld, sFld, z9g, z5n, zaq, tTry, hAs, clsV, zas, zav, zbi, zak, zal, zbz, iStr, zan, tVs, zb3, tYes, capt, rI, rI0, rU, rEq, rNe, tyV, scal,
 Option.join_some, List.map_cons, List.map_nil, List.cons_append, List.nil_append, List.append_nil, List.replicate, List.length_cons, List.length_nil, Nat.reduceAdd, Nat.reduceSub, List.getElem?_cons_zero, List.getElem?_cons_succ, List.set_cons_zero, List.set_cons_succ,
 Option.some.injEq, V.str.injEq, V.int.injEq, V.bl.injEq, V.ref.injEq, V.ty.injEq, List.cons.injEq, exists_eq_left', exists_eq_left, exists_and_left, and_true, true_and, reduceCtorEq, if_true, if_false])
def top (i : Nat) : Stmt := PySem.Challenge.pw_fencegate_k21_setup.main.body.getD i (.Pass ⟨0, 0, 0, 0⟩)
abbrev z3k : Stmt := top 21
abbrev z3l : Stmt := top 22
abbrev z29 : Stmt := z3v (top 27) 0
abbrev z25 : Stmt := z3v (top 29) 0
abbrev z2d : Stmt := z3v (top 31) 0
abbrev z38 : Stmt := top 42
abbrev z39 : Stmt := top 43
abbrev z2e : Stmt := z3v (top 45) 0
abbrev z3m : Stmt := z3v (top 45) 36
abbrev z4h : Stmt := top 47
abbrev z1p : Stmt := top 48
abbrev z3n : Stmt := top 49
abbrev z3a : Stmt := top 50
abbrev z3b : Stmt := top 51
abbrev z3o : Stmt := top 52
abbrev z3c : Stmt := top 53
abbrev z3p : Stmt := top 54
abbrev z2l : Stmt := top 55
abbrev z4i : Stmt := top 56
abbrev z3d : Stmt := top 57
abbrev z3q : Stmt := top 58
abbrev z4s : Stmt := top 59
structure Txt (K : PySem.W.Frag) (mg : Str → Option Value) (C_BadSetup C_Council C_GateError C_Keeper C_Store C_World : Addr) (t_MOST_HOLDERS t_MOST_KEEPERS t_MOST_LOCKS t_MOST_NAMES t_MOST_SIGNS t_MOST_STORES t_NAME_SIGNS : Tok) : Prop where
 z : True
 b_ValueError : mg "ValueError" = none
 b_all : mg "all" = none
 b_bool : mg "bool" = none
 b_dict : mg "dict" = none
 b_int : mg "int" = none
 b_isinstance : mg "isinstance" = none
 b_len : mg "len" = none
 b_list : mg "list" = none
 b_min : mg "min" = none
 b_range : mg "range" = none
 b_set : mg "set" = none
 b_sorted : mg "sorted" = none
 b_str : mg "str" = none
 b_tuple : mg "tuple" = none
 c_MOST_HOLDERS : mg "MOST_HOLDERS" = some (.int 8 t_MOST_HOLDERS)
 c_MOST_KEEPERS : mg "MOST_KEEPERS" = some (.int 5 t_MOST_KEEPERS)
 c_MOST_LOCKS : mg "MOST_LOCKS" = some (.int 10 t_MOST_LOCKS)
 c_MOST_NAMES : mg "MOST_NAMES" = some (.int 4 t_MOST_NAMES)
 c_MOST_SIGNS : mg "MOST_SIGNS" = some (.int 8 t_MOST_SIGNS)
 c_MOST_STORES : mg "MOST_STORES" = some (.int 4 t_MOST_STORES)
 c_NAME_SIGNS : mg "NAME_SIGNS" = some (.str "abcdefghijklmnopqrstuvwxyz0123456789" t_NAME_SIGNS)
 g_BadSetup : mg "BadSetup" = some (.ref C_BadSetup)
 g_Council : mg "Council" = some (.ref C_Council)
 g_GateError : mg "GateError" = some (.ref C_GateError)
 g_Keeper : mg "Keeper" = some (.ref C_Keeper)
 g_Store : mg "Store" = some (.ref C_Store)
 g_World : mg "World" = some (.ref C_World)
 pg_Council : PySem.W.plainGet K C_Council Str.empty = true
 hd_Council : PySem.W.hasDictIn K C_Council = true
 po_Council : PySem.W.plainOver K C_Council = true
 sa_Council : PySem.W.findIn K (.ref C_Council) "__setattr__" = some (some (.builtin "object.__setattr__"))
 n_Council_keepers : NoAttr K C_Council "keepers"
 n_Council_most : NoAttr K C_Council "most"
 pg_Keeper : PySem.W.plainGet K C_Keeper Str.empty = true
 hd_Keeper : PySem.W.hasDictIn K C_Keeper = true
 po_Keeper : PySem.W.plainOver K C_Keeper = true
 sa_Keeper : PySem.W.findIn K (.ref C_Keeper) "__setattr__" = some (some (.builtin "object.__setattr__"))
 n_Keeper_up : NoAttr K C_Keeper "up"
 n_Keeper_top : NoAttr K C_Keeper "top"
 n_Keeper_kept : NoAttr K C_Keeper "kept"
 pg_Store : PySem.W.plainGet K C_Store Str.empty = true
 hd_Store : PySem.W.hasDictIn K C_Store = true
 po_Store : PySem.W.plainOver K C_Store = true
 sa_Store : PySem.W.findIn K (.ref C_Store) "__setattr__" = some (some (.builtin "object.__setattr__"))
 n_Store_top : NoAttr K C_Store "top"
 n_Store_kept : NoAttr K C_Store "kept"
 pg_World : PySem.W.plainGet K C_World Str.empty = true
 hd_World : PySem.W.hasDictIn K C_World = true
 po_World : PySem.W.plainOver K C_World = true
 sa_World : PySem.W.findIn K (.ref C_World) "__setattr__" = some (some (.builtin "object.__setattr__"))
 n_World_now : NoAttr K C_World "now"
 n_World_council : NoAttr K C_World "council"
 n_World_holders : NoAttr K C_World "holders"
 n_World_locks : NoAttr K C_World "locks"
 n_World_shareable : NoAttr K C_World "shareable"
 n_World_stores : NoAttr K C_World "stores"
 n_World_carries : NoAttr K C_World "carries"
 n_World_waiting : NoAttr K C_World "waiting"
 n_World_asleep_since : NoAttr K C_World "asleep_since"
 n_World_pauses : NoAttr K C_World "pauses"
 n_World_logged : NoAttr K C_World "logged"
 n_World_ends : NoAttr K C_World "ends"
 x_BadSetup : PySem.W.excIn K C_BadSetup [.type "ValueError", .type "Exception", .type "BaseException", .type "object"] "ValueError.__new__" = true
 x_GateError : PySem.W.excIn K C_GateError [.type "ValueError", .type "Exception", .type "BaseException", .type "object"] "ValueError.__new__" = true
 sb_BadSetup_GateError : PySem.W.subIn K (.ref C_BadSetup) (.ref C_GateError) = some true
 ec_BadSetup : PySem.W.ErrCls K C_BadSetup
 ko_BadSetup_BadSetup : PySem.W.kitOne K (.ref C_BadSetup) (.ref C_BadSetup) = some true
 ko_BadSetup_ValueError : PySem.W.kitOne K (.ref C_BadSetup) (.type "ValueError") = some true
theorem Txt.cl_Council {K : PySem.W.Frag} {mg : Str → Option Value} {C_BadSetup C_Council C_GateError C_Keeper C_Store C_World : Addr} {t_MOST_HOLDERS t_MOST_KEEPERS t_MOST_LOCKS t_MOST_NAMES t_MOST_SIGNS t_MOST_STORES t_NAME_SIGNS : Tok} (T : Txt K mg C_BadSetup C_Council C_GateError C_Keeper C_Store C_World t_MOST_HOLDERS t_MOST_KEEPERS t_MOST_LOCKS t_MOST_NAMES t_MOST_SIGNS t_MOST_STORES t_NAME_SIGNS) : Cls K C_Council := ⟨T.pg_Council, T.hd_Council, T.po_Council, T.sa_Council⟩
theorem Txt.cl_Keeper {K : PySem.W.Frag} {mg : Str → Option Value} {C_BadSetup C_Council C_GateError C_Keeper C_Store C_World : Addr} {t_MOST_HOLDERS t_MOST_KEEPERS t_MOST_LOCKS t_MOST_NAMES t_MOST_SIGNS t_MOST_STORES t_NAME_SIGNS : Tok} (T : Txt K mg C_BadSetup C_Council C_GateError C_Keeper C_Store C_World t_MOST_HOLDERS t_MOST_KEEPERS t_MOST_LOCKS t_MOST_NAMES t_MOST_SIGNS t_MOST_STORES t_NAME_SIGNS) : Cls K C_Keeper := ⟨T.pg_Keeper, T.hd_Keeper, T.po_Keeper, T.sa_Keeper⟩
theorem Txt.cl_Store {K : PySem.W.Frag} {mg : Str → Option Value} {C_BadSetup C_Council C_GateError C_Keeper C_Store C_World : Addr} {t_MOST_HOLDERS t_MOST_KEEPERS t_MOST_LOCKS t_MOST_NAMES t_MOST_SIGNS t_MOST_STORES t_NAME_SIGNS : Tok} (T : Txt K mg C_BadSetup C_Council C_GateError C_Keeper C_Store C_World t_MOST_HOLDERS t_MOST_KEEPERS t_MOST_LOCKS t_MOST_NAMES t_MOST_SIGNS t_MOST_STORES t_NAME_SIGNS) : Cls K C_Store := ⟨T.pg_Store, T.hd_Store, T.po_Store, T.sa_Store⟩
theorem Txt.cl_World {K : PySem.W.Frag} {mg : Str → Option Value} {C_BadSetup C_Council C_GateError C_Keeper C_Store C_World : Addr} {t_MOST_HOLDERS t_MOST_KEEPERS t_MOST_LOCKS t_MOST_NAMES t_MOST_SIGNS t_MOST_STORES t_NAME_SIGNS : Tok} (T : Txt K mg C_BadSetup C_Council C_GateError C_Keeper C_Store C_World t_MOST_HOLDERS t_MOST_KEEPERS t_MOST_LOCKS t_MOST_NAMES t_MOST_SIGNS t_MOST_STORES t_NAME_SIGNS) : Cls K C_World := ⟨T.pg_World, T.hd_World, T.po_World, T.sa_World⟩
theorem z7x : FnScope ["text"] ["text"] (ze z3k) := ⟨rfl, rfl, rfl, by decide +kernel, rfl, by decide +kernel, by decide +kernel⟩
theorem sc_good_path : FnScope ["text", "names"] ["text"] (ze z3l) := ⟨rfl, rfl, rfl, by decide +kernel, rfl, by decide +kernel, by decide +kernel⟩
theorem z4j : FnScope ["self"] ["self"] (ze z29) := ⟨rfl, rfl, rfl, by decide +kernel, rfl, by decide +kernel, by decide +kernel⟩
theorem z46 : FnScope ["self", "many"] ["self", "many"] (ze z25) := ⟨rfl, rfl, rfl, by decide +kernel, rfl, by decide +kernel, by decide +kernel⟩
theorem z4w : FnScope ["self"] ["self"] (ze z2d) := ⟨rfl, rfl, rfl, by decide +kernel, rfl, by decide +kernel, by decide +kernel⟩
theorem z6y : FnScope ["texts", "least", "most"] ["texts", "least", "most"] (ze z38) := ⟨rfl, rfl, rfl, by decide +kernel, rfl, by decide +kernel, by decide +kernel⟩
theorem z6z : FnScope ["keepers", "holders", "locks", "shared", "stores"] ["keepers", "holders", "locks", "shared", "stores"] (ze z39) := ⟨rfl, rfl, rfl, by decide +kernel, rfl, by decide +kernel, by decide +kernel⟩
theorem z4x : FnScope ["self", "keepers", "holders", "locks", "shared", "stores"] ["self", "keepers", "holders", "locks", "shared", "stores"] (ze z2e) := ⟨rfl, rfl, rfl, by decide +kernel, rfl, by decide +kernel, by decide +kernel⟩
theorem z7y : FnScope ["self"] ["self"] (ze z3m) := ⟨rfl, rfl, rfl, by decide +kernel, rfl, by decide +kernel, by decide +kernel⟩
theorem z9s : FnScope ["_law_script", "_law_k"] ["_law_script", "_law_k"] (ze z4h) := ⟨rfl, rfl, rfl, by decide +kernel, rfl, by decide +kernel, by decide +kernel⟩
theorem z4k : FnScope ["_law_found", "_law_due"] ["_law_found", "_law_due"] (ze z1p) := ⟨rfl, rfl, rfl, by decide +kernel, rfl, by decide +kernel, by decide +kernel⟩
theorem sc__law_name : FnScope ["_law_cell", "_law_k", "_law_signs", "_law_rest", "_law_many", "_law_spot", "_law_made_here", "_law_j", "_law_place"] ["_law_cell", "_law_k"] (ze z3n) := ⟨rfl, rfl, rfl, by decide +kernel, rfl, by decide +kernel, by decide +kernel⟩
theorem z70 : FnScope ["_law_cell", "_law_many"] ["_law_cell", "_law_many"] (ze z3a) := ⟨rfl, rfl, rfl, by decide +kernel, rfl, by decide +kernel, by decide +kernel⟩
theorem sc__law_locks : FnScope ["_law_cell", "_law_words", "_law_many", "_law_made_here", "_law_rest", "_law_k", "_law_parent", "_law_path"] ["_law_cell", "_law_words", "_law_many"] (ze z3b) := ⟨rfl, rfl, rfl, by decide +kernel, rfl, by decide +kernel, by decide +kernel⟩
theorem sc__law_some : FnScope ["_law_cell", "_law_names_here", "_law_found", "_law_rest", "_law_name_here"] ["_law_cell", "_law_names_here"] (ze z3o) := ⟨rfl, rfl, rfl, by decide +kernel, rfl, by decide +kernel, by decide +kernel⟩
theorem sc__law_setup : FnScope ["_law_script", "_law_keepers", "_law_holders", "_law_locks_here", "_law_sharing", "_law_stores"] ["_law_script"] (ze z3c) := ⟨rfl, rfl, rfl, by decide +kernel, rfl, by decide +kernel, by decide +kernel⟩
theorem sc__law_good : FnScope ["_law_text", "_law_sign"] ["_law_text"] (ze z3p) := ⟨rfl, rfl, rfl, by decide +kernel, rfl, by decide +kernel, by decide +kernel⟩
theorem z5h : FnScope ["_law_names_here", "_law_least", "_law_most"] ["_law_names_here", "_law_least", "_law_most"] (ze z2l) := ⟨rfl, rfl, rfl, by decide +kernel, rfl, by decide +kernel, by decide +kernel⟩
theorem sc__law_ok : FnScope ["_law_keepers", "_law_lists", "_law_path", "_law_parts"] ["_law_keepers", "_law_lists"] (ze z4i) := ⟨rfl, rfl, rfl, by decide +kernel, rfl, by decide +kernel, by decide +kernel⟩
theorem sc__law_spoil : FnScope ["_law_lists", "_law_way", "_law_cell", "_law_which", "_law_rest", "_law_row", "_law_more", "_law_bad"] ["_law_lists", "_law_way", "_law_cell"] (ze z3d) := ⟨rfl, rfl, rfl, by decide +kernel, rfl, by decide +kernel, by decide +kernel⟩
theorem sc__law_made : FnScope ["_law_keepers", "_law_lists", "_law_world", "e"] ["_law_keepers", "_law_lists"] (ze z3q) := ⟨rfl, rfl, rfl, by decide +kernel, rfl, by decide +kernel, by decide +kernel⟩
theorem sc_law : FnScope ["_law_script", "_law_setup_here", "_law_keepers", "_law_lists", "_law_way", "_law_handed", "_law_found"] ["_law_script"] (ze z4s) := ⟨rfl, rfl, rfl, by decide +kernel, rfl, by decide +kernel, by decide +kernel⟩
variable {C_BadSetup C_Council C_GateError C_Keeper C_Store C_World : Addr}
variable {t_MOST_HOLDERS t_MOST_KEEPERS t_MOST_LOCKS t_MOST_NAMES t_MOST_SIGNS t_MOST_STORES t_NAME_SIGNS : Tok}
def sp (a : Str) : List Str := Txt.split a "/"
section
variable {P : Program} {w : World} {K : PySem.W.Frag} {mg : Str → Option Value} {base : Heap}
def spAt (K : PySem.W.Frag) : Sp := fun vs H Q _ => ∃ (p : Addr) (ns : List Int) (k : Nat), vs = [.ref p, .int k] ∧ SqL K H p (ns.map V.int) ∧ ns.length ≤ 1000 ∧ Q (.int (ns.getD k 0)) H
theorem z9t (F : Def K mg "_law_at" z4h ["_law_script", "_law_k"]) (T : Txt K mg C_BadSetup C_Council C_GateError C_Keeper C_Store C_World t_MOST_HOLDERS t_MOST_KEEPERS t_MOST_LOCKS t_MOST_NAMES t_MOST_SIGNS t_MOST_STORES t_NAME_SIGNS) : Has P w K mg base 1 "_law_at" ["_law_script", "_law_k"] (spAt K) := by
 refine F.ok z9s (fun vs H Q E h => ?_) (fun f cdv A outer s H vs Q E hr h => ?_)
 ·obtain ⟨p, ns, k, rfl, _⟩ := h
  rfl
 ·obtain ⟨p, ns, k, rfl, hp, hl, q⟩ := h
  refine ⟨_, (@z9 _ _ _ _ _ (@zr _ _ _ _ _ _ _ _ (@zh _ _ _ _ _ _ _ _ z22 (pv 1) (@z8 _ _ _ _ _ _ _ _ _ zg rfl T.b_len (by decide +kernel) (@z0 _ _ _ _ _ (pv 0) z5 rfl) (by decide) (by decide) rfl rfl) (zf _)) (@za _ _ _ (@zk _ _ _ _ (@zp _ _ _ _ _ _ _ ix_list (pv 0) (pv 1) (fun _ _ => rfl)))) zl) (@za _ _ _ (@zk _ _ _ _ z6))), ?_⟩
  walk_at "rd"
  refine ⟨_, .inl hp, ?_⟩
  rw [List.length_map]
  by_cases hk : k < ns.length
  ·rw [if_pos (by simpa using hk)]
   refine ⟨p, _, _, _, rfl, rfl, hp, zb (v := .int (ns.getD k 0)) ?_, q⟩
   rw [List.getElem?_map, List.getD_eq_getElem?_getD, List.getElem?_eq_getElem hk]
   rfl
  ·rw [if_neg (by simpa using hk)]
   have e : ns.getD k 0 = 0 := by rw [List.getD_eq_getElem?_getD, List.getElem?_eq_none (by omega)]; rfl
   rw [← e]
   exact q
def abc : Str := "abcdefghijklmnopqrstuvwxyz0123456789"
theorem zcx : ∀ n, n < 36 → ∃ c, abc.cps.toList[n]? = some c := by
 intro n hn
 have l : abc.cps.toList.length = 36 := by decide +kernel
 exact ⟨_, List.getElem?_eq_getElem (by omega)⟩
theorem zdi (j : Int) (h0 : 0 ≤ j) (h1 : j < 36) : ∃ c, atI abc.cps.toList j = some c := by
 obtain ⟨n, rfl⟩ := Int.eq_ofNat_of_zero_le h0
 obtain ⟨c, hc⟩ := zcx n (by omega)
 exact ⟨c, zb hc⟩
theorem zb4 {d : Nat} {n : Nat} (h : n ≤ 100) : MulOk ⟨#[d]⟩ (n : Int) := by
 have f : ∀ m : _root_.Fin 101, (decide ((m.val : Int) < 1) || (decide (¬ ((1 : Int) > (2 ^ 63 - 1) / (m.val : Int))) && (Builtin.Str.tooLong (1 * m.val) == false))) = true := by decide +kernel
 have g := f ⟨n, by omega⟩
 dsimp only at g
 rw [Bool.or_eq_true, Bool.and_eq_true] at g
 have l : (⟨#[d]⟩ : Str).length = 1 := rfl
 refine ⟨?_, fun h1 _ => ?_, fun h1 _ => ?_⟩
 ·rw [Bool.or_eq_false_iff]
  exact ⟨decide_eq_false (by omega), decide_eq_false (by omega)⟩
 ·rcases g with g | g
  ·exact absurd (of_decide_eq_true g) h1
  ·rw [l]
   exact of_decide_eq_true g.1
 ·rcases g with g | g
  ·exact absurd (of_decide_eq_true g) h1
  ·rw [l, Int.toNat_natCast]
   exact eq_of_beq g.2
theorem z7z (d : Nat) : ∀ (m : Nat) (acc : Array Nat), ((List.replicate m #[d]).foldl (· ++ ·) acc).size = acc.size + m
 | 0, acc => rfl
 | m + 1, acc => by
  rw [List.replicate_succ, List.foldl_cons, z7z d m, Array.size_append]
  show acc.size + 1 + m = _
  omega
theorem z6c (d n : Nat) : (Txt.mul ⟨#[d]⟩ (n : Int)).length = n := by
 unfold Txt.mul
 by_cases h1 : (n : Int) < 1
 ·rw [if_pos h1]
  have : n = 0 := by omega
  subst this
  rfl
 ·rw [if_neg h1]
  by_cases h2 : n = 1
  ·subst h2
   rfl
  ·rw [if_neg (by simp; exact ⟨by omega, by show ¬ (1 = 0); decide⟩)]
   show ((List.replicate (n : Int).toNat #[d]).foldl (· ++ ·) #[]).size = n
   rw [z7z, Int.toNat_natCast]
   show 0 + n = n
   omega
def z1j (c : Nat) : Bool := decide (c ∈ abc.cps.toList)
def zm (z : Str) : Bool := decide (1 ≤ z.length) && decide (z.length ≤ 8) && z.cps.toList.all z1j
theorem z60 (a c : Nat) : (!decide ([c] < [a])) = decide (a ≤ c) := by
 rw [PySem.StrLaws.lt_cons_cons, PySem.StrLaws.lt_nil_nil, Bool.and_false, Bool.or_false]
 by_cases h : c < a
 ·rw [decide_eq_true h, decide_eq_false (by omega)]; rfl
 ·rw [decide_eq_false h, decide_eq_true (by omega)]; rfl
theorem z8m (c : Nat) : z1j c = ((decide (97 ≤ c) && decide (c ≤ 122)) || (decide (48 ≤ c) && decide (c ≤ 57))) := by
 have e : abc.cps.toList = (List.range 26).map (fun i => 97 + i) ++ (List.range 10).map (fun i => 48 + i) := by decide +kernel
 unfold z1j
 rw [e, Bool.eq_iff_iff]
 simp only [decide_eq_true_eq, List.mem_append, List.mem_map, List.mem_range, Bool.or_eq_true, Bool.and_eq_true]
 constructor
 ·rintro (⟨i, hi, rfl⟩ | ⟨i, hi, rfl⟩)
  ·left; omega
  ·right; omega
 ·rintro (⟨h1, h2⟩ | ⟨h1, h2⟩)
  ·left; exact ⟨c - 97, by omega, by omega⟩
  ·right; exact ⟨c - 48, by omega, by omega⟩
def z80 : Sp := fun vs H Q _ => ∃ z : Str, vs = [.str z] ∧ z.length ≤ 1000 ∧ z42 H Q (.bl (zm z))
theorem z81 (F : Def K mg "good_name" z3k ["text"]) (T : Txt K mg C_BadSetup C_Council C_GateError C_Keeper C_Store C_World t_MOST_HOLDERS t_MOST_KEEPERS t_MOST_LOCKS t_MOST_NAMES t_MOST_SIGNS t_MOST_STORES t_NAME_SIGNS) : Has P w K mg base 1 "good_name" ["text"] (z80) := by
  refine F.ok z7x (fun vs H Q E h => ?_) (fun f cdv A outer s H vs Q E hr h => ?_)
  · obtain ⟨z, rfl, _⟩ := h
    rfl
  · obtain ⟨z, rfl, hz, k⟩ := h
    refine ⟨_, (@za _ _ _ (@zk _ _ _ _ (@z1r _ _ _ _ _ _ _ (@z5a _ _ _ _ _ _ _ _ _ _ _ _ z3z z3z z6 (@z8 _ _ _ _ _ _ _ _ _ z32 rfl T.b_len (by decide +kernel) (@z0 _ _ _ _ _ (pv 0) z5 rfl) (by decide) (by decide) rfl rfl) (@z26 _ _ (.int 8) _ _ rfl T.c_MOST_SIGNS ⟨_, rfl⟩ (by decide)) (by with_unfolding_all rfl)) (@z1q _ _ _ _ _ (@z8 _ _ _ _ _ _ _ _ _ (z10 rfl) rfl T.b_all (by decide +kernel) (@z0 _ _ _ _ _ (@z1a _ _ "sign" ([]) ([]) _ _ _ _ _ _ _ _ rfl ⟨rfl, by decide +kernel, by decide +kernel, rfl, zv rfl, by decide +kernel, trivial⟩ (@zai _ _ _ _ (pv 0)) (fun _ _ _ _ => z14) (fun _ _ _ _ => (@z1f _ _ _ _ _ _ _ _ za5 (pv 0) (@z26 _ _ (.str "abcdefghijklmnopqrstuvwxyz0123456789") _ _ rfl T.c_NAME_SIGNS ⟨_, rfl⟩ (by decide)) (by with_unfolding_all rfl))) (by intro _; rfl)) z5 rfl) (by decide) (by decide) rfl rfl))))), ?_⟩
    walk_at "rd"
    refine ⟨zj (by omega), ?_⟩
    refine ite2 (fun h1 => ?_) (fun h1 => ?_)
    · have h1 : 1 ≤ z.length := by have : (1 : Int) ≤ z.length := by simpa using h1
                                   omega
      refine ite2 (fun h8 => ?_) (fun h8 => ?_)
      · have h8 : z.length ≤ 8 := by have : (z.length : Int) ≤ 8 := by simpa using h8
                                     omega
        refine z9m (zj (by show z.length ≤ _; omega)) (fun i acc H' => acc = ((z.cps.toList.take i).map z1j).map V.bl ∧ H' = H) ⟨rfl, rfl⟩ (fun i acc H' ⟨e, _⟩ => by rw [e, List.length_map, List.length_map, List.length_take]; omega) ?_ ?_
        · rintro Nt i acc H' c hN hc hi ⟨rfl, rfl⟩
          walk_at "rd"
          refine hN _ _ ⟨?_, rfl⟩
          have e := PySem.StrLaws.found_one abc c
          have e' : (!(Builtin.Str.occurrences abc ⟨#[c]⟩ 0 abc.length 1).isEmpty) = z1j c := e
          show _ ++ [V.bl (!(Builtin.Str.occurrences abc ⟨#[c]⟩ 0 abc.length 1).isEmpty)] = _
          rw [e', List.take_succ, show z.cps.toList[i]? = some c by simpa using hc]
          simp
        · rintro acc H' ⟨rfl, rfl⟩ p hp
          refine ⟨p, rfl, z.cps.toList.map z1j, SqL.of ?_, ?_⟩
          · rw [z7, List.take_of_length_le (by simp)]
          · have e : (List.map z1j z.cps.toList).all id = zm z := by
              unfold zm
              rw [decide_eq_true h1, decide_eq_true h8, List.all_map]
              rfl
            rw [e]
            exact k _ (Same.upd hp)
      · have h8 : ¬ z.length ≤ 8 := by have : ¬ (z.length : Int) ≤ 8 := by simpa using h8
                                       omega
        have e : zm z = false := by unfold zm; rw [decide_eq_false h8, Bool.and_false, Bool.false_and]
        rw [← e]
        exact k _ (Same.refl _)
    · have h1 : ¬ 1 ≤ z.length := by have : ¬ (1 : Int) ≤ z.length := by simpa using h1
                                     omega
      have e : zm z = false := by unfold zm; rw [decide_eq_false h1, Bool.false_and, Bool.false_and]
      rw [← e]
      exact k _ (Same.refl _)
def z6d : Sp := fun vs H Q _ => ∃ z : Str, vs = [.str z] ∧ z.length ≤ 1000 ∧ Q (.bl (zm z)) H
theorem z82 (F : Def K mg "_law_good" z3p ["_law_text"]) (T : Txt K mg C_BadSetup C_Council C_GateError C_Keeper C_Store C_World t_MOST_HOLDERS t_MOST_KEEPERS t_MOST_LOCKS t_MOST_NAMES t_MOST_SIGNS t_MOST_STORES t_NAME_SIGNS) : Has P w K mg base 1 "_law_good" ["_law_text"] (z6d) := by
  refine F.ok sc__law_good (fun vs H Q E h => ?_) (fun f cdv A outer s H vs Q E hr h => ?_)
  · obtain ⟨z, rfl, _⟩ := h
    rfl
  · obtain ⟨z, rfl, hz, k⟩ := h
    refine ⟨_, (@z9 _ _ _ _ _ (@zr _ _ _ _ _ _ _ _ (PW.pt (@z2h _ _ _ _ _ _ _ (@zh _ _ _ _ _ _ _ _ z22 (@z8 _ _ _ _ _ _ _ _ _ z32 rfl T.b_len (by decide +kernel) (@z0 _ _ _ _ _ (pv 0) z5 rfl) (by decide) (by decide) rfl rfl) z6 (zf _)) (@z2g _ _ _ _ (@zh _ _ _ _ _ _ _ _ z5m (@z8 _ _ _ _ _ _ _ _ _ z32 rfl T.b_len (by decide +kernel) (@z0 _ _ _ _ _ (pv 0) z5 rfl) (by decide) (by decide) rfl rfl) z6 (zf _))))) (@za _ _ _ (@zk _ _ _ _ z1k)) zl) (@z9 _ _ _ _ _ (@z49 _ _ _ _ _ _ _ _ PassesOwn.never rfl (@zai _ _ _ _ (pv 0)) (@z3r _ _ 1 _ sc__law_good.nd rfl (Or.inl rfl) (Or.inr rfl)) (@za _ _ _ (@zr _ _ _ _ _ _ _ _ (PW.pt (@z5k _ _ _ _ _ _ _ (@z2y _ _ _ _ (PW.pt (@z5k _ _ _ _ _ _ _ (@zh _ _ _ _ _ _ _ _ z3g z1d (pv 1) (zf _)) (@z4o _ _ _ _ (@zh _ _ _ _ _ _ _ _ z3g (pv 1) z1d (zf _)))))) (@z4o _ _ _ _ (@z2y _ _ _ _ (PW.pt (@z5k _ _ _ _ _ _ _ (@zh _ _ _ _ _ _ _ _ z3g z1d (pv 1) (zf _)) (@z4o _ _ _ _ (@zh _ _ _ _ _ _ _ _ z3g (pv 1) z1d (zf _))))))))) (@za _ _ _ (@zk _ _ _ _ z1k)) zl)) (by intro _; rfl)) (@za _ _ _ (@zk _ _ _ _ z1k)))), ?_⟩
    walk_at "rd"
    refine ⟨zj (by omega), ?_⟩
    refine ite2 (fun h1 => ?_) (fun h1 => ?_)
    · have h1 : ¬ 1 ≤ z.length := by have : (z.length : Int) < 1 := by simpa using h1
                                     omega
      have e : zm z = false := by unfold zm; rw [decide_eq_false h1, Bool.false_and, Bool.false_and]
      rw [e] at k
      exact k
    · have h1 : 1 ≤ z.length := by have : ¬ (z.length : Int) < 1 := by simpa using h1
                                   omega
      refine ⟨zj (by omega), ?_⟩
      refine ite2 (fun h8 => ?_) (fun h8 => ?_)
      · have h8 : ¬ z.length ≤ 8 := by have : (8 : Int) < z.length := by simpa using h8
                                       omega
        have e : zm z = false := by unfold zm; rw [decide_eq_false h8, Bool.and_false, Bool.false_and]
        rw [e] at k
        exact k
      · have h8 : z.length ≤ 8 := by have : ¬ (8 : Int) < z.length := by simpa using h8
                                     omega
        refine zam (fun i σ H' => H' = H ∧ (∃ v : Option V, σ = [some (.str z), v]) ∧ (z.cps.toList.take i).all z1j = true) ⟨rfl, ⟨_, rfl⟩, rfl⟩ ?_ ?_
        · rintro Pv hP i c σ H' hc ⟨rfl, ⟨v, rfl⟩, ha⟩
          walk_at "rd"
          have q1 : (!decide ((⟨#[c]⟩ : Str).cps.toList < ("a" : Str).cps.toList)) = decide (97 ≤ c) := z60 97 c
          have q2 : (!decide (("z" : Str).cps.toList < (⟨#[c]⟩ : Str).cps.toList)) = decide (c ≤ 122) := z60 c 122
          have q3 : (!decide ((⟨#[c]⟩ : Str).cps.toList < ("0" : Str).cps.toList)) = decide (48 ≤ c) := z60 48 c
          have q4 : (!decide (("9" : Str).cps.toList < (⟨#[c]⟩ : Str).cps.toList)) = decide (c ≤ 57) := z60 c 57
          rw [q1, q2, q3, q4]
          have g := z8m c
          have yes : z1j c = true → Pv (i + 1) [some (V.str z), some (V.str ⟨#[c]⟩)] H' := fun y => hP _ _ _ ⟨rfl, ⟨_, rfl⟩, by
            rw [List.take_succ, show z.cps.toList[i]? = some c by simpa using hc, List.all_append, ha]
            simp [y]⟩
          have no : z1j c = false → Q (V.bl false) H' := fun y => by
            have e : zm z = false := by
              have hm : c ∈ z.cps.toList := List.mem_of_getElem? (show z.cps.toList[i]? = some c by simpa using hc)
              have : z.cps.toList.all z1j = false := by
                rw [Bool.eq_false_iff]
                intro w
                have := List.all_eq_true.mp w c hm
                rw [y] at this
                cases this
              unfold zm
              rw [this, Bool.and_false]
            rw [e] at k
            exact k
          cases b1 : decide (97 ≤ c) <;> cases b2 : decide (c ≤ 122) <;> cases b3 : decide (48 ≤ c) <;> cases b4 : decide (c ≤ 57) <;> rw [b1, b2, b3, b4] at g <;> simp only [Bool.not_true, Bool.not_false, Bool.false_eq_true, if_false, if_true] <;> first | exact yes g | exact no g
        · rintro σ H' ⟨rfl, ⟨v, rfl⟩, ha⟩
          walk_at "rd"
          have e : zm z = true := by
            unfold zm
            rw [List.take_of_length_le (by simp)] at ha
            rw [decide_eq_true h1, decide_eq_true h8, ha]
            rfl
          rw [e] at k
          exact k
theorem z61 (y : Str) : ∀ (x : Str) (ns : List Str), (Str.join y (x :: ns)).length + y.length = ((x :: ns).map (·.length)).sum + (ns.length + 1) * y.length
 | x, [] => by
  show x.length + y.length = x.length + 0 + (0 + 1) * y.length
  omega
 | x, x2 :: r => by
  have ih := z61 y x2 r
  show (x ++ y ++ Str.join y (x2 :: r)).length + y.length = _
  rw [PySem.Str.length_append, PySem.Str.length_append, List.map_cons, List.sum_cons]
  show _ = _ + ((r.length + 1) + 1) * y.length
  rw [Nat.add_mul (r.length + 1) 1, Nat.one_mul]
  omega
theorem z4l (z : Str) : ((sp z).map (·.length)).sum + (sp z).length ≤ z.length + 1 := by
 have h := PySem.StrLaws.join_split z "/"
 have l : ("/" : Str).length = 1 := rfl
 unfold sp
 cases e : Txt.split z "/" with
 | nil => simp
 | cons x r =>
  have q := z61 "/" x r
  rw [e] at h
  rw [h, l, Nat.mul_one] at q
  show _ + (r.length + 1) ≤ _
  omega
def z17 (z : Str) : Bool := decide ((sp z).length ≤ 4) && (sp z).all zm
theorem zb5 (z : Str) : (sp z).length ≤ z.length + 1 := by
 have := z4l z
 omega
theorem zb6 : ∀ {l : List Nat} {x : Nat}, x ∈ l → x ≤ l.sum
 | [], _, h => by cases h
 | a :: l, x, h => by
  rw [List.sum_cons]
  rcases List.mem_cons.mp h with rfl | h
  ·omega
  ·have := zb6 h
   omega
theorem z91 (z : Str) : ∀ p ∈ sp z, p.length ≤ z.length := by
 intro p hp
 have h := z4l z
 have h1 : p.length ≤ ((sp z).map (·.length)).sum := zb6 (List.mem_map.mpr ⟨p, hp, rfl⟩)
 have h2 : 1 ≤ (sp z).length := List.length_pos_of_mem hp
 omega
def z62 : Sp := fun vs H Q _ => ∃ z : Str, vs = [.str z] ∧ z.length ≤ 1000 ∧ z42 H Q (.bl (z17 z))
theorem z83 (F : Def K mg "good_path" z3l ["text"]) (T : Txt K mg C_BadSetup C_Council C_GateError C_Keeper C_Store C_World t_MOST_HOLDERS t_MOST_KEEPERS t_MOST_LOCKS t_MOST_NAMES t_MOST_SIGNS t_MOST_STORES t_NAME_SIGNS) (G_good_name : Has P w K mg base 1 "good_name" ["text"] (z80)) : Has P w K mg base 2 "good_path" ["text"] (z62) := by
 refine F.ok sc_good_path (fun vs H Q E h => ?_) (fun f cdv A outer s H vs Q E hr h => ?_)
 ·obtain ⟨z, rfl, _⟩ := h
  rfl
 ·obtain ⟨z, rfl, hz, k⟩ := h
  refine ⟨_, (@z9 _ _ _ _ _ (@zo _ _ 1 _ _ _ _ sc_good_path.nd rfl (Or.inl rfl) (@z40 _ _ _ _ _ _ _ _ _ _ _ _ PySem.F.plainAttrs_str PySem.F.slot_str_split PySem.F.type_str_split z7n (pv 0) (@z0 _ _ _ _ _ z1d z5 rfl) rfl rfl rfl rfl rfl) rfl (Or.inr rfl)) (@za _ _ _ (@zk _ _ _ _ (@z1r _ _ _ _ _ _ _ (@z1f _ _ _ _ _ _ _ _ z3z (@z8 _ _ _ _ _ _ _ _ _ zg rfl T.b_len (by decide +kernel) (@z0 _ _ _ _ _ (pv 1) z5 rfl) (by decide) (by decide) rfl rfl) (@z26 _ _ (.int 4) _ _ rfl T.c_MOST_NAMES ⟨_, rfl⟩ (by decide)) (zf _)) (@z1q _ _ _ _ _ (@z8 _ _ _ _ _ _ _ _ _ (z10 rfl) rfl T.b_all (by decide +kernel) (@z0 _ _ _ _ _ (@z1a _ _ "name" ([]) ([]) _ _ _ _ _ _ _ _ rfl ⟨rfl, by decide +kernel, by decide +kernel, rfl, zv rfl, by decide +kernel, trivial⟩ (@z1m _ _ _ _ (pv 1)) (fun _ _ _ _ => z14) (fun _ _ _ _ => (@zu _ _ _ _ _ _ _ _ _ _ G_good_name (hr.mono (by decide)) rfl (@z0 _ _ _ _ _ (pv 0) z5 rfl) (by decide) rfl rfl)) (by intro _; rfl)) z5 rfl) (by decide) (by decide) rfl rfl)))))), ?_⟩
  walk_at "rd"
  refine z8t rfl (by omega) fun p hp => ⟨p, rfl, _, .inl (SqL.of z7), ?_⟩
  rw [List.length_map]
  have l1 := zb5 z
  refine ite2 (fun h4 => ?_) (fun h4 => ?_)
  ·have h4 : (sp z).length ≤ 4 := by
    have : ((Txt.split z "/").length : Int) ≤ 4 := by simpa using h4
    show (Txt.split z "/").length ≤ 4
    omega
   refine ⟨p, rfl, ⟨_, SqL.of z7⟩, ?_⟩
   refine z2a (xs := (sp z).map V.str) (by rw [List.length_map]; exact zj (by omega)) (fun i acc H' => acc = (((sp z).take i).map zm).map V.bl ∧ Same H H' ∧ H' p = some (.lst ((sp z).map V.str))) ⟨rfl, Same.upd hp, z7⟩ (fun i acc H' ⟨e, _⟩ => by rw [e, List.length_map, List.length_map, List.length_take]; omega) (fun i acc H' ⟨_, _, h⟩ => SqL.of h) ?_ ?_
   ·rintro Nt i acc H' x hN hx hi ⟨rfl, sm, hp'⟩
    rw [List.getElem?_map] at hx
    cases e : (sp z)[i]? with
    | none => rw [e] at hx; cases hx
    | some y =>
     rw [e] at hx
     obtain rfl : V.str y = x := Option.some.inj hx
     walk_at "rd"
     have hy := z91 z y (List.mem_of_getElem? e)
     refine ⟨y, rfl, by omega, fun H2 s2 => hN _ _ ⟨?_, sm.trans s2, s2 _ _ hp'⟩⟩
     rw [List.take_succ, e]
     simp
   ·rintro acc H' ⟨rfl, sm, hp'⟩ q hq
    refine ⟨q, rfl, (sp z).map zm, SqL.of ?_, ?_⟩
    ·rw [z7, List.length_map, List.take_of_length_le (Nat.le_refl _)]
    ·have e : ((sp z).map zm).all id = z17 z := by
      unfold z17
      rw [decide_eq_true h4, List.all_map]
      rfl
     rw [e]
     exact k _ (sm.trans (Same.upd hq))
  ·have h4 : ¬ (sp z).length ≤ 4 := by
    have : ¬ ((Txt.split z "/").length : Int) ≤ 4 := by simpa using h4
    show ¬ (Txt.split z "/").length ≤ 4
    omega
   have e : z17 z = false := by unfold z17; rw [decide_eq_false h4, Bool.false_and]
   rw [← e]
   exact k _ (Same.upd hp)
structure Nt where
 n : Int
 h : Str
 l : Str
 sh : Bool
 e : Int
deriving DecidableEq
def Nt.vals (x : Nt) : List V := [.int x.n, .str x.h, .str x.l, .bl x.sh, .int x.e]
abbrev NL := List (Addr × Nt)
def refs (L : NL) : List V := L.map fun q => V.ref q.1
structure NotesAt (H : Hp) (L : NL) : Prop where
 tu : ∀ q ∈ L, H q.1 = some (.tup q.2.vals)
 sm : ∀ q ∈ L, q.2.h.length ≤ 1000 ∧ q.2.l.length ≤ 1000
theorem NotesAt.mono {H H' : Hp} {L : NL} (h : NotesAt H L) (s : Same H H') : NotesAt H' L := ⟨fun q hq => s _ _ (h.tu q hq), h.sm⟩
theorem NotesAt.sub {H : Hp} {L L' : NL} (h : NotesAt H L) (s : ∀ q ∈ L', q ∈ L) : NotesAt H L' := ⟨fun q hq => h.tu q (s q hq), fun q hq => h.sm q (s q hq)⟩
theorem n1 : ¬ (("up" : Str) = "top") := by decide +kernel
theorem n2 : ¬ (("up" : Str) = "kept") := by decide +kernel
theorem n3 : ¬ (("top" : Str) = "kept") := by decide +kernel
def kf (u : Bool) (t : Int) (l : Addr) : List (Str × V) := [("up", .bl u), ("top", .int t), ("kept", .ref l)]
theorem zdt (u : Bool) (t : Int) (l : Addr) : putF "kept" (.ref l) (putF "top" (.int t) (putF "up" (.bl u) [])) = kf u t l := by
 simp [putF, kf, n1, n2, n3]
structure KeeperAt (C : Addr) (H : Hp) (k : Addr) (u : Bool) (t : Int) (L : NL) : Prop where
 ob : ∃ dx l, H k = some (.ins C dx (kf u t l)) ∧ H l = some (.lst (refs L))
 nt : NotesAt H L
 len : L.length ≤ 1000
theorem KeeperAt.mono {C : Addr} {H H' : Hp} {k : Addr} {u : Bool} {t : Int} {L : NL} (h : KeeperAt C H k u t L) (s : Same H H') : KeeperAt C H' k u t L := by
 obtain ⟨⟨dx, l, h1, h2⟩, h3, h4⟩ := h
 exact ⟨⟨dx, l, s _ _ h1, s _ _ h2⟩, h3.mono s, h4⟩
def But (k : Addr) (H H' : Hp) : Prop := ∀ b o, H b = some o → b ≠ k → H' b = some o
theorem But.of {k : Addr} {H H' : Hp} (s : Same H H') : But k H H' := fun b o e _ => s b o e
def zb7 (C : Addr) : Sp := fun vs H Q _ => ∃ (k dx : Addr), vs = [.ref k] ∧ H k = some (.ins C dx []) ∧ ∀ (H' : Hp), KeeperAt C H' k true 0 [] → (∃ dx l, H' k = some (.ins C dx (kf true 0 l)) ∧ H l = none) → But k H H' → Q .non H'
theorem z4m (F : KDef K C_Keeper "Keeper.__init__" z29 ["self"]) (T : Txt K mg C_BadSetup C_Council C_GateError C_Keeper C_Store C_World t_MOST_HOLDERS t_MOST_KEEPERS t_MOST_LOCKS t_MOST_NAMES t_MOST_SIGNS t_MOST_STORES t_NAME_SIGNS) : KHas P w K mg base 1 C_Keeper ["self"] (zb7 C_Keeper) := by
 refine F.ok z4j (fun vs H Q E h => ?_) (fun f cdv A outer s H vs Q E hr h => ?_)
 ·obtain ⟨k, dx, rfl, _⟩ := h
  rfl
 ·obtain ⟨k, dx, rfl, hk, q⟩ := h
  refine ⟨_, (@z9 _ _ _ _ _ (@z18 _ _ _ _ _ _ _ _ (pv 0) z1k rfl) (@z9 _ _ _ _ _ (@z18 _ _ _ _ _ _ _ _ (pv 0) z6 rfl) (@za _ _ _ (@z18 _ _ _ _ _ _ _ _ (pv 0) (@z19 _ _ _ _ z5) rfl)))), ?_⟩
  walk_at "rd"
  refine ⟨_, _, _, hk, T.cl_Keeper, T.n_Keeper_up, by decide, _, _, _, z7, T.cl_Keeper, T.n_Keeper_top, by show (1 : Nat) < 1000; decide, Nat.zero_le _, fun p hp => ?_⟩
  have nkp : k ≠ p := zi z7 hp
  refine ⟨_, _, _, by rw [zc nkp, z7], T.cl_Keeper, T.n_Keeper_kept, by simp [putF, n1], ?_⟩
  rw [zdt]
  refine q _ ⟨⟨dx, p, z7, by rw [zc nkp.symm, z7]; rfl⟩, ⟨by simp, by simp⟩, by simp⟩ ⟨dx, p, z7, ?_⟩ fun b o e nb => ?_
  ·rw [zc nkp.symm, zc nkp.symm] at hp
   exact hp
  have nbp : b ≠ p := fun z => by
   subst z
   rw [zc nb, zc nb, e] at hp
   cases hp
  rw [zc nb, zc nbp, zc nb, zc nb]
  exact e
theorem z92 (y : Str) (zs : List Str) : inV (.str y) (zs.map V.str) = decide (y ∈ zs) := by
 induction zs with
 | nil => rfl
 | cons a zs ih =>
  show (eqV (.str a) (.str y) || inV (.str y) (zs.map V.str)) = _
  rw [ih]
  show ((a == y) || decide (y ∈ zs)) = _
  by_cases h : a = y
  ·subst h; simp
  ·have h' : ¬ y = a := fun z => h z.symm
   simp [h, h']
def spCI (CC : Addr) : Sp := fun vs H Q _ => ∃ (c dx : Addr) (n : Nat), vs = [.ref c, .int n] ∧ n ≤ 100 ∧ H c = some (.ins CC dx []) ∧ ∀ (H' : Hp), (∃ fs, H' c = some (.ins CC dx fs)) → (∀ b o, H b = some o → b ≠ c → H' b = some o) → Q .non H'
theorem z47 (F : KDef K C_Council "Council.__init__" z25 ["self", "many"]) (T : Txt K mg C_BadSetup C_Council C_GateError C_Keeper C_Store C_World t_MOST_HOLDERS t_MOST_KEEPERS t_MOST_LOCKS t_MOST_NAMES t_MOST_SIGNS t_MOST_STORES t_NAME_SIGNS) (G_Keeper___init__ : KHas P w K mg base 1 C_Keeper ["self"] (zb7 C_Keeper)) : KHas P w K mg base 3 C_Council ["self", "many"] (spCI C_Council) := by
 refine F.ok z46 (fun vs H Q E h => ?_) (fun f cdv A outer s H vs Q E hr h => ?_)
 ·obtain ⟨c, dx, n, rfl, _⟩ := h
  rfl
 ·obtain ⟨c, dx, n, rfl, hn, hc, q⟩ := h
  refine ⟨_, (@z9 _ _ _ _ _ (@z18 _ _ _ _ _ _ _ _ (pv 0) (@z1a _ _ "place" ([]) ([]) _ _ _ _ _ _ _ _ rfl ⟨rfl, by decide +kernel, by decide +kernel, rfl, zv rfl, by decide +kernel, trivial⟩ (@z1u _ _ _ _ _ _ rfl T.b_range (@z0 _ _ _ _ _ (pv 1) z5 rfl) rfl) (fun _ _ _ _ => z14) (fun _ _ _ _ => (@z8w _ _ _ _ _ _ _ _ G_Keeper___init__ (hr.mono (by decide)) rfl T.g_Keeper (by decide))) (by intro _; rfl)) rfl) (@za _ _ _ (@z18 _ _ _ _ _ _ _ _ (pv 0) (@zd _ _ _ _ _ _ _ _ z1b (@zd _ _ _ _ _ _ _ _ z13 (@z8 _ _ _ _ _ _ _ _ _ zg rfl T.b_len (by decide +kernel) (@z0 _ _ _ _ _ (@z7j _ _ _ _ _ (pv 0) rfl) z5 rfl) (by decide) (by decide) rfl rfl) z6) z6) rfl))), ?_⟩
  walk_at "rd"
  refine ⟨⟨by omega, by omega⟩, ?_⟩
  rw [Int.toNat_natCast]
  refine z1t (zj (by omega)) (fun i acc H' => acc.length = i ∧ Same H H') ⟨rfl, Same.refl _⟩ ?_ ?_ ?_
  ·rintro i acc H' ⟨rfl, -⟩
   exact Nat.le_refl _
  ·rintro Nn i acc H' hN hi ⟨hl, sH⟩
   walk_at "rd"
   intro x d hx hd hne
   refine ⟨x, d, rfl, z7, fun H3 hk3 hz3 hb3 => ⟨rfl, hN _ _ ⟨by simp [hl], sH.trans fun b o e => ?_⟩⟩⟩
   have n1 : b ≠ x := zi e hx
   have n2 : b ≠ d := zi e hd
   exact hb3 b o (by rw [zc n1, zc n2]; exact e) n1
  ·rintro acc H' ⟨hl, sH⟩ p hp
   have u := Same.upd (o := .lst acc) hp
   have gp : upd H' p (.lst acc) p = some (.lst acc) := z7
   have sp := sH.trans u
   generalize upd H' p (.lst acc) = H1 at u gp sp ⊢
   have ncp : p ≠ c := fun z => by
    have := sp _ _ hc
    rw [← z, gp] at this
    cases this
   refine ⟨_, _, _, sp _ _ hc, T.cl_Council, T.n_Council_keepers, by decide, _, _, _, z7, T.cl_Council, T.n_Council_keepers, _, rfl, _, rfl, acc, .inl (SqL.of (by rw [zc ncp]; exact gp)), cdiv (by decide) (by decide), _, _, _, z7, T.cl_Council, T.n_Council_most, by show (1 : Nat) < 1000; decide, ?_⟩
   refine q _ ⟨_, z7⟩ fun b o e nb => ?_
   rw [zc nb, zc nb]
   exact sp _ _ e
def spSI (C : Addr) : Sp := fun vs H Q _ => ∃ (k dx : Addr), vs = [.ref k] ∧ H k = some (.ins C dx []) ∧ ∀ (H' : Hp), (∃ l, H' k = some (.ins C dx [("top", .int 0), ("kept", .ref l)]) ∧ H' l = some (.lst []) ∧ H l = none) → (∀ b o, H b = some o → b ≠ k → H' b = some o) → Q .non H'
theorem z4y (F : KDef K C_Store "Store.__init__" z2d ["self"]) (T : Txt K mg C_BadSetup C_Council C_GateError C_Keeper C_Store C_World t_MOST_HOLDERS t_MOST_KEEPERS t_MOST_LOCKS t_MOST_NAMES t_MOST_SIGNS t_MOST_STORES t_NAME_SIGNS) : KHas P w K mg base 1 C_Store ["self"] (spSI C_Store) := by
 refine F.ok z4w (fun vs H Q E h => ?_) (fun f cdv A outer s H vs Q E hr h => ?_)
 ·obtain ⟨k, dx, rfl, _⟩ := h
  rfl
 ·obtain ⟨k, dx, rfl, hk, q⟩ := h
  refine ⟨_, (@z9 _ _ _ _ _ (@z18 _ _ _ _ _ _ _ _ (pv 0) z6 rfl) (@za _ _ _ (@z18 _ _ _ _ _ _ _ _ (pv 0) (@z19 _ _ _ _ z5) rfl))), ?_⟩
  walk_at "rd"
  refine ⟨_, _, _, hk, T.cl_Store, T.n_Store_top, by decide, Nat.zero_le _, fun p hp => ?_⟩
  have nkp : k ≠ p := zi z7 hp
  refine ⟨_, _, _, by rw [zc nkp, z7], T.cl_Store, T.n_Store_kept, by show (1 : Nat) < 1000; decide, ?_⟩
  refine q _ ⟨p, z7, by rw [zc nkp.symm, z7], ?_⟩ fun b o e nb => ?_
  ·rw [zc nkp.symm] at hp
   exact hp
  ·have nbp : b ≠ p := fun z => by
    subst z
    rw [zc nb, e] at hp
    cases hp
   rw [zc nb, zc nbp, zc nb]
   exact e
theorem z21 : ∀ (zs D : List Str), (zs.foldl zw D).length ≤ D.length + zs.length
 | [], D => by simp
 | z :: zs, D => by
  have := z21 zs (zw D z)
  have h : (zw D z).length ≤ D.length + 1 := by
   unfold zw
   split
   ·omega
   ·simp
  rw [List.foldl_cons, List.length_cons]
  omega
theorem metFold_nodup : ∀ (zs D : List Str), D.Nodup → ((zs.foldl zw D).length = D.length + zs.length ↔ zs.Nodup ∧ ∀ z ∈ zs, z ∉ D)
 | [], D, _ => by simp
 | z :: zs, D, hD => by
  rw [List.foldl_cons, List.length_cons, List.nodup_cons]
  by_cases h : z ∈ D
  ·have e : zw D z = D := by unfold zw; rw [if_pos h]
   rw [e]
   have := z21 zs D
   constructor
   ·intro x; omega
   ·rintro ⟨-, x⟩; exact absurd h (x z (List.mem_cons_self ..))
  ·have e : zw D z = D ++ [z] := by unfold zw; rw [if_neg h]
   rw [e]
   have ih := metFold_nodup zs (D ++ [z]) (by
    rw [List.nodup_append]
    exact ⟨hD, by simp, fun a ha b hb => by rw [List.mem_singleton.mp hb]; rintro rfl; exact h ha⟩)
   rw [List.length_append, List.length_singleton] at ih
   have e2 : D.length + (zs.length + 1) = D.length + 1 + zs.length := by omega
   rw [e2, ih]
   constructor
   ·rintro ⟨a, b⟩
    refine ⟨⟨fun m => b z m (by simp), a⟩, fun y hy => ?_⟩
    rcases List.mem_cons.mp hy with rfl | hy
    ·exact h
    ·exact fun m => b y hy (List.mem_append_left _ m)
   ·rintro ⟨⟨a, b⟩, c⟩
    refine ⟨b, fun y hy m => ?_⟩
    rcases List.mem_append.mp m with m | m
    ·exact c y (List.mem_cons_of_mem _ hy) m
    ·rw [List.mem_singleton.mp m] at hy; exact a hy
theorem metAll_nodup (zs : List Str) : (zy zs).length = zs.length ↔ zs.Nodup := by
 have := metFold_nodup zs [] List.nodup_nil
 unfold zy
 simpa using this
def z84 : Sp := fun vs H Q _ => ∃ (p : Addr) (zs : List Str) (lo hi : Int), vs = [.ref p, .int lo, .int hi] ∧ H p = some (.lst (zs.map V.str)) ∧ zs.length ≤ 100 ∧ z42 H Q (.bl (decide (lo ≤ (zs.length : Int)) && decide ((zs.length : Int) ≤ hi) && decide (zs.Nodup)))
theorem z71 (F : Def K mg "all_differ" z38 ["texts", "least", "most"]) (T : Txt K mg C_BadSetup C_Council C_GateError C_Keeper C_Store C_World t_MOST_HOLDERS t_MOST_KEEPERS t_MOST_LOCKS t_MOST_NAMES t_MOST_SIGNS t_MOST_STORES t_NAME_SIGNS) : Has P w K mg base 1 "all_differ" ["texts", "least", "most"] (z84) := by
 refine F.ok z6y (fun vs H Q E h => ?_) (fun f cdv A outer s H vs Q E hr h => ?_)
 ·obtain ⟨p, zs, lo, hi, rfl, _⟩ := h
  rfl
 ·obtain ⟨p, zs, lo, hi, rfl, hp, hl, q⟩ := h
  refine ⟨_, (@za _ _ _ (@zk _ _ _ _ (@z1r _ _ _ _ _ _ _ (@z5a _ _ _ _ _ _ _ _ _ _ _ _ z3z z3z (pv 1) (@z8 _ _ _ _ _ _ _ _ _ zg rfl T.b_len (by decide +kernel) (@z0 _ _ _ _ _ (pv 0) z5 rfl) (by decide) (by decide) rfl rfl) (pv 2) (by with_unfolding_all rfl)) (@z1q _ _ _ _ _ (@z1f _ _ _ _ _ _ _ _ z1l (@z8 _ _ _ _ _ _ _ _ _ z37 rfl T.b_len (by decide +kernel) (@z0 _ _ _ _ _ (@z1e _ _ _ _ _ _ _ _ _ (z3h rfl) rfl T.b_set (by decide +kernel) (@z0 _ _ _ _ _ (pv 0) z5 rfl) (by decide) (by decide) rfl rfl) z5 rfl) (by decide) (by decide) rfl rfl) (@z8 _ _ _ _ _ _ _ _ _ zg rfl T.b_len (by decide +kernel) (@z0 _ _ _ _ _ (pv 0) z5 rfl) (by decide) (by decide) rfl rfl) (zf _)))))), ?_⟩
  walk_at "rd"
  refine ⟨_, .inl (SqL.of hp), ?_⟩
  rw [List.length_map]
  refine ite2 (fun h1 => ?_) (fun h1 => ?_)
  ·have h1 : lo ≤ (zs.length : Int) := of_decide_eq_true h1
   refine ite2 (fun h2 => ?_) (fun h2 => ?_)
   ·have h2 : (zs.length : Int) ≤ hi := of_decide_eq_true h2
    refine ⟨zs, SqL.of hp, by show zs.length + 1 < 4096; omega, fun d hd => ⟨_, z7, _, .inl (SqL.of ((Same.upd hd) _ _ hp)), ?_⟩⟩
    have e := q _ (Same.upd (o := tso P w d (zy zs)) hd)
    rw [decide_eq_true h1, decide_eq_true h2, Bool.true_and, Bool.true_and] at e
    rw [List.length_map]
    have e2 : decide (((zy zs).length : Int) = (zs.length : Int)) = decide zs.Nodup := by
     rw [Bool.eq_iff_iff, decide_eq_true_eq, decide_eq_true_eq, ← metAll_nodup zs]
     omega
    rw [e2]
    exact e
   ·have e := q H (Same.refl _)
    rw [Bool.eq_false_iff.mpr h2, Bool.and_false, Bool.false_and] at e
    exact e
  ·have e := q H (Same.refl _)
   rw [Bool.eq_false_iff.mpr h1, Bool.false_and, Bool.false_and] at e
   exact e
def z11 (k : Int) (hs ls ss ts : List Str) : Bool :=
  [decide (1 ≤ k) && decide (k ≤ 5), decide ((1 : Int) ≤ (hs.length : Int)) && decide ((hs.length : Int) ≤ 8) && decide hs.Nodup, decide ((1 : Int) ≤ (ls.length : Int)) && decide ((ls.length : Int) ≤ 10) && decide ls.Nodup,
   decide ((0 : Int) ≤ (ss.length : Int)) && decide ((ss.length : Int) ≤ 10) && decide ss.Nodup, decide ((0 : Int) ≤ (ts.length : Int)) && decide ((ts.length : Int) ≤ 4) && decide ts.Nodup,
   (hs.map zm).all id, (ts.map zm).all id, (ls.map z17).all id, (ss.map fun z => decide (z ∈ ls)).all id].all id
def z59 : Sp := fun vs H Q _ => ∃ (k : Int) (a b c d : Addr) (hs ls ss ts : List Str), vs = [.int k, .ref a, .ref b, .ref c, .ref d] ∧ H a = some (.lst (hs.map V.str)) ∧ H b = some (.lst (ls.map V.str)) ∧ H c = some (.lst (ss.map V.str)) ∧ H d = some (.lst (ts.map V.str)) ∧
 hs.length ≤ 100 ∧ ls.length ≤ 100 ∧ ss.length ≤ 100 ∧ ts.length ≤ 100 ∧ (∀ z ∈ hs, z.length ≤ 1000) ∧ (∀ z ∈ ls, z.length ≤ 1000) ∧ (∀ z ∈ ts, z.length ≤ 1000) ∧ z42 H Q (.bl (z11 k hs ls ss ts))
theorem z72 (F : Def K mg "good_setup" z39 ["keepers", "holders", "locks", "shared", "stores"]) (T : Txt K mg C_BadSetup C_Council C_GateError C_Keeper C_Store C_World t_MOST_HOLDERS t_MOST_KEEPERS t_MOST_LOCKS t_MOST_NAMES t_MOST_SIGNS t_MOST_STORES t_NAME_SIGNS) (G_good_name : Has P w K mg base 1 "good_name" ["text"] (z80)) (G_good_path : Has P w K mg base 2 "good_path" ["text"] (z62)) (G_all_differ : Has P w K mg base 1 "all_differ" ["texts", "least", "most"] (z84)) : Has P w K mg base 3 "good_setup" ["keepers", "holders", "locks", "shared", "stores"] (z59) := by
 refine F.ok z6z (fun vs H Q E h => ?_) (fun f cdv A outer s H vs Q E hr h => ?_)
 ·obtain ⟨k, a, b, c, d, hs, ls, ss, ts, rfl, _⟩ := h
  rfl
 ·obtain ⟨k, a, b, c, d, hs, ls, ss, ts, rfl, ha, hb, hc, hd, l1, l2, l3, l4, n1, n2, n3, q⟩ := h
  have hu := hr.units0
  refine ⟨_, (@za _ _ _ (@zk _ _ _ _ (@z8 _ _ _ _ _ _ _ _ _ (z10 rfl) rfl T.b_all (by decide +kernel) (@z0 _ _ _ _ _ (@z19 _ _ _ _ (@z0 _ _ _ _ _ (@z5a _ _ _ _ _ _ _ _ _ _ _ _ z3z z3z z6 (pv 0) (@z26 _ _ (.int 5) _ _ rfl T.c_MOST_KEEPERS ⟨_, rfl⟩ (by decide)) (by with_unfolding_all rfl)) (@z0 _ _ _ _ _ (@zu _ _ _ _ _ _ _ _ _ _ G_all_differ (hr.mono (by decide)) rfl (@z0 _ _ _ _ _ (pv 1) (@z0 _ _ _ _ _ z6 (@z0 _ _ _ _ _ (@z26 _ _ (.int 8) _ _ rfl T.c_MOST_HOLDERS ⟨_, rfl⟩ (by decide)) z5 rfl) rfl) rfl) (by decide) rfl rfl) (@z0 _ _ _ _ _ (@zu _ _ _ _ _ _ _ _ _ _ G_all_differ (hr.mono (by decide)) rfl (@z0 _ _ _ _ _ (pv 2) (@z0 _ _ _ _ _ z6 (@z0 _ _ _ _ _ (@z26 _ _ (.int 10) _ _ rfl T.c_MOST_LOCKS ⟨_, rfl⟩ (by decide)) z5 rfl) rfl) rfl) (by decide) rfl rfl) (@z0 _ _ _ _ _ (@zu _ _ _ _ _ _ _ _ _ _ G_all_differ (hr.mono (by decide)) rfl (@z0 _ _ _ _ _ (pv 3) (@z0 _ _ _ _ _ z6 (@z0 _ _ _ _ _ (@z26 _ _ (.int 10) _ _ rfl T.c_MOST_LOCKS ⟨_, rfl⟩ (by decide)) z5 rfl) rfl) rfl) (by decide) rfl rfl) (@z0 _ _ _ _ _ (@zu _ _ _ _ _ _ _ _ _ _ G_all_differ (hr.mono (by decide)) rfl (@z0 _ _ _ _ _ (pv 4) (@z0 _ _ _ _ _ z6 (@z0 _ _ _ _ _ (@z26 _ _ (.int 4) _ _ rfl T.c_MOST_STORES ⟨_, rfl⟩ (by decide)) z5 rfl) rfl) rfl) (by decide) rfl rfl) (@z0 _ _ _ _ _ (@z8 _ _ _ _ _ _ _ _ _ (z10 rfl) rfl T.b_all (by decide +kernel) (@z0 _ _ _ _ _ (@z1a _ _ "name" ([]) ([]) _ _ _ _ _ _ _ _ rfl ⟨rfl, by decide +kernel, by decide +kernel, rfl, zv rfl, by decide +kernel, trivial⟩ (@z1m _ _ _ _ (pv 1)) (fun _ _ _ _ => z14) (fun _ _ _ _ => (@zu _ _ _ _ _ _ _ _ _ _ G_good_name (hr.mono (by decide)) rfl (@z0 _ _ _ _ _ (pv 0) z5 rfl) (by decide) rfl rfl)) (by intro _; rfl)) z5 rfl) (by decide) (by decide) rfl rfl) (@z0 _ _ _ _ _ (@z8 _ _ _ _ _ _ _ _ _ (z10 rfl) rfl T.b_all (by decide +kernel) (@z0 _ _ _ _ _ (@z1a _ _ "name" ([]) ([]) _ _ _ _ _ _ _ _ rfl ⟨rfl, by decide +kernel, by decide +kernel, rfl, zv rfl, by decide +kernel, trivial⟩ (@z1m _ _ _ _ (pv 4)) (fun _ _ _ _ => z14) (fun _ _ _ _ => (@zu _ _ _ _ _ _ _ _ _ _ G_good_name (hr.mono (by decide)) rfl (@z0 _ _ _ _ _ (pv 0) z5 rfl) (by decide) rfl rfl)) (by intro _; rfl)) z5 rfl) (by decide) (by decide) rfl rfl) (@z0 _ _ _ _ _ (@z8 _ _ _ _ _ _ _ _ _ (z10 rfl) rfl T.b_all (by decide +kernel) (@z0 _ _ _ _ _ (@z1a _ _ "path" ([]) ([]) _ _ _ _ _ _ _ _ rfl ⟨rfl, by decide +kernel, by decide +kernel, rfl, zv rfl, by decide +kernel, trivial⟩ (@z1m _ _ _ _ (pv 2)) (fun _ _ _ _ => z14) (fun _ _ _ _ => (@zu _ _ _ _ _ _ _ _ _ _ G_good_path (hr.mono (by decide)) rfl (@z0 _ _ _ _ _ (pv 0) z5 rfl) (by decide) rfl rfl)) (by intro _; rfl)) z5 rfl) (by decide) (by decide) rfl rfl) (@z0 _ _ _ _ _ (@z8 _ _ _ _ _ _ _ _ _ (z10 rfl) rfl T.b_all (by decide +kernel) (@z0 _ _ _ _ _ (@z1a _ _ "path" (["locks"]) ([2]) _ _ _ _ _ _ _ _ rfl ⟨rfl, by decide +kernel, by decide +kernel, rfl, zv rfl, by decide +kernel, ⟨⟨rfl, Or.inl rfl, rfl⟩, trivial⟩⟩ (@z1m _ _ _ _ (pv 3)) (fun _ _ _ _ => z14) (fun _ _ _ _ => (@z1f _ _ _ _ _ _ _ _ (z53 (K := K)) (pv 0) (pv 1) (by with_unfolding_all rfl))) (by intro _; rfl)) z5 rfl) (by decide) (by decide) rfl rfl) z5 rfl) rfl) rfl) rfl) rfl) rfl) rfl) rfl) rfl)) z5 rfl) (by decide) (by decide) rfl rfl))), ?_⟩
  walk_at "rd"
  have bl : ∀ (a : Addr) (zs : List Str) (H0 : Hp) (f : Str → Bool) (te : TE) (σ : St) (R : VK) (js : List Nat), H0 a = some (.lst (zs.map V.str)) → zs.length ≤ 100 →
    (∀ (z : Str) (H1 : Hp) (R1 : VK), z ∈ zs → Same H0 H1 → (∀ H2, Same H1 H2 → R1 (.bl (f z)) H2) → te (some (.str z) :: capt σ js) H1 R1) →
    (∀ (p : Addr) (H1 : Hp), SqL K H1 p (((zs.map f).map V.bl)) → Same H0 H1 → R (.ref p) H1) → z1x (Itl K a) tYes te js σ H0 R := fun a zs H0 f te σ R js hz lz hte hR => by
   refine z2a (xs := zs.map V.str) (by rw [List.length_map]; exact zj (by omega)) (fun i acc H' => acc = ((zs.take i).map f).map V.bl ∧ Same H0 H') ⟨rfl, Same.refl _⟩ ?_ ?_ ?_ ?_
   ·rintro i acc H' ⟨rfl, -⟩
    rw [List.length_map, List.length_map, List.length_take]
    omega
   ·rintro i acc H' ⟨-, sm⟩
    exact SqL.of (sm _ _ hz)
   ·rintro Nn i acc H' x hN hx hi ⟨rfl, sm⟩
    rw [List.getElem?_map] at hx
    cases e : zs[i]? with
    | none => rw [e] at hx; cases hx
    | some z =>
    rw [e] at hx
    cases hx
    simp only [tYes, if_true]
    exact hte z H' _ (List.mem_of_getElem? e) sm fun H2 s2 => hN _ _ ⟨by rw [List.take_succ, e]; simp, sm.trans s2⟩
   ·rintro acc H' ⟨rfl, sm⟩ p hp
    rw [List.length_map, List.take_length]
    exact hR p _ (SqL.of z7) (sm.trans (Same.upd hp))
  refine ite2 (fun h1 => ?_) (fun h1 => ?_)
  all_goals
   refine ⟨a, hs, 1, 8, rfl, ha, l1, fun H1 s1 => ⟨b, ls, 1, 10, rfl, s1 _ _ hb, l2, fun H2 s2 => ⟨c, ss, 0, 10, rfl, s2 _ _ (s1 _ _ hc), l3, fun H3 s3 => ⟨d, ts, 0, 4, rfl, s3 _ _ (s2 _ _ (s1 _ _ hd)), l4, fun H4 s4 => ?_⟩⟩⟩⟩
   have s14 := ((s1.trans s2).trans s3).trans s4
   refine ⟨⟨_, SqL.of (s14 _ _ ha)⟩, bl a hs H4 zm _ _ _ _ (s14 _ _ ha) l1 (fun z H5 R1 hz s5 hR => ?_) fun p5 H5 g5 s5 => ⟨p5, rfl, _, g5, ⟨_, SqL.of (s5 _ _ (s14 _ _ hd))⟩, ?_⟩⟩
   ·walk_at "rd"
    exact ⟨z, rfl, n1 z hz, fun H6 s6 => hR _ s6⟩
   have s15 := s14.trans s5
   refine bl d ts H5 zm _ _ _ _ (s15 _ _ hd) l4 (fun z H6 R1 hz s6 hR => ?_) fun p6 H6 g6 s6 => ⟨p6, rfl, _, g6, ⟨_, SqL.of (s6 _ _ (s15 _ _ hb))⟩, ?_⟩
   ·walk_at "rd"
    exact ⟨z, rfl, n3 z hz, fun H7 s7 => hR _ s7⟩
   have s16 := s15.trans s6
   refine bl b ls H6 z17 _ _ _ _ (s16 _ _ hb) l2 (fun z H7 R1 hz s7 hR => ?_) fun p7 H7 g7 s7 => ⟨p7, rfl, _, g7, ⟨_, SqL.of (s7 _ _ (s16 _ _ hc))⟩, ?_⟩
   ·walk_at "rd"
    exact ⟨z, rfl, n2 z hz, fun H8 s8 => hR _ s8⟩
   have s17 := s16.trans s7
   refine bl c ss H7 (fun z => decide (z ∈ ls)) _ _ _ _ (s17 _ _ hc) l3 (fun z H8 R1 hz s8 hR => ?_) fun p8 H8 g8 s8 => ⟨p8, rfl, _, g8, zj (by decide), fun p9 hp9 => ?_⟩
   ·walk_at "rd"
    refine ⟨_, _, rfl, .inl (SqL.of (s8 _ _ (s17 _ _ hb))), rfl, z4b _, ?_⟩
    rw [if_neg Bool.false_ne_true, z92]
    exact hR _ (Same.refl _)
   have e := q
   unfold z11 at e
   have sF := s17.trans s8
  ·have h1 : 1 ≤ k := of_decide_eq_true h1
   rw [decide_eq_true h1, Bool.true_and] at e
   exact ⟨_, SqL.of (by rw [z7]; rfl), e _ (sF.trans (Same.upd hp9))⟩
  ·rw [Bool.eq_false_iff.mpr h1, Bool.false_and] at e
   exact ⟨_, SqL.of (by rw [z7]; rfl), e _ (sF.trans (Same.upd hp9))⟩
def Fs (n : Nat) (fs : List (Str × V)) : Prop := fs.length ≤ n ∧ fs.lookup ("now" : Str) = some (.int 0) ∧ fs.lookup ("log" : Str) = none
theorem Fs.put {n : Nat} {fs : List (Str × V)} (h : Fs n fs) (a : Str) (v : V) (h1 : ¬ (("now" : Str) = a)) (h2 : ¬ (("log" : Str) = a)) : Fs (n + 1) (putF a v fs) :=
 ⟨by have := z3j a v fs; have := h.1; omega, by rw [z1y, if_neg h1]; exact h.2.1, by rw [z1y, if_neg h2]; exact h.2.2⟩
def Bt (x : Addr) (H H' : Hp) : Prop := ∀ b o, H b = some o → b ≠ x → H' b = some o
theorem Bt.put {x : Addr} {H H' : Hp} (h : Bt x H H') (o : HO) : Bt x H (upd H' x o) := fun b o' e n => by rw [zc n]; exact h b o' e n
theorem Bt.new {x : Addr} {H H' : Hp} (h : Bt x H H') {p : Addr} (hp : H' p = none) (o : HO) : Bt x H (upd H' p o) := fun b o' e n => by
 have e' := h b o' e n
 rw [zc (zi e' hp)]
 exact e'
theorem z1h {x p : Addr} {H' : Hp} {o o2 : HO} (h : H' x = some o) (hp : H' p = none) : upd H' p o2 x = some o := by
 rw [zc (zi h hp)]
 exact h
def spWI (CW CB : Addr) : Sp := fun vs H Q E => ∃ (x dx : Addr) (k : Nat) (ki : Int) (a b c d : Addr) (hs ls ss ts : List Str), vs = [.ref x, .int ki, .ref a, .ref b, .ref c, .ref d] ∧ H x = some (.ins CW dx []) ∧ H a = some (.lst (hs.map V.str)) ∧ H b = some (.lst (ls.map V.str)) ∧ H c = some (.lst (ss.map V.str)) ∧ H d = some (.lst (ts.map V.str)) ∧
 hs.length ≤ 100 ∧ ls.length ≤ 100 ∧ ss.length ≤ 100 ∧ ts.length ≤ 100 ∧ (∀ z ∈ hs, z.length ≤ 1000) ∧ (∀ z ∈ ls, z.length ≤ 1000) ∧ (∀ z ∈ ts, z.length ≤ 1000) ∧
 (z11 ki hs ls ss ts = false → ∀ H', Same H H' → E (.ref CB) none H') ∧ (z11 ki hs ls ss ts = true → ∀ (H' : Hp) (pl : Addr) (fs : List (Str × V)), H' x = some (.ins CW dx fs) → fs.lookup ("now" : Str) = some (.int 0) → fs.lookup ("logged" : Str) = some (.ref pl) → H' pl = some (.lst []) → fs.lookup ("log" : Str) = none → (∀ b o, H b = some o → b ≠ x → H' b = some o) → Q .non H')
theorem z4z (F : KDef K C_World "World.__init__" z2e ["self", "keepers", "holders", "locks", "shared", "stores"]) (T : Txt K mg C_BadSetup C_Council C_GateError C_Keeper C_Store C_World t_MOST_HOLDERS t_MOST_KEEPERS t_MOST_LOCKS t_MOST_NAMES t_MOST_SIGNS t_MOST_STORES t_NAME_SIGNS) (G_Council___init__ : KHas P w K mg base 3 C_Council ["self", "many"] (spCI C_Council)) (G_Store___init__ : KHas P w K mg base 1 C_Store ["self"] (spSI C_Store)) (G_good_setup : Has P w K mg base 3 "good_setup" ["keepers", "holders", "locks", "shared", "stores"] (z59)) : KHasX P w K mg base (CX1 P w) 5 C_World ["self", "keepers", "holders", "locks", "shared", "stores"] (spWI C_World C_BadSetup) := by
 refine F.okx z4x (fun vs H Q E h => ?_) (fun f cdv A outer s H vs Q E hr h => ?_)
 ·obtain ⟨x, dx, k, ki, a, b, c, d, hs, ls, ss, ts, rfl, _⟩ := h
  rfl
 ·obtain ⟨x, dx, k, ki, a, b, c, d, hs, ls, ss, ts, rfl, hx, ha, hb, hc, hd, l1, l2, l3, l4, n1, n2, n3, e1, q⟩ := h
  have hu := hr.units0
  have hu2 := z4q hr
  refine ⟨_, (@z9 _ _ _ _ _ (@zr _ _ _ _ _ _ _ _ (@z2y _ _ _ _ (@z1w _ _ _ (@zu _ _ _ _ _ _ _ _ _ _ G_good_setup (hr.mono (by decide)) rfl (@z0 _ _ _ _ _ (pv 1) (@z0 _ _ _ _ _ (pv 2) (@z0 _ _ _ _ _ (pv 3) (@z0 _ _ _ _ _ (pv 4) (@z0 _ _ _ _ _ (pv 5) z5 rfl) rfl) rfl) rfl) rfl) (by decide) rfl rfl) (by intro _; rfl))) (@za _ _ _ (@zbj _ _ _ _ _ _ _ _ _ _ _ _ _ _ zap rfl PySem.F.excBase_ValueError T.x_BadSetup rfl T.g_BadSetup (@z0 _ _ _ _ _ z1d z5 rfl) rfl rfl (by decide))) zl) (@z9 _ _ _ _ _ (@z18 _ _ _ _ _ _ _ _ (pv 0) z6 rfl) (@z9 _ _ _ _ _ (@z18 _ _ _ _ _ _ _ _ (pv 0) (@zcs _ _ _ _ _ _ _ _ _ _ _ G_Council___init__ (hr.mono (by decide)) rfl T.g_Council (@z0 _ _ _ _ _ (pv 1) z5 rfl) (by decide) rfl rfl) rfl) (@z9 _ _ _ _ _ (@z18 _ _ _ _ _ _ _ _ (pv 0) (@z1e _ _ _ _ _ _ _ _ _ z24 rfl T.b_list (by decide +kernel) (@z0 _ _ _ _ _ (pv 2) z5 rfl) (by decide) (by decide) rfl rfl) rfl) (@z9 _ _ _ _ _ (@z18 _ _ _ _ _ _ _ _ (pv 0) (@z1e _ _ _ _ _ _ _ _ _ z24 rfl T.b_list (by decide +kernel) (@z0 _ _ _ _ _ (pv 3) z5 rfl) (by decide) (by decide) rfl rfl) rfl) (@z9 _ _ _ _ _ (@z18 _ _ _ _ _ _ _ _ (pv 0) (@z1e _ _ _ _ _ _ _ _ _ z24 rfl T.b_list (by decide +kernel) (@z0 _ _ _ _ _ (pv 4) z5 rfl) (by decide) (by decide) rfl rfl) rfl) (@z9 _ _ _ _ _ (@z18 _ _ _ _ _ _ _ _ (pv 0) (@z1e _ _ _ _ _ _ _ _ _ (z5z rfl) rfl T.b_dict (by decide +kernel) (@z0 _ _ _ _ _ (@z1a _ _ "name" ([]) ([]) _ _ _ _ _ _ _ _ rfl ⟨rfl, by decide +kernel, by decide +kernel, rfl, zv rfl, by decide +kernel, trivial⟩ (@z1m _ _ _ _ (pv 5)) (fun _ _ _ _ => z14) (fun _ _ _ _ => (@z2z _ _ _ _ _ (@z0 _ _ _ _ _ (pv 0) (@z0 _ _ _ _ _ (@z8w _ _ _ _ _ _ _ _ G_Store___init__ (hr.mono (by decide)) rfl T.g_Store (by decide)) z5 rfl) rfl))) (by intro _; rfl)) z5 rfl) (by decide) (by decide) rfl rfl) rfl) (@z9 _ _ _ _ _ (@z18 _ _ _ _ _ _ _ _ (pv 0) z5f rfl) (@z9 _ _ _ _ _ (@z18 _ _ _ _ _ _ _ _ (pv 0) (@z19 _ _ _ _ z5) rfl) (@z9 _ _ _ _ _ (@z18 _ _ _ _ _ _ _ _ (pv 0) z5f rfl) (@z9 _ _ _ _ _ (@z18 _ _ _ _ _ _ _ _ (pv 0) z6 rfl) (@z9 _ _ _ _ _ (@z18 _ _ _ _ _ _ _ _ (pv 0) (@z19 _ _ _ _ z5) rfl) (@za _ _ _ (@z18 _ _ _ _ _ _ _ _ (pv 0) z5f rfl)))))))))))))), ?_⟩
  walk_at "rd"
  refine ⟨ki, a, b, c, d, hs, ls, ss, ts, rfl, ha, hb, hc, hd, l1, l2, l3, l4, n1, n2, n3, fun H1 s1 => ⟨_, rfl, ?_⟩⟩
  refine ite2 (fun h1 => ?_) (fun h1 => ?_)
  ·have h1 : z11 ki hs ls ss ts = false := by simpa using h1
   exact ⟨by decide, e1 h1 _ s1⟩
  have h1 : z11 ki hs ls ss ts = true := by simpa using h1
  have hk : 1 ≤ ki ∧ ki ≤ 5 := by
   unfold z11 at h1
   simp only [List.all_cons, Bool.and_eq_true, decide_eq_true_eq, id] at h1
   exact h1.1
  have gx := s1 _ _ hx
  have na : a ≠ x := fun z => by rw [z, hx] at ha; cases ha
  have nb : b ≠ x := fun z => by rw [z, hx] at hb; cases hb
  have nc : c ≠ x := fun z => by rw [z, hx] at hc; cases hc
  have nd : d ≠ x := fun z => by rw [z, hx] at hd; cases hd
  obtain ⟨kn, rfl⟩ := Int.eq_ofNat_of_zero_le (show 0 ≤ ki by omega)
  have b1 : Bt x H H1 := fun b o e _ => s1 b o e
  refine ⟨_, _, _, gx, T.cl_World, T.n_World_now, by decide, fun xc dc g1 g2 ne => ?_⟩
  have f2 : Fs 1 (putF ("now" : Str) (.int 0) []) := ⟨Nat.le_refl _, rfl, rfl⟩
  have b2 := b1.put (.ins C_World dx (putF (Str.ofString "now") (.int 0) []))
  have gx2 : upd H1 x (.ins C_World dx (putF (Str.ofString "now") (.int 0) [])) x = _ := z7
  generalize upd H1 x (.ins C_World dx (putF (Str.ofString "now") (.int 0) [])) = G2 at b2 gx2 g1 g2 ⊢
  generalize putF (Str.ofString "now") (V.int 0) [] = F2 at gx2 f2 ⊢
  have b2b := b2.new g2 (.own xc)
  have gx2b := z1h (o2 := .own xc) gx2 g2
  have g1' : upd G2 dc (.own xc) xc = none := by rw [zc (Ne.symm ne)]; exact g1
  have gx2c := z1h (o2 := .ins C_Council dc []) gx2b g1'
  refine ⟨xc, dc, kn, rfl, by omega, z7, fun G3 hcc hk4 => ⟨rfl, ?_⟩⟩
  have nxc : x ≠ xc := zi gx2b g1'
  have gx3 := hk4 _ _ gx2c nxc
  have b3 : Bt x H G3 := fun b o e n => by
   have e' := b2b b o e n
   exact hk4 b o (z1h e' g1') (zi e' g1')
  obtain ⟨F3, eF3⟩ : ∃ z, z = F2 := ⟨_, rfl⟩
  rw [← eF3] at gx3
  have f3 := f2; rw [← eF3] at f3
  refine ⟨_, _, _, gx3, T.cl_World, T.n_World_council, by have := f3.1; omega, ?_⟩
  have b4 := b3.put (.ins C_World dx (putF (Str.ofString "council") (.ref xc) F3))
  have gx4 : upd G3 x (.ins C_World dx (putF (Str.ofString "council") (.ref xc) F3)) x = _ := z7
  have f4 := f3.put ("council" : Str) (.ref xc) (by decide +kernel) (by decide +kernel)
  generalize upd G3 x (.ins C_World dx (putF (Str.ofString "council") (.ref xc) F3)) = G4 at b4 gx4 ⊢
  generalize hF4 : putF (Str.ofString "council") (.ref xc) F3 = F4 at gx4 f4 ⊢
  refine ⟨_, .inl (SqL.of (b4 _ _ ha na)), fun p4 hp4 => ?_⟩
  have b5 := b4.new hp4 (.lst (hs.map V.str))
  have gx5 := z1h (o2 := .lst (hs.map V.str)) gx4 hp4
  have f5 := f4
  have np5 : p4 ≠ x := fun z => by rw [← z, hp4] at gx4; cases gx4
  have gp5 : upd G4 p4 (.lst (hs.map V.str)) p4 = _ := z7
  generalize upd G4 p4 (.lst (hs.map V.str)) = G5 at b5 gx5 gp5 ⊢
  obtain ⟨F5, eF5⟩ : ∃ z, z = F4 := ⟨_, rfl⟩
  rw [← eF5] at gx5 f5
  refine ⟨_, _, _, gx5, T.cl_World, T.n_World_holders, by have := f5.1; omega, ?_⟩
  have b6 := b5.put (.ins C_World dx (putF (Str.ofString "holders") (.ref p4) F5))
  have gx6 : upd G5 x (.ins C_World dx (putF (Str.ofString "holders") (.ref p4) F5)) x = _ := z7
  have f6 := f5.put ("holders" : Str) (.ref p4) (by decide +kernel) (by decide +kernel)
  generalize upd G5 x (.ins C_World dx (putF (Str.ofString "holders") (.ref p4) F5)) = G6 at b6 gx6 ⊢
  generalize hF6 : putF (Str.ofString "holders") (.ref p4) F5 = F6 at gx6 f6 ⊢
  refine ⟨_, .inl (SqL.of (b6 _ _ hb nb)), fun p6 hp6 => ?_⟩
  have b7 := b6.new hp6 (.lst (ls.map V.str))
  have gx7 := z1h (o2 := .lst (ls.map V.str)) gx6 hp6
  have f7 := f6
  have np7 : p6 ≠ x := fun z => by rw [← z, hp6] at gx6; cases gx6
  have gp7 : upd G6 p6 (.lst (ls.map V.str)) p6 = _ := z7
  generalize upd G6 p6 (.lst (ls.map V.str)) = G7 at b7 gx7 gp7 ⊢
  obtain ⟨F7, eF7⟩ : ∃ z, z = F6 := ⟨_, rfl⟩
  rw [← eF7] at gx7 f7
  refine ⟨_, _, _, gx7, T.cl_World, T.n_World_locks, by have := f7.1; omega, ?_⟩
  have b8 := b7.put (.ins C_World dx (putF (Str.ofString "locks") (.ref p6) F7))
  have gx8 : upd G7 x (.ins C_World dx (putF (Str.ofString "locks") (.ref p6) F7)) x = _ := z7
  have f8 := f7.put ("locks" : Str) (.ref p6) (by decide +kernel) (by decide +kernel)
  generalize upd G7 x (.ins C_World dx (putF (Str.ofString "locks") (.ref p6) F7)) = G8 at b8 gx8 ⊢
  generalize hF8 : putF (Str.ofString "locks") (.ref p6) F7 = F8 at gx8 f8 ⊢
  refine ⟨_, .inl (SqL.of (b8 _ _ hc nc)), fun p8 hp8 => ?_⟩
  have b9 := b8.new hp8 (.lst (ss.map V.str))
  have gx9 := z1h (o2 := .lst (ss.map V.str)) gx8 hp8
  have f9 := f8
  have np9 : p8 ≠ x := fun z => by rw [← z, hp8] at gx8; cases gx8
  have gp9 : upd G8 p8 (.lst (ss.map V.str)) p8 = _ := z7
  generalize upd G8 p8 (.lst (ss.map V.str)) = G9 at b9 gx9 gp9 ⊢
  obtain ⟨F9, eF9⟩ : ∃ z, z = F8 := ⟨_, rfl⟩
  rw [← eF9] at gx9 f9
  refine ⟨_, _, _, gx9, T.cl_World, T.n_World_shareable, by have := f9.1; omega, ?_⟩
  have b10 := b9.put (.ins C_World dx (putF (Str.ofString "shareable") (.ref p8) F9))
  have gx10 : upd G9 x (.ins C_World dx (putF (Str.ofString "shareable") (.ref p8) F9)) x = _ := z7
  have f10 := f9.put ("shareable" : Str) (.ref p8) (by decide +kernel) (by decide +kernel)
  generalize upd G9 x (.ins C_World dx (putF (Str.ofString "shareable") (.ref p8) F9)) = G10 at b10 gx10 ⊢
  generalize hF10 : putF (Str.ofString "shareable") (.ref p8) F9 = F10 at gx10 f10 ⊢
  refine ⟨⟨_, SqL.of (b10 _ _ hd nd)⟩, ?_⟩
  refine z2a (xs := ts.map V.str) (by rw [List.length_map]; exact zj (by omega)) (fun i acc H' => ∃ L : List (Addr × Key × V), acc = L.map (fun q => V.ref q.1) ∧ L.length = i ∧ (∀ q ∈ L, H' q.1 = some (.tup [kV q.2.1, q.2.2])) ∧ Same G10 H') ⟨[], rfl, rfl, by simp, Same.refl _⟩ ?_ ?_ ?_ ?_
  ·rintro i acc H' ⟨L, rfl, hl, -, -⟩
   rw [List.length_map, hl]
   omega
  ·rintro i acc H' ⟨L, -, -, -, sm⟩
   exact SqL.of (sm _ _ (b10 _ _ hd nd))
  ·rintro Nn i acc H' y hN hy hi ⟨L, rfl, hl, hL, sm⟩
   rw [List.getElem?_map] at hy
   cases e : ts[i]? with
   | none => rw [e] at hy; cases hy
   | some z =>
   rw [e] at hy
   cases hy
   walk_at "rd"
   intro k0 d0 g1 g2 ne0
   refine ⟨k0, d0, rfl, z7, fun H3 _ hb3 => ⟨rfl, by decide, fun t0 ht0 => ?_⟩⟩
   have s3 : Same H' H3 := fun b o eb => by
    have m1 : b ≠ k0 := zi eb g1
    have m2 : b ≠ d0 := zi eb g2
    exact hb3 b o (by rw [zc m1, zc m2]; exact eb) m1
   have s4 := s3.trans (Same.upd (o := .tup [.str z, .ref k0]) ht0)
   refine hN _ _ ⟨L ++ [(t0, .inr z, .ref k0)], by rw [List.map_append]; rfl, by rw [List.length_append, hl]; rfl, fun q hq => ?_, sm.trans s4⟩
   rcases List.mem_append.mp hq with hq | hq
   ·exact s4 _ _ (hL q hq)
   ·rw [List.mem_singleton.mp hq]
    exact z7
  rintro acc H11 ⟨L, rfl, hl, hL, sm⟩ p hp
  have b11 : Bt x H H11 := fun b o e n => sm _ _ (b10 b o e n)
  have gx11 := sm _ _ gx10
  have hL' : ∀ q ∈ L, upd H11 p (.lst (L.map fun q => V.ref q.1)) q.1 = some (.tup [kV q.2.1, q.2.2]) := fun q hq => by
   have e := hL q hq
   rw [zc (zi e hp)]
   exact e
  refine ⟨p, rfl, L, SqL.of z7, hL', ?_⟩
  have b12 := b11.new hp (.lst (L.map fun q => V.ref q.1))
  have gx12 := z1h (o2 := .lst (L.map fun q => V.ref q.1)) gx11 hp
  generalize upd H11 p (.lst (L.map fun q => V.ref q.1)) = G12 at b12 gx12 ⊢
  obtain ⟨F12, eF12⟩ : ∃ z, z = F10 := ⟨_, rfl⟩
  have f12 := f10
  rw [← eF12] at gx12 f12
  generalize z2s [] (L.map fun q => q.2) = dd
  refine fun p12 hp12 => ?_
  have b13 := b12.new hp12 (.dK dd)
  have gx13 := z1h (o2 := .dK dd) gx12 hp12
  have f13 := f12
  have np13 : p12 ≠ x := fun z => by rw [← z, hp12] at gx12; cases gx12
  have gp13 : upd G12 p12 (.dK dd) p12 = _ := z7
  generalize upd G12 p12 (.dK dd) = G13 at b13 gx13 gp13 ⊢
  obtain ⟨F13, eF13⟩ : ∃ z, z = F12 := ⟨_, rfl⟩
  rw [← eF13] at gx13 f13
  refine ⟨_, _, _, gx13, T.cl_World, T.n_World_stores, by have := f13.1; omega, ?_⟩
  have b14 := b13.put (.ins C_World dx (putF (Str.ofString "stores") (.ref p12) F13))
  have gx14 : upd G13 x (.ins C_World dx (putF (Str.ofString "stores") (.ref p12) F13)) x = _ := z7
  have f14 := f13.put ("stores" : Str) (.ref p12) (by decide +kernel) (by decide +kernel)
  generalize upd G13 x (.ins C_World dx (putF (Str.ofString "stores") (.ref p12) F13)) = G14 at b14 gx14 ⊢
  generalize hF14 : putF (Str.ofString "stores") (.ref p12) F13 = F14 at gx14 f14 ⊢
  refine fun p14 hp14 => ?_
  have b15 := b14.new hp14 (.dK [])
  have gx15 := z1h (o2 := .dK []) gx14 hp14
  have f15 := f14
  have np15 : p14 ≠ x := fun z => by rw [← z, hp14] at gx14; cases gx14
  have gp15 : upd G14 p14 (.dK []) p14 = _ := z7
  generalize upd G14 p14 (.dK []) = G15 at b15 gx15 gp15 ⊢
  obtain ⟨F15, eF15⟩ : ∃ z, z = F14 := ⟨_, rfl⟩
  rw [← eF15] at gx15 f15
  refine ⟨_, _, _, gx15, T.cl_World, T.n_World_carries, by have := f15.1; omega, ?_⟩
  have b16 := b15.put (.ins C_World dx (putF (Str.ofString "carries") (.ref p14) F15))
  have gx16 : upd G15 x (.ins C_World dx (putF (Str.ofString "carries") (.ref p14) F15)) x = _ := z7
  have f16 := f15.put ("carries" : Str) (.ref p14) (by decide +kernel) (by decide +kernel)
  generalize upd G15 x (.ins C_World dx (putF (Str.ofString "carries") (.ref p14) F15)) = G16 at b16 gx16 ⊢
  generalize hF16 : putF (Str.ofString "carries") (.ref p14) F15 = F16 at gx16 f16 ⊢
  refine ⟨by decide, fun p16 hp16 => ?_⟩
  have b17 := b16.new hp16 (.lst [])
  have gx17 := z1h (o2 := .lst []) gx16 hp16
  have f17 := f16
  have np17 : p16 ≠ x := fun z => by rw [← z, hp16] at gx16; cases gx16
  have gp17 : upd G16 p16 (.lst []) p16 = _ := z7
  generalize upd G16 p16 (.lst []) = G17 at b17 gx17 gp17 ⊢
  obtain ⟨F17, eF17⟩ : ∃ z, z = F16 := ⟨_, rfl⟩
  rw [← eF17] at gx17 f17
  refine ⟨_, _, _, gx17, T.cl_World, T.n_World_waiting, by have := f17.1; omega, ?_⟩
  have b18 := b17.put (.ins C_World dx (putF (Str.ofString "waiting") (.ref p16) F17))
  have gx18 : upd G17 x (.ins C_World dx (putF (Str.ofString "waiting") (.ref p16) F17)) x = _ := z7
  have f18 := f17.put ("waiting" : Str) (.ref p16) (by decide +kernel) (by decide +kernel)
  generalize upd G17 x (.ins C_World dx (putF (Str.ofString "waiting") (.ref p16) F17)) = G18 at b18 gx18 ⊢
  generalize hF18 : putF (Str.ofString "waiting") (.ref p16) F17 = F18 at gx18 f18 ⊢
  refine fun p18 hp18 => ?_
  have b19 := b18.new hp18 (.dK [])
  have gx19 := z1h (o2 := .dK []) gx18 hp18
  have f19 := f18
  have np19 : p18 ≠ x := fun z => by rw [← z, hp18] at gx18; cases gx18
  have gp19 : upd G18 p18 (.dK []) p18 = _ := z7
  generalize upd G18 p18 (.dK []) = G19 at b19 gx19 gp19 ⊢
  obtain ⟨F19, eF19⟩ : ∃ z, z = F18 := ⟨_, rfl⟩
  rw [← eF19] at gx19 f19
  refine ⟨_, _, _, gx19, T.cl_World, T.n_World_asleep_since, by have := f19.1; omega, ?_⟩
  have b20 := b19.put (.ins C_World dx (putF (Str.ofString "asleep_since") (.ref p18) F19))
  have gx20 : upd G19 x (.ins C_World dx (putF (Str.ofString "asleep_since") (.ref p18) F19)) x = _ := z7
  have f20 := f19.put ("asleep_since" : Str) (.ref p18) (by decide +kernel) (by decide +kernel)
  generalize upd G19 x (.ins C_World dx (putF (Str.ofString "asleep_since") (.ref p18) F19)) = G20 at b20 gx20 ⊢
  generalize hF20 : putF (Str.ofString "asleep_since") (.ref p18) F19 = F20 at gx20 f20 ⊢
  refine ⟨_, _, _, gx20, T.cl_World, T.n_World_pauses, by have := f20.1; omega, ?_⟩
  have b21 := b20.put (.ins C_World dx (putF (Str.ofString "pauses") (.int 0) F20))
  have gx21 : upd G20 x (.ins C_World dx (putF (Str.ofString "pauses") (.int 0) F20)) x = _ := z7
  have f21 := f20.put ("pauses" : Str) (.int 0) (by decide +kernel) (by decide +kernel)
  generalize upd G20 x (.ins C_World dx (putF (Str.ofString "pauses") (.int 0) F20)) = G21 at b21 gx21 ⊢
  generalize hF21 : putF (Str.ofString "pauses") (.int 0) F20 = F21 at gx21 f21 ⊢
  refine ⟨by decide, fun p21 hp21 => ?_⟩
  have b22 := b21.new hp21 (.lst [])
  have gx22 := z1h (o2 := .lst []) gx21 hp21
  have f22 := f21
  have np22 : p21 ≠ x := fun z => by rw [← z, hp21] at gx21; cases gx21
  have gp22 : upd G21 p21 (.lst []) p21 = _ := z7
  generalize upd G21 p21 (.lst []) = G22 at b22 gx22 gp22 ⊢
  obtain ⟨F22, eF22⟩ : ∃ z, z = F21 := ⟨_, rfl⟩
  rw [← eF22] at gx22 f22
  have c22 : Bt x G22 G22 := fun b o e _ => e
  refine ⟨_, _, _, gx22, T.cl_World, T.n_World_logged, by have := f22.1; omega, ?_⟩
  have b23 := b22.put (.ins C_World dx (putF (Str.ofString "logged") (.ref p21) F22))
  have gx23 : upd G22 x (.ins C_World dx (putF (Str.ofString "logged") (.ref p21) F22)) x = _ := z7
  have f23 := f22.put ("logged" : Str) (.ref p21) (by decide +kernel) (by decide +kernel)
  have c23 := c22.put (.ins C_World dx (putF (Str.ofString "logged") (.ref p21) F22))
  generalize upd G22 x (.ins C_World dx (putF (Str.ofString "logged") (.ref p21) F22)) = G23 at b23 gx23 c23 ⊢
  generalize hF23 : putF (Str.ofString "logged") (.ref p21) F22 = F23 at gx23 f23 ⊢
  refine fun p23 hp23 => ?_
  have b24 := b23.new hp23 (.dK [])
  have gx24 := z1h (o2 := .dK []) gx23 hp23
  have f24 := f23
  have np24 : p23 ≠ x := fun z => by rw [← z, hp23] at gx23; cases gx23
  have gp24 : upd G23 p23 (.dK []) p23 = _ := z7
  have c24 := c23.new hp23 (.dK [])
  generalize upd G23 p23 (.dK []) = G24 at b24 gx24 gp24 c24 ⊢
  obtain ⟨F24, eF24⟩ : ∃ z, z = F23 := ⟨_, rfl⟩
  rw [← eF24] at gx24 f24
  refine ⟨_, _, _, gx24, T.cl_World, T.n_World_ends, by have := f24.1; omega, ?_⟩
  have b25 := b24.put (.ins C_World dx (putF (Str.ofString "ends") (.ref p23) F24))
  have gx25 : upd G24 x (.ins C_World dx (putF (Str.ofString "ends") (.ref p23) F24)) x = _ := z7
  have f25 := f24.put ("ends" : Str) (.ref p23) (by decide +kernel) (by decide +kernel)
  have c25 := c24.put (.ins C_World dx (putF (Str.ofString "ends") (.ref p23) F24))
  generalize upd G24 x (.ins C_World dx (putF (Str.ofString "ends") (.ref p23) F24)) = G25 at b25 gx25 c25 ⊢
  generalize hF25 : putF (Str.ofString "ends") (.ref p23) F24 = F25 at gx25 f25 ⊢
  refine q h1 G25 p21 F25 gx25 f25.2.1 ?_ (c25 _ _ gp22 np22) f25.2.2 b25
  rw [← hF25, z1y, if_neg (by decide +kernel), eF24, ← hF23, z1y, if_pos rfl]
def zb8 (CW : Addr) : Sp := fun vs H Q _ => ∃ (x dx pl : Addr) (fs : List (Str × V)), vs = [.ref x] ∧ H x = some (.ins CW dx fs) ∧ fs.lookup ("logged" : Str) = some (.ref pl) ∧ H pl = some (.lst []) ∧ ∀ (r : Addr) (H' : Hp), H r = none → H' r = some (.lst []) → Same H H' → Q (.ref r) H'
theorem z85 (F : MDef K C_World "log" "World.log" z3m ["self"]) (T : Txt K mg C_BadSetup C_Council C_GateError C_Keeper C_Store C_World t_MOST_HOLDERS t_MOST_KEEPERS t_MOST_LOCKS t_MOST_NAMES t_MOST_SIGNS t_MOST_STORES t_NAME_SIGNS) : MHas P w K mg base CX0 1 C_World "log" ["self"] (zb8 C_World) := by
 refine F.ok z7y (fun vs H Q E h => ?_) (fun f cdv A outer s H vs Q E hr h => ?_)
 ·obtain ⟨x, dx, pl, fs, rfl, _⟩ := h
  rfl
 ·obtain ⟨x, dx, pl, fs, rfl, hx, hf, hp, q⟩ := h
  refine ⟨_, (@za _ _ _ (@zk _ _ _ _ (@z1e _ _ _ _ _ _ _ _ _ z24 rfl T.b_list (by decide +kernel) (@z0 _ _ _ _ _ (@z7j _ _ _ _ _ (pv 0) rfl) z5 rfl) (by decide) (by decide) rfl rfl))), ?_⟩
  walk_at "rd"
  refine ⟨_, _, _, hx, T.cl_World, T.n_World_logged, _, hf, _, rfl, _, .inl (SqL.of hp), fun r hr => ?_⟩
  exact q r _ hr z7 (Same.upd hr)
def z86 : Sp := fun vs H Q _ => ∃ (c : Int) (k : Nat), vs = [.int c, .int k] ∧ k ≤ 10 ∧ ∀ z : Str, z.length ≤ 16 → Q (.str z) H
theorem z87 (F : Def K mg "_law_name" z3n ["_law_cell", "_law_k"]) (T : Txt K mg C_BadSetup C_Council C_GateError C_Keeper C_Store C_World t_MOST_HOLDERS t_MOST_KEEPERS t_MOST_LOCKS t_MOST_NAMES t_MOST_SIGNS t_MOST_STORES t_NAME_SIGNS) : Has P w K mg base 1 "_law_name" ["_law_cell", "_law_k"] (z86) := by
 refine F.ok sc__law_name (fun vs H Q E h => ?_) (fun f cdv A outer s H vs Q E hr h => ?_)
 ·obtain ⟨c, k, rfl, _⟩ := h
  rfl
 ·obtain ⟨c, k, rfl, hk, q⟩ := h
  have hu := hr.units0
  refine ⟨_, (@z9 _ _ _ _ _ (@zo _ _ 2 _ _ _ _ sc__law_name.nd rfl (Or.inl rfl) z1d rfl (Or.inr rfl)) (@z9 _ _ _ _ _ (@zo _ _ 3 _ _ _ _ sc__law_name.nd rfl (Or.inl rfl) (@zd _ _ _ _ _ _ _ _ z13 (pv 0) z6) rfl (Or.inr rfl)) (@z9 _ _ _ _ _ (@zr _ _ _ _ _ _ _ _ (@zh _ _ _ _ _ _ _ _ z1l (@zd _ _ _ _ _ _ _ _ zx (pv 0) z6) z6 (zf _)) (@z9 _ _ _ _ _ (@zr _ _ _ _ _ _ _ _ (@zh _ _ _ _ _ _ _ _ z99 (pv 1) z6 (zf _)) (@za _ _ _ (@zk _ _ _ _ (@zd _ _ _ _ _ _ _ _ z27 (@zp _ _ _ _ _ _ _ z31 (pv 2) (@zd _ _ _ _ _ _ _ _ zx (@zd _ _ _ _ _ _ _ _ z1b (pv 3) z6) z6) (fun _ _ => rfl)) (@zd _ _ _ _ _ _ _ _ z5u (@zp _ _ _ _ _ _ _ z31 (pv 2) (@zd _ _ _ _ _ _ _ _ zx (pv 3) z6) (fun _ _ => rfl)) (@zd _ _ _ _ _ _ _ _ z2r (pv 1) z6))))) zl) (@za _ _ _ (@zk _ _ _ _ (@zd _ _ _ _ _ _ _ _ z5u (@zp _ _ _ _ _ _ _ z31 (pv 2) (@zd _ _ _ _ _ _ _ _ zx (pv 3) z6) (fun _ _ => rfl)) (@zd _ _ _ _ _ _ _ _ z1b (pv 1) z6))))) zl) (@z9 _ _ _ _ _ (@zr _ _ _ _ _ _ _ _ (@zh _ _ _ _ _ _ _ _ z1l (@zd _ _ _ _ _ _ _ _ zx (pv 0) z6) z6 (zf _)) (@za _ _ _ (@zk _ _ _ _ (@zd _ _ _ _ _ _ _ _ z27 (@zp _ _ _ _ _ _ _ z31 (pv 2) (@zd _ _ _ _ _ _ _ _ zx (@zd _ _ _ _ _ _ _ _ z1b (pv 3) (@zd _ _ _ _ _ _ _ _ z5l z6 (pv 1))) z6) (fun _ _ => rfl)) (@zbg _ _ _ _ _ _ _ _ _ _ zda z1d zcj (@zck _ _ _ (@zd _ _ _ _ _ _ _ _ zx (@zd _ _ _ _ _ _ _ _ z1b (@zd _ _ _ _ _ _ _ _ z13 (pv 3) z6) (@zd _ _ _ _ _ _ _ _ z5l z6 (pv 1))) z6)))))) zl) (@z9 _ _ _ _ _ (@zo _ _ 4 _ _ _ _ sc__law_name.nd rfl (Or.inl rfl) (@zd _ _ _ _ _ _ _ _ z1b z6 (@zd _ _ _ _ _ _ _ _ zx (pv 3) z6)) rfl (Or.inr rfl)) (@z9 _ _ _ _ _ (@zo _ _ 5 _ _ _ _ sc__law_name.nd rfl (Or.inl rfl) (@zd _ _ _ _ _ _ _ _ zx (@zd _ _ _ _ _ _ _ _ z13 (pv 3) z6) (pv 4)) rfl (Or.inr rfl)) (@z9 _ _ _ _ _ (@zo _ _ 6 _ _ _ _ sc__law_name.nd rfl (Or.inl rfl) z1d rfl (Or.inr rfl)) (@z9 _ _ _ _ _ (@z49 _ _ _ _ _ _ _ _ PassesOwn.never rfl (@z1u _ _ _ _ _ _ rfl T.b_range (@z0 _ _ _ _ _ (pv 4) z5 rfl) rfl) (@z3r _ _ 7 _ sc__law_name.nd rfl (Or.inl rfl) (Or.inr rfl)) (@z9 _ _ _ _ _ (@zo _ _ 8 _ _ _ _ sc__law_name.nd rfl (Or.inl rfl) (@zd _ _ _ _ _ _ _ _ z1b (@zd _ _ _ _ _ _ _ _ z13 (pv 3) z6) (@zd _ _ _ _ _ _ _ _ z5l z6 (pv 7))) rfl (Or.inr rfl)) (@z1z _ _ _ _ _ (@zr _ _ _ _ _ _ _ _ (@zh _ _ _ _ _ _ _ _ z1l (pv 7) (pv 5) (zf _)) (@za _ _ _ (@zo _ _ 8 _ _ _ _ sc__law_name.nd rfl (Or.inl rfl) (@zd _ _ _ _ _ _ _ _ z1b (@zd _ _ _ _ _ _ _ _ z13 (pv 3) z6) (@zd _ _ _ _ _ _ _ _ z5l z6 (pv 1))) rfl (Or.inr rfl))) zl) (@za _ _ _ (@zo _ _ 6 _ _ _ _ sc__law_name.nd rfl (Or.inl rfl) (@zd _ _ _ _ _ _ _ _ z27 (pv 6) (@zp _ _ _ _ _ _ _ z31 (pv 2) (@zd _ _ _ _ _ _ _ _ zx (pv 8) z6) (fun _ _ => rfl))) rfl (Or.inr rfl))))) (by intro _; rfl)) (@za _ _ _ (@zk _ _ _ _ (pv 6))))))))))), ?_⟩
  walk_at "rd"
  have sgn : ∀ (j : Int) (R : VK), 0 ≤ j → j < 36 → (∀ d : Nat, R (.str ⟨#[d]⟩) H) → rIxS (V.str "abcdefghijklmnopqrstuvwxyz0123456789") (V.int j) H R := fun j R h0 h1 k => by
   obtain ⟨d, hd⟩ := zdi j h0 h1
   exact ⟨abc, _, d, rfl, rfl, by decide, hd, k d⟩
  refine ⟨cdiv (by decide) (by decide), by decide, ite2 (fun _ => ite2 (fun h8 => ?_) (fun h8 => ?_)) (fun _ => ⟨by decide, ite2 (fun _ => ?_) (fun _ => ?_)⟩)⟩
  ·have h8' : 8 ≤ k := by have := of_decide_eq_true h8; omega
   have e7 : (k : Int) - 7 = ((k - 7 : Nat) : Int) := by omega
   rw [e7]
   refine ⟨by decide, sgn _ _ (by omega) (by omega) fun d => ⟨by decide, sgn _ _ (by omega) (by omega) fun d' => ⟨_, rfl, zb4 (by omega), _, rfl, ?_, q _ ?_⟩⟩⟩
   ·rw [z6c]
    exact zj (by show 1 + _ ≤ _; omega)
   ·rw [PySem.Str.length_append, z6c]
    show 1 + _ ≤ _
    omega
  ·have e7 : (k : Int) + 1 = ((k + 1 : Nat) : Int) := by omega
   rw [e7]
   refine ⟨by decide, sgn _ _ (by omega) (by omega) fun d => ⟨_, rfl, zb4 (by omega), q _ ?_⟩⟩
   rw [z6c]
   omega
  ·have l7 : ∀ u, (Txt.slice ("k0stemz" : Str) none u).length ≤ 7 := fun u => Txt.slice_le _ _ _
   refine ⟨.inl ⟨by decide, by decide⟩, by decide, sgn _ _ (by omega) (by omega) fun d => ⟨cdiv (by decide) (by decide), .inl ⟨by decide, by decide⟩, by decide, by decide, _, rfl, ?_, q _ ?_⟩⟩
   ·have := l7 (some ((c / 3 / 36 + 3 * (k : Int)) % 8))
    exact zj (by show 1 + _ ≤ _; omega)
   ·have := l7 (some ((c / 3 / 36 + 3 * (k : Int)) % 8))
    rw [PySem.Str.length_append]
    show 1 + _ ≤ _
    omega
  ·refine ⟨by decide, cdiv (by decide) (by decide), by omega, ⟨by omega, by omega⟩, ?_⟩
   refine z52 (fun i σ H' => H' = H ∧ ∃ (z : Str) (v v' : Option V), σ = [some (V.int c), some (V.int k), some (V.str "abcdefghijklmnopqrstuvwxyz0123456789"), some (V.int (c / 3)), some (V.int (1 + c / 3 % 8)), some (V.int (c / 3 / 8 % (1 + c / 3 % 8))), some (V.str z), v, v'] ∧ z.length = i) ⟨rfl, _, _, _, rfl, rfl⟩ ?_ ?_
   ·rintro Pv hP i σ H' hi ⟨rfl, z, v, v', rfl, hz⟩
    walk_at "rd"
    refine ⟨cdiv (by decide) (by decide), .inl ⟨by decide, by decide⟩, ?_⟩
    refine z2p (fun σ H2 => H2 = H' ∧ ∃ (r : Int), σ = [some (V.int c), some (V.int k), some (V.str "abcdefghijklmnopqrstuvwxyz0123456789"), some (V.int (c / 3)), some (V.int (1 + c / 3 % 8)), some (V.int (c / 3 / 8 % (1 + c / 3 % 8))), some (V.str z), some (V.int (0 + i)), some (V.int r)]) (fun Mid hM => ?_) ?_
    ·walk_at "rd"
     exact ite2 (fun _ => ⟨cdiv (by decide) (by decide), .inl ⟨by decide, by decide⟩, hM _ _ ⟨rfl, _, rfl⟩⟩) (fun _ => hM _ _ ⟨rfl, _, rfl⟩)
    ·rintro σ H2 ⟨rfl, r, rfl⟩
     walk_at "rd"
     refine ⟨by decide, sgn _ _ (by omega) (by omega) fun d => ⟨_, rfl, zj (by show _ + 1 ≤ _; omega), hP _ _ _ ⟨rfl, _, _, _, rfl, ?_⟩⟩⟩
     rw [PySem.Str.length_append]
     show _ + 1 = _
     omega
   ·rintro σ H' ⟨rfl, z, v, v', rfl, hz⟩
    walk_at "rd"
    exact q z (by omega)
def z93 : Sp := fun vs H Q _ => ∃ (c : Int) (m : Nat), vs = [.int c, .int m] ∧ m ≤ 10 ∧ ∀ (r : Addr) (zs : List Str) (H' : Hp), zs.length = m → (∀ z ∈ zs, z.length ≤ 16) → H r = none → H' r = some (.lst (zs.map V.str)) → Same H H' → Q (.ref r) H'
theorem z73 (F : Def K mg "_law_names" z3a ["_law_cell", "_law_many"]) (T : Txt K mg C_BadSetup C_Council C_GateError C_Keeper C_Store C_World t_MOST_HOLDERS t_MOST_KEEPERS t_MOST_LOCKS t_MOST_NAMES t_MOST_SIGNS t_MOST_STORES t_NAME_SIGNS) (G__law_name : Has P w K mg base 1 "_law_name" ["_law_cell", "_law_k"] (z86)) : Has P w K mg base 2 "_law_names" ["_law_cell", "_law_many"] (z93) := by
 refine F.ok z70 (fun vs H Q E h => ?_) (fun f cdv A outer s H vs Q E hr h => ?_)
 ·obtain ⟨c, m, rfl, _⟩ := h
  rfl
 ·obtain ⟨c, m, rfl, hm, q⟩ := h
  have hu := hr.units0
  refine ⟨_, (@za _ _ _ (@zk _ _ _ _ (@z1a _ _ "_law_k" (["_law_cell"]) ([0]) _ _ _ _ _ _ _ _ rfl ⟨rfl, by decide +kernel, by decide +kernel, rfl, zv rfl, by decide +kernel, ⟨⟨rfl, Or.inl rfl, rfl⟩, trivial⟩⟩ (@z1u _ _ _ _ _ _ rfl T.b_range (@z0 _ _ _ _ _ (pv 1) z5 rfl) rfl) (fun _ _ _ _ => z14) (fun _ _ _ _ => (@zu _ _ _ _ _ _ _ _ _ _ G__law_name (hr.mono (by decide)) rfl (@z0 _ _ _ _ _ (pv 1) (@z0 _ _ _ _ _ (pv 0) z5 rfl) rfl) (by decide) rfl rfl)) (by intro _; rfl)))), ?_⟩
  walk_at "rd"
  refine ⟨⟨by omega, by omega⟩, ?_⟩
  rw [Int.toNat_natCast]
  refine z1t (zj (by omega)) (fun i acc H' => H' = H ∧ ∃ zs : List Str, acc = zs.map V.str ∧ zs.length = i ∧ ∀ z ∈ zs, z.length ≤ 16) ⟨rfl, [], rfl, rfl, by simp⟩ ?_ ?_ ?_
  ·rintro i acc H' ⟨-, zs, rfl, rfl, -⟩
   rw [List.length_map]
   exact Nat.le_refl _
  ·rintro Nn i acc H' hN hi ⟨rfl, zs, rfl, hl, hz⟩
   walk_at "rd"
   refine ⟨c, i, by simp, by omega, fun z hz' => hN _ _ ⟨rfl, zs ++ [z], by simp, by simp [hl], ?_⟩⟩
   intro y hy
   rcases List.mem_append.mp hy with h | h
   ·exact hz y h
   ·have : y = z := by simpa using h
    rw [this]
    exact hz'
  ·rintro acc H' ⟨rfl, zs, rfl, hl, hz⟩ p hp
   exact q p zs _ hl hz hp z7 (Same.upd hp)
def z94 : Sp := fun vs H Q _ => ∃ (c w' : Int) (m : Nat), vs = [.int c, .int w', .int m] ∧ m ≤ 10 ∧ ∀ (r : Addr) (zs : List Str) (H' : Hp), zs.length = m → (∀ z ∈ zs, z.length ≤ 200) → H r = none → H' r = some (.lst (zs.map V.str)) → Same H H' → Q (.ref r) H'
theorem z74 (F : Def K mg "_law_locks" z3b ["_law_cell", "_law_words", "_law_many"]) (T : Txt K mg C_BadSetup C_Council C_GateError C_Keeper C_Store C_World t_MOST_HOLDERS t_MOST_KEEPERS t_MOST_LOCKS t_MOST_NAMES t_MOST_SIGNS t_MOST_STORES t_NAME_SIGNS) (G__law_name : Has P w K mg base 1 "_law_name" ["_law_cell", "_law_k"] (z86)) : Has P w K mg base 2 "_law_locks" ["_law_cell", "_law_words", "_law_many"] (z94) := by
 refine F.ok sc__law_locks (fun vs H Q E h => ?_) (fun f cdv A outer s H vs Q E hr h => ?_)
 ·obtain ⟨c, w', m, rfl, _⟩ := h
  rfl
 ·obtain ⟨c, w', m, rfl, hm, q⟩ := h
  have hu := hr.units0
  refine ⟨_, (@z9 _ _ _ _ _ (@zo _ _ 3 _ _ _ _ sc__law_locks.nd rfl (Or.inl rfl) (@z19 _ _ _ _ z5) rfl (Or.inr rfl)) (@z9 _ _ _ _ _ (@zo _ _ 4 _ _ _ _ sc__law_locks.nd rfl (Or.inl rfl) (@zd _ _ _ _ _ _ _ _ z13 (pv 0) z6) rfl (Or.inr rfl)) (@z9 _ _ _ _ _ (@z49 _ _ _ _ _ _ _ _ PassesOwn.never rfl (@z1u _ _ _ _ _ _ rfl T.b_range (@z0 _ _ _ _ _ (pv 2) z5 rfl) rfl) (@z3r _ _ 5 _ sc__law_locks.nd rfl (Or.inl rfl) (Or.inr rfl)) (@z9 _ _ _ _ _ (@zo _ _ 6 _ _ _ _ sc__law_locks.nd rfl (Or.inl rfl) (@zc1 _ _ _ _ _ _ za3 z6) rfl (Or.inr rfl)) (@z1z _ _ _ _ _ (@zr _ _ _ _ _ _ _ _ (@zh _ _ _ _ _ _ _ _ z1l (@zd _ _ _ _ _ _ _ _ zx (pv 0) z6) z6 (zf _)) (@za _ _ _ (@zo _ _ 6 _ _ _ _ sc__law_locks.nd rfl (Or.inl rfl) (@zd _ _ _ _ _ _ _ _ z2r (pv 5) z6) rfl (Or.inr rfl))) zl) (@z1z _ _ _ _ _ (@zr _ _ _ _ _ _ _ _ (@zh _ _ _ _ _ _ _ _ z1l (@zd _ _ _ _ _ _ _ _ zx (pv 0) z6) z6 (zf _)) (@za _ _ _ (@zo _ _ 6 _ _ _ _ sc__law_locks.nd rfl (Or.inl rfl) (@zd _ _ _ _ _ _ _ _ z2r (@z8 _ _ _ _ _ _ _ _ _ (za7 rfl) rfl T.b_min (by decide +kernel) (@z0 _ _ _ _ _ (pv 5) (@z0 _ _ _ _ _ z6 z5 rfl) rfl) (by decide) (by decide) rfl rfl) z6) rfl (Or.inr rfl))) zl) (@z1z _ _ _ _ _ (@zr _ _ _ _ _ _ _ _ (@zh _ _ _ _ _ _ _ _ z1l (@zd _ _ _ _ _ _ _ _ zx (pv 0) z6) z6 (zf _)) (@za _ _ _ (@zo _ _ 6 _ _ _ _ sc__law_locks.nd rfl (Or.inl rfl) (@zd _ _ _ _ _ _ _ _ z13 (@zd _ _ _ _ _ _ _ _ z2r (pv 5) z6) z6) rfl (Or.inr rfl))) zl) (@z1z _ _ _ _ _ (@zr _ _ _ _ _ _ _ _ (@zh _ _ _ _ _ _ _ _ z99 (@zd _ _ _ _ _ _ _ _ zx (pv 0) z6) z6 (zf _)) (@z9 _ _ _ _ _ (@zo _ _ 6 _ _ _ _ sc__law_locks.nd rfl (Or.inl rfl) (@zd _ _ _ _ _ _ _ _ z2r (@zd _ _ _ _ _ _ _ _ zx (pv 4) (@zd _ _ _ _ _ _ _ _ z1b (pv 5) z6)) z6) rfl (Or.inr rfl)) (@za _ _ _ (@zo _ _ 4 _ _ _ _ sc__law_locks.nd rfl (Or.inl rfl) (@zd _ _ _ _ _ _ _ _ z13 (pv 4) (@zd _ _ _ _ _ _ _ _ z1b (pv 5) z6)) rfl (Or.inr rfl)))) zl) (@z9 _ _ _ _ _ (@zo _ _ 7 _ _ _ _ sc__law_locks.nd rfl (Or.inl rfl) (@zu _ _ _ _ _ _ _ _ _ _ G__law_name (hr.mono (by decide)) rfl (@z0 _ _ _ _ _ (pv 1) (@z0 _ _ _ _ _ (pv 5) z5 rfl) rfl) (by decide) rfl rfl) rfl (Or.inr rfl)) (@z1z _ _ _ _ _ (@zr _ _ _ _ _ _ _ _ (PW.pt (@z5k _ _ _ _ _ _ _ (@zh _ _ _ _ _ _ _ _ z99 (pv 6) z6 (zf _)) (@z4o _ _ _ _ (@zh _ _ _ _ _ _ _ _ z22 (@z40 _ _ _ _ _ _ _ _ _ _ _ _ PySem.F.plainAttrs_str PySem.F.slot_str_count PySem.F.type_str_count zbk (@zp _ _ _ _ _ _ _ ix_list (pv 3) (pv 6) (fun _ _ => rfl)) (@z0 _ _ _ _ _ z1d z5 rfl) rfl rfl rfl rfl rfl) z6 (zf _))))) (@za _ _ _ (@zo _ _ 7 _ _ _ _ sc__law_locks.nd rfl (Or.inl rfl) (@zd _ _ _ _ _ _ _ _ z27 (@zd _ _ _ _ _ _ _ _ z27 (@zp _ _ _ _ _ _ _ ix_list (pv 3) (pv 6) (fun _ _ => rfl)) z1d) (pv 7)) rfl (Or.inr rfl))) zl) (@za _ _ _ (@z4p _ _ _ _ (@z40 _ _ _ _ _ _ _ _ _ _ _ _ PySem.F.plainAttrs_list PySem.F.slot_list_append PySem.F.type_list_append z6k (pv 3) (@z0 _ _ _ _ _ (pv 7) z5 rfl) rfl rfl rfl rfl rfl) rfl))))))))) (by intro _; rfl)) (@za _ _ _ (@zk _ _ _ _ (pv 3)))))), ?_⟩
  walk_at "rd"
  refine ⟨by decide, fun p hp => ⟨cdiv (by decide) (by decide), ⟨by omega, by omega⟩, ?_⟩⟩
  rw [Int.toNat_natCast]
  let Inv := fun (i : Nat) (zs : List Str) (H' : Hp) => zs.length = i ∧ (∀ z ∈ zs, z.length ≤ 20 * i) ∧ H' p = some (.lst (zs.map V.str)) ∧ Same H H'
  refine z52 (fun i σ H' => ∃ (zs : List Str) (r : Int) (v5 v6 v7 : Option V), σ = [some (.int c), some (.int w'), some (.int m), some (.ref p), some (.int r), v5, v6, v7] ∧ Inv i zs H') ⟨[], _, _, _, _, rfl, rfl, (fun z hz => by cases hz), z7, Same.upd hp⟩ ?_ ?_
  ·rintro Pv hP i σ H' hi ⟨zs, r, v5, v6, v7, rfl, hI⟩
   walk_at "rd"
   refine z2p (fun σ H2 => H' = H2 ∧ ∃ (pa r : Int), -1 ≤ pa ∧ pa < i ∧ σ = [some (.int c), some (.int w'), some (.int m), some (.ref p), some (.int r), some (.int (0 + i)), some (.int pa), v7]) (fun Mid hM => ?_) ?_
   ·walk_at "rd"
    exact ⟨by decide, ite2 (fun _ => hM _ _ ⟨rfl, _, _, by omega, by omega, rfl⟩) (fun _ => hM _ _ ⟨rfl, _, _, by omega, by omega, rfl⟩)⟩
   rintro σ H2 ⟨rfl, pa, r, p1, p2, rfl⟩
   refine z2p (fun σ H2 => H' = H2 ∧ ∃ (pa r : Int), -1 ≤ pa ∧ pa < i ∧ σ = [some (.int c), some (.int w'), some (.int m), some (.ref p), some (.int r), some (.int (0 + i)), some (.int pa), v7]) (fun Mid hM => ?_) ?_
   ·walk_at "rd"
    refine ⟨by decide, ite2 (fun _ => ⟨_, _, ⟨rfl, rfl⟩, hM _ _ ⟨rfl, _, _, ?_, ?_, rfl⟩⟩) (fun _ => hM _ _ ⟨rfl, _, _, p1, p2, rfl⟩)⟩ <;> (split <;> omega)
   rintro σ H2 ⟨rfl, pa, r, p1, p2, rfl⟩
   refine z2p (fun σ H2 => H' = H2 ∧ ∃ (pa r : Int), -1 ≤ pa ∧ pa < i ∧ σ = [some (.int c), some (.int w'), some (.int m), some (.ref p), some (.int r), some (.int (0 + i)), some (.int pa), v7]) (fun Mid hM => ?_) ?_
   ·walk_at "rd"
    exact ⟨by decide, ite2 (fun _ => ⟨cdiv (by decide) (by decide), hM _ _ ⟨rfl, _, _, by omega, by omega, rfl⟩⟩) (fun _ => hM _ _ ⟨rfl, _, _, p1, p2, rfl⟩)⟩
   rintro σ H2 ⟨rfl, pa, r, p1, p2, rfl⟩
   refine z2p (fun σ H2 => H' = H2 ∧ ∃ (pa r : Int), -1 ≤ pa ∧ pa < i ∧ σ = [some (.int c), some (.int w'), some (.int m), some (.ref p), some (.int r), some (.int (0 + i)), some (.int pa), v7]) (fun Mid hM => ?_) ?_
   ·walk_at "rd"
    have b1 := Int.emod_nonneg r (b := 0 + (i : Int) + 1) (by omega)
    have b2 := Int.emod_lt_of_pos r (b := 0 + (i : Int) + 1) (by omega)
    exact ⟨by decide, ite2 (fun _ => ⟨by omega, cdiv (by omega) (by omega), hM _ _ ⟨rfl, _, _, by omega, by omega, rfl⟩⟩) (fun _ => hM _ _ ⟨rfl, _, _, p1, p2, rfl⟩)⟩
   rintro σ H2 ⟨rfl, pa, r, p1, p2, rfl⟩
   obtain ⟨hl, hz, hg, hs⟩ := hI
   walk_at "rd"
   refine ⟨w', i, by simp, by omega, fun z hz16 => ?_⟩
   refine z2p (fun σ H2 => H' = H2 ∧ ∃ z : Str, z.length ≤ 20 * (i + 1) ∧ σ = [some (.int c), some (.int w'), some (.int m), some (.ref p), some (.int r), some (.int (0 + i)), some (.int pa), some (.str z)]) (fun Mid hM => ?_) ?_
   ·walk_at "rd"
    refine ite2 (fun h0 => ?_) (fun _ => hM _ _ ⟨rfl, z, by omega, rfl⟩)
    obtain ⟨n, rfl⟩ := Int.eq_ofNat_of_zero_le (of_decide_eq_true h0)
    have hn : n < zs.length := by omega
    have gn : (zs.map V.str)[n]? = some (.str zs[n]) := by rw [List.getElem?_map, List.getElem?_eq_getElem hn]; rfl
    have bn := hz _ (List.getElem_mem hn)
    have l1 : ("/" : Str).length = 1 := rfl
    refine ⟨_, _, _, _, rfl, rfl, SqL.of hg, zb gn, trivial, _, rfl, ite2 (fun _ => ?_) (fun _ => hM _ _ ⟨rfl, z, by omega, rfl⟩)⟩
    refine ⟨_, _, _, _, rfl, rfl, SqL.of hg, zb gn, _, rfl, zj (by omega), zj (by rw [PySem.Str.length_append]; omega), hM _ _ ⟨rfl, _, ?_, rfl⟩⟩
    rw [PySem.Str.length_append, PySem.Str.length_append]
    omega
   rintro σ H2 ⟨rfl, y, hy, rfl⟩
   walk_at "rd"
   refine ⟨.inl ⟨_, SqL.of hg⟩, _, _, _, rfl, rfl, hg, by rw [List.length_map]; exact z3f (by omega), hP _ _ _ ⟨zs ++ [y], _, _, _, _, rfl, by simp [hl], fun x hx => ?_, ?_, ?_⟩⟩
   ·rcases List.mem_append.mp hx with h | h
    ·have := hz x h
     omega
    ·have : x = y := by simpa using h
     rw [this]
     exact hy
   ·rw [z7, List.map_append]
    rfl
   ·intro b o e
    rw [zc (zi e hp)]
    exact hs b o e
  ·rintro σ H' ⟨zs, r, v5, v6, v7, rfl, hl, hz, hg, hs⟩
   walk_at "rd"
   exact q p zs H' hl (fun z h => by have := hz z h; omega) hp hg hs
def zb9 : Sp := fun vs H Q _ => ∃ (c : Int) (p : Addr) (zs : List Str), vs = [.int c, .ref p] ∧ H p = some (.lst (zs.map V.str)) ∧ zs.length ≤ 10 ∧ ∀ (r : Addr) (ys : List Str) (H' : Hp), ys.length ≤ 10 → (∀ y ∈ ys, y ∈ zs) → H r = none → H' r = some (.lst (ys.map V.str)) → Same H H' → Q (.ref r) H'
theorem z88 (F : Def K mg "_law_some" z3o ["_law_cell", "_law_names_here"]) (T : Txt K mg C_BadSetup C_Council C_GateError C_Keeper C_Store C_World t_MOST_HOLDERS t_MOST_KEEPERS t_MOST_LOCKS t_MOST_NAMES t_MOST_SIGNS t_MOST_STORES t_NAME_SIGNS) : Has P w K mg base 1 "_law_some" ["_law_cell", "_law_names_here"] (zb9) := by
 refine F.ok sc__law_some (fun vs H Q E h => ?_) (fun f cdv A outer s H vs Q E hr h => ?_)
 ·obtain ⟨c, p, zs, rfl, _⟩ := h
  rfl
 ·obtain ⟨c, p, zs, rfl, hp, hl, q⟩ := h
  refine ⟨_, (@z9 _ _ _ _ _ (@zo _ _ 2 _ _ _ _ sc__law_some.nd rfl (Or.inl rfl) (@z19 _ _ _ _ z5) rfl (Or.inr rfl)) (@z9 _ _ _ _ _ (@zo _ _ 3 _ _ _ _ sc__law_some.nd rfl (Or.inl rfl) (pv 0) rfl (Or.inr rfl)) (@z9 _ _ _ _ _ (@z49 _ _ _ _ _ _ _ _ PassesOwn.never rfl (@z1m _ _ _ _ (pv 1)) (@z3r _ _ 4 _ sc__law_some.nd rfl (Or.inl rfl) (Or.inr rfl)) (@z1z _ _ _ _ _ (@zr _ _ _ _ _ _ _ _ (@zh _ _ _ _ _ _ _ _ z1l (@zd _ _ _ _ _ _ _ _ zx (pv 3) z6) z6 (zf _)) (@za _ _ _ (@z4p _ _ _ _ (@z40 _ _ _ _ _ _ _ _ _ _ _ _ PySem.F.plainAttrs_list PySem.F.slot_list_append PySem.F.type_list_append z6k (pv 2) (@z0 _ _ _ _ _ (pv 4) z5 rfl) rfl rfl rfl rfl rfl) rfl)) zl) (@za _ _ _ (@zo _ _ 3 _ _ _ _ sc__law_some.nd rfl (Or.inl rfl) (@zd _ _ _ _ _ _ _ _ z13 (pv 3) z6) rfl (Or.inr rfl)))) (by intro _; rfl)) (@za _ _ _ (@zk _ _ _ _ (pv 2)))))), ?_⟩
  walk_at "rd"
  refine ⟨Nat.zero_le _, fun r hr0 => ⟨⟨_, SqL.of (Same.upd hr0 _ _ hp)⟩, ?_⟩⟩
  have npr : p ≠ r := zi hp hr0
  refine z5t (xs := zs.map V.str) (fun i σ H' => ∃ (c' : Int) (v4 : Option V) (ys : List Str), σ = [some (V.int c), some (V.ref p), some (V.ref r), some (V.int c'), v4] ∧ ys.length ≤ i ∧ (∀ y ∈ ys, y ∈ zs) ∧ H' r = some (.lst (ys.map V.str)) ∧ Same H H') ⟨c, _, [], rfl, Nat.le_refl _, (fun y hy => by cases hy), z7, Same.upd hr0⟩ ?_ ?_ ?_
  ·rintro i σ H' - ⟨c', v4, ys, rfl, -, -, -, s1⟩
   exact SqL.of (s1 _ _ hp)
  ·rintro Pv hP i x σ H' hx ⟨c', v4, ys, rfl, ly, my, gr, s1⟩
   rw [List.getElem?_map] at hx
   cases e : zs[i]? with
   | none => rw [e] at hx; cases hx
   | some z =>
   rw [e] at hx
   cases hx
   walk_at "rd"
   have mz := List.mem_of_getElem? e
   have il : i < zs.length := (List.getElem?_eq_some_iff.mp e).1
   refine z2p (fun σ H2 => ∃ ys : List Str, σ = [some (V.int c), some (V.ref p), some (V.ref r), some (V.int c'), some (V.str z)] ∧ ys.length ≤ i + 1 ∧ (∀ y ∈ ys, y ∈ zs) ∧ H2 r = some (.lst (ys.map V.str)) ∧ Same H H2) (fun Mid hM => ?_) ?_
   ·walk_at "rd"
    refine ⟨by decide, ite2 (fun _ => ?_) (fun _ => hM _ _ ⟨ys, rfl, by omega, my, gr, s1⟩)⟩
    refine ⟨.inl ⟨_, SqL.of gr⟩, _, _, _, rfl, rfl, gr, z3f (by rw [List.length_map]; omega), hM _ _ ⟨ys ++ [z], rfl, by rw [List.length_append]; show _ + 1 ≤ _; omega, fun y hy => ?_, by rw [z7]; simp, fun b o hb => ?_⟩⟩
    ·rcases List.mem_append.mp hy with hy | hy
     ·exact my y hy
     ·rw [List.mem_singleton.mp hy]; exact mz
    ·rw [zc (zi hb hr0)]; exact s1 _ _ hb
   ·rintro σ H2 ⟨ys, rfl, ly, my, gr, s1⟩
    walk_at "rd"
    exact ⟨cdiv (by decide) (by decide), hP _ _ _ ⟨_, _, ys, rfl, ly, my, gr, s1⟩⟩
  ·rintro σ H' ⟨c', v4, ys, rfl, ly, my, gr, s1⟩
   walk_at "rd"
   rw [List.length_map] at ly
   exact q r ys H' (by omega) my hr0 gr s1
structure Su where
 n : Nat
 ph : Addr
 pl : Addr
 pc : Addr
 pt : Addr
 hs : List Str
 lks : List Str
 shs : List Str
 sts : List Str
structure SuAt (H : Hp) (a : Addr) (u : Su) : Prop where
 tu : H a = some (.tup [.int (u.n : Int), .ref u.ph, .ref u.pl, .ref u.pc, .ref u.pt])
 gh : H u.ph = some (.lst (u.hs.map V.str))
 gl : H u.pl = some (.lst (u.lks.map V.str))
 gc : H u.pc = some (.lst (u.shs.map V.str))
 gt : H u.pt = some (.lst (u.sts.map V.str))
structure Su.ok (u : Su) : Prop where
 n1 : 1 ≤ u.n
 n5 : u.n ≤ 5
 h1 : 1 ≤ u.hs.length
 h8 : u.hs.length ≤ 8
 l1 : 1 ≤ u.lks.length
 l10 : u.lks.length ≤ 10
 c10 : u.shs.length ≤ 10
 t4 : u.sts.length ≤ 4
 hl : ∀ z ∈ u.hs, z.length ≤ 16
 ll : ∀ z ∈ u.lks, z.length ≤ 200
 cl : ∀ z ∈ u.shs, z.length ≤ 200
 tl : ∀ z ∈ u.sts, z.length ≤ 16
theorem SuAt.mono {H H' : Hp} {a : Addr} {u : Su} (h : SuAt H a u) (s : Same H H') : SuAt H' a u := ⟨s _ _ h.tu, s _ _ h.gh, s _ _ h.gl, s _ _ h.gc, s _ _ h.gt⟩
def z95 (K : PySem.W.Frag) : Sp := fun vs H Q _ => ∃ (a : Addr) (ns : List Int), vs = [.ref a] ∧ SqL K H a (ns.map V.int) ∧ ns.length ≤ 63 ∧ ∀ (r : Addr) (u : Su) (H' : Hp), SuAt H' r u → u.ok → Same H H' → Q (.ref r) H'
theorem z75 (F : Def K mg "_law_setup" z3c ["_law_script"]) (T : Txt K mg C_BadSetup C_Council C_GateError C_Keeper C_Store C_World t_MOST_HOLDERS t_MOST_KEEPERS t_MOST_LOCKS t_MOST_NAMES t_MOST_SIGNS t_MOST_STORES t_NAME_SIGNS) (G__law_at : Has P w K mg base 1 "_law_at" ["_law_script", "_law_k"] (spAt K)) (G__law_names : Has P w K mg base 2 "_law_names" ["_law_cell", "_law_many"] (z93)) (G__law_locks : Has P w K mg base 2 "_law_locks" ["_law_cell", "_law_words", "_law_many"] (z94)) (G__law_some : Has P w K mg base 1 "_law_some" ["_law_cell", "_law_names_here"] (zb9)) : Has P w K mg base 3 "_law_setup" ["_law_script"] (z95 K) := by
 refine F.ok sc__law_setup (fun vs H Q E h => ?_) (fun f cdv A outer s H vs Q E hr h => ?_)
 ·obtain ⟨a, ns, rfl, _⟩ := h
  rfl
 ·obtain ⟨a, ns, rfl, ha, hns, q⟩ := h
  have hu := hr.units0
  refine ⟨_, (@z9 _ _ _ _ _ (@zo _ _ 1 _ _ _ _ sc__law_setup.nd rfl (Or.inl rfl) (@zd _ _ _ _ _ _ _ _ z1b z6 (@zd _ _ _ _ _ _ _ _ zx (@zu _ _ _ _ _ _ _ _ _ _ G__law_at (hr.mono (by decide)) rfl (@z0 _ _ _ _ _ (pv 0) (@z0 _ _ _ _ _ z6 z5 rfl) rfl) (by decide) rfl rfl) z6)) rfl (Or.inr rfl)) (@z9 _ _ _ _ _ (@zo _ _ 2 _ _ _ _ sc__law_setup.nd rfl (Or.inl rfl) (@zu _ _ _ _ _ _ _ _ _ _ G__law_names (hr.mono (by decide)) rfl (@z0 _ _ _ _ _ (@zd _ _ _ _ _ _ _ _ z13 (@zu _ _ _ _ _ _ _ _ _ _ G__law_at (hr.mono (by decide)) rfl (@z0 _ _ _ _ _ (pv 0) (@z0 _ _ _ _ _ z6 z5 rfl) rfl) (by decide) rfl rfl) z6) (@z0 _ _ _ _ _ (@zd _ _ _ _ _ _ _ _ z1b z6 (@zd _ _ _ _ _ _ _ _ zx (@zd _ _ _ _ _ _ _ _ z1b (@zu _ _ _ _ _ _ _ _ _ _ G__law_at (hr.mono (by decide)) rfl (@z0 _ _ _ _ _ (pv 0) (@z0 _ _ _ _ _ z6 z5 rfl) rfl) (by decide) rfl rfl) z6) z6)) z5 rfl) rfl) (by decide) rfl rfl) rfl (Or.inr rfl)) (@z9 _ _ _ _ _ (@zo _ _ 3 _ _ _ _ sc__law_setup.nd rfl (Or.inl rfl) (@zu _ _ _ _ _ _ _ _ _ _ G__law_locks (hr.mono (by decide)) rfl (@z0 _ _ _ _ _ (@zu _ _ _ _ _ _ _ _ _ _ G__law_at (hr.mono (by decide)) rfl (@z0 _ _ _ _ _ (pv 0) (@z0 _ _ _ _ _ z6 z5 rfl) rfl) (by decide) rfl rfl) (@z0 _ _ _ _ _ (@zd _ _ _ _ _ _ _ _ z13 (@zu _ _ _ _ _ _ _ _ _ _ G__law_at (hr.mono (by decide)) rfl (@z0 _ _ _ _ _ (pv 0) (@z0 _ _ _ _ _ z6 z5 rfl) rfl) (by decide) rfl rfl) z6) (@z0 _ _ _ _ _ (@zd _ _ _ _ _ _ _ _ z1b z6 (@zd _ _ _ _ _ _ _ _ zx (@zd _ _ _ _ _ _ _ _ z1b (@zu _ _ _ _ _ _ _ _ _ _ G__law_at (hr.mono (by decide)) rfl (@z0 _ _ _ _ _ (pv 0) (@z0 _ _ _ _ _ z6 z5 rfl) rfl) (by decide) rfl rfl) z6) z6)) z5 rfl) rfl) rfl) (by decide) rfl rfl) rfl (Or.inr rfl)) (@z9 _ _ _ _ _ (@zo _ _ 4 _ _ _ _ sc__law_setup.nd rfl (Or.inl rfl) (@zu _ _ _ _ _ _ _ _ _ _ G__law_some (hr.mono (by decide)) rfl (@z0 _ _ _ _ _ (@zd _ _ _ _ _ _ _ _ z2r (@zd _ _ _ _ _ _ _ _ z13 (@zu _ _ _ _ _ _ _ _ _ _ G__law_at (hr.mono (by decide)) rfl (@z0 _ _ _ _ _ (pv 0) (@z0 _ _ _ _ _ z6 z5 rfl) rfl) (by decide) rfl rfl) z6) z6) (@z0 _ _ _ _ _ (pv 3) z5 rfl) rfl) (by decide) rfl rfl) rfl (Or.inr rfl)) (@z9 _ _ _ _ _ (@zo _ _ 5 _ _ _ _ sc__law_setup.nd rfl (Or.inl rfl) (@zu _ _ _ _ _ _ _ _ _ _ G__law_names (hr.mono (by decide)) rfl (@z0 _ _ _ _ _ (@zd _ _ _ _ _ _ _ _ z13 (@zu _ _ _ _ _ _ _ _ _ _ G__law_at (hr.mono (by decide)) rfl (@z0 _ _ _ _ _ (pv 0) (@z0 _ _ _ _ _ z6 z5 rfl) rfl) (by decide) rfl rfl) z6) (@z0 _ _ _ _ _ (@zp _ _ _ _ _ _ _ ix_list (@z19 _ _ _ _ (@z0 _ _ _ _ _ z6 (@z0 _ _ _ _ _ z6 (@z0 _ _ _ _ _ z6 (@z0 _ _ _ _ _ z6 (@z0 _ _ _ _ _ z6 (@z0 _ _ _ _ _ z6 (@z0 _ _ _ _ _ z6 (@z0 _ _ _ _ _ z6 z5 rfl) rfl) rfl) rfl) rfl) rfl) rfl) rfl)) (@zd _ _ _ _ _ _ _ _ zx (@zu _ _ _ _ _ _ _ _ _ _ G__law_at (hr.mono (by decide)) rfl (@z0 _ _ _ _ _ (pv 0) (@z0 _ _ _ _ _ z6 z5 rfl) rfl) (by decide) rfl rfl) z6) (fun _ _ => rfl)) z5 rfl) rfl) (by decide) rfl rfl) rfl (Or.inr rfl)) (@za _ _ _ (@zk _ _ _ _ (@z2z _ _ _ _ _ (@z0 _ _ _ _ _ (pv 1) (@z0 _ _ _ _ _ (pv 2) (@z0 _ _ _ _ _ (pv 3) (@z0 _ _ _ _ _ (pv 4) (@z0 _ _ _ _ _ (pv 5) z5 rfl) rfl) rfl) rfl) rfl))))))))), ?_⟩
  walk_at "rd"
  refine ⟨a, ns, 0, rfl, ha, by omega, _, rfl, by decide, ?_⟩
  obtain ⟨n, en⟩ := Int.eq_ofNat_of_zero_le (show 0 ≤ 1 + ns.getD 0 0 % 5 by omega)
  rw [en]
  refine ⟨a, ns, 0, rfl, ha, by omega, _, rfl, cdiv (by decide) (by decide), a, ns, 1, rfl, ha, by omega, _, rfl, by decide, ?_⟩
  obtain ⟨m, em⟩ := Int.eq_ofNat_of_zero_le (show 0 ≤ 1 + (ns.getD 1 0 + 2) % 8 by omega)
  rw [em]
  refine ⟨_, m, rfl, by omega, fun ph hz H1 hl1 hN1 hp0 gh s1 => ?_⟩
  refine ⟨a, ns, 2, rfl, s1.seq ha, by omega, a, ns, 1, rfl, s1.seq ha, by omega, _, rfl, cdiv (by decide) (by decide), a, ns, 3, rfl, s1.seq ha, by omega, _, rfl, by decide, ?_⟩
  obtain ⟨m2, em2⟩ := Int.eq_ofNat_of_zero_le (show 0 ≤ 1 + (ns.getD 3 0 + 2) % 10 by omega)
  rw [em2]
  refine ⟨_, _, m2, rfl, by omega, fun pl lz H2 hl2 hN2 lp0 gl s2 => ?_⟩
  have s12 := s1.trans s2
  refine ⟨a, ns, 3, rfl, s12.seq ha, by omega, _, rfl, cdiv (by decide) (by decide), ?_⟩
  refine ⟨_, pl, lz, rfl, gl, by omega, fun pc cz H3 hl3 hN3 cp0 gc s3 => ?_⟩
  have s13 := s12.trans s3
  refine ⟨a, ns, 4, rfl, s13.seq ha, by omega, _, rfl, cdiv (by decide) (by decide), zj (by decide), fun p4 hp4 => ?_⟩
  have u4 := Same.upd (o := .lst [V.int 1, V.int 2, V.int 1, V.int 4, V.int 1, V.int 3, V.int 0, V.int 1]) hp4
  have g4 : upd H3 p4 (.lst [V.int 1, V.int 2, V.int 1, V.int 4, V.int 1, V.int 3, V.int 0, V.int 1]) p4 = some (.lst [V.int 1, V.int 2, V.int 1, V.int 4, V.int 1, V.int 3, V.int 0, V.int 1]) := z7
  generalize upd H3 p4 (.lst [V.int 1, V.int 2, V.int 1, V.int 4, V.int 1, V.int 3, V.int 0, V.int 1]) = H4 at u4 g4 ⊢
  refine ⟨a, ns, 4, rfl, (s13.trans u4).seq ha, by omega, _, rfl, by decide, ?_⟩
  obtain ⟨m3, em3, hm3⟩ : ∃ m3 : Nat, atI [V.int 1, V.int 2, V.int 1, V.int 4, V.int 1, V.int 3, V.int 0, V.int 1] (ns.getD 4 0 % 8) = some (V.int (m3 : Int)) ∧ m3 ≤ 4 := by
   rcases (show ns.getD 4 0 % 8 = 0 ∨ ns.getD 4 0 % 8 = 1 ∨ ns.getD 4 0 % 8 = 2 ∨ ns.getD 4 0 % 8 = 3 ∨ ns.getD 4 0 % 8 = 4 ∨ ns.getD 4 0 % 8 = 5 ∨ ns.getD 4 0 % 8 = 6 ∨ ns.getD 4 0 % 8 = 7 by omega) with e | e | e | e | e | e | e | e
   ·exact ⟨1, by rw [e]; exact zb (j := 0) rfl, by decide⟩
   ·exact ⟨2, by rw [e]; exact zb (j := 1) rfl, by decide⟩
   ·exact ⟨1, by rw [e]; exact zb (j := 2) rfl, by decide⟩
   ·exact ⟨4, by rw [e]; exact zb (j := 3) rfl, by decide⟩
   ·exact ⟨1, by rw [e]; exact zb (j := 4) rfl, by decide⟩
   ·exact ⟨3, by rw [e]; exact zb (j := 5) rfl, by decide⟩
   ·exact ⟨0, by rw [e]; exact zb (j := 6) rfl, by decide⟩
   ·exact ⟨1, by rw [e]; exact zb (j := 7) rfl, by decide⟩
  refine ⟨_, _, _, _, rfl, rfl, SqL.of g4, em3, ?_⟩
  refine ⟨_, m3, rfl, by omega, fun pt tz H5 hl5 hN5 tp0 gt s5 => ⟨zj (by decide), fun r hr0 => ?_⟩⟩
  have u6 := Same.upd (o := .tup [V.int (n : Int), V.ref ph, V.ref pl, V.ref pc, V.ref pt]) hr0
  have s45 := u4.trans s5
  exact q r ⟨n, ph, pl, pc, pt, hz, lz, cz, tz⟩ _ ⟨z7, u6 _ _ (s45 _ _ (s3 _ _ (s2 _ _ gh))), u6 _ _ (s45 _ _ (s3 _ _ gl)), u6 _ _ (s45 _ _ gc), u6 _ _ gt⟩ ⟨by show 1 ≤ n; omega, by show n ≤ 5; omega, by show 1 ≤ hz.length; omega, by show hz.length ≤ 8; omega, by show 1 ≤ lz.length; omega, by show lz.length ≤ 10; omega, hl3, by show tz.length ≤ 4; omega, hN1, hN2, fun z hz => hN2 z (hN3 z hz), hN5⟩ ((s13.trans s45).trans u6)
def z9u (v : V) : Prop := (∃ i, v = .int i) ∨ (∃ z, v = .str z) ∨ (∃ b, v = .bl b)
def Alike (H : Hp) : Nat → V → V → Prop
 | 0, v, v' => v = v' ∧ z9u v
 | n + 1, v, v' => (v = v' ∧ z9u v) ∨ ∃ (a b : Addr) (xs ys : List V), v = .ref a ∧ v' = .ref b ∧ ((H a = some (.lst xs) ∧ H b = some (.lst ys)) ∨ (H a = some (.tup xs) ∧ H b = some (.tup ys))) ∧ xs.length = ys.length ∧ xs.length ≤ 1000 ∧
   ∀ (i : Nat) (x y : V), xs[i]? = some x → ys[i]? = some y → Alike H n x y
theorem Alike.mono {H H' : Hp} (s : Same H H') : ∀ {n : Nat} {v v' : V}, Alike H n v v' → Alike H' n v v'
 | 0, _, _, h => h
 | n + 1, _, _, .inl h => .inl h
 | n + 1, _, _, .inr ⟨a, b, xs, ys, e1, e2, h, hl, hz, k⟩ => .inr ⟨a, b, xs, ys, e1, e2, h.elim (fun z => .inl ⟨s _ _ z.1, s _ _ z.2⟩) (fun z => .inr ⟨s _ _ z.1, s _ _ z.2⟩), hl, hz, fun i x y hx hy => Alike.mono s (k i x y hx hy)⟩
theorem Alike.up {H : Hp} : ∀ {n : Nat} {v v' : V}, Alike H n v v' → Alike H (n + 1) v v'
 | 0, _, _, h => .inl h
 | n + 1, _, _, .inl h => .inl h
 | n + 1, _, _, .inr ⟨a, b, xs, ys, e1, e2, h, hl, hz, k⟩ => .inr ⟨a, b, xs, ys, e1, e2, h, hl, hz, fun i x y hx hy => (k i x y hx hy).up⟩
def z28 (n : Nat) : Sp := fun vs H Q _ => ∃ v v', vs = [v, v'] ∧ Alike H n v v' ∧ z42 H Q (.bl true)
theorem zbt (F : Def K mg "_law_same" z1p ["_law_found", "_law_due"]) (T : Txt K mg C_BadSetup C_Council C_GateError C_Keeper C_Store C_World t_MOST_HOLDERS t_MOST_KEEPERS t_MOST_LOCKS t_MOST_NAMES t_MOST_SIGNS t_MOST_STORES t_NAME_SIGNS) (G__law_same : Has P w K mg base 0 "_law_same" ["_law_found", "_law_due"] (z8x)) : Has P w K mg base 1 "_law_same" ["_law_found", "_law_due"] (z28 0) := by
 refine F.ok z4k (fun vs H Q E h => ?_) (fun f cdv A outer s H vs Q E hr h => ?_)
 ·obtain ⟨v, v', rfl, _⟩ := h
  rfl
 ·have hu := hr.units0
  obtain ⟨v, v', rfl, pv', q⟩ := h
  replace pv' : v = v' ∧ z9u v := pv'
  ·obtain ⟨rfl, pv'⟩ := pv'
   refine ⟨_, (@z9 _ _ _ _ _ (@zr _ _ _ _ _ _ _ _ (@z1w _ _ _ (@z8 _ _ _ _ _ _ _ _ _ z4c rfl T.b_isinstance (by decide +kernel) (@z0 _ _ _ _ _ (pv 1) (@z0 _ _ _ _ _ (@z2z _ _ _ _ _ (@z0 _ _ _ _ _ (@zn _ _ (.ty "list") _ _ rfl T.b_list (by decide +kernel) rfl (by decide) (by decide)) (@z0 _ _ _ _ _ (@zn _ _ (.ty "tuple") _ _ rfl T.b_tuple (by decide +kernel) rfl (by decide) (by decide)) z5 rfl) rfl)) z5 rfl) rfl) (by decide) (by decide) rfl rfl) (by intro _; rfl)) (@z9 _ _ _ _ _ (@zr _ _ _ _ _ _ _ _ (PW.pt (@z2h _ _ _ _ _ _ _ (@zh _ _ _ _ _ _ _ _ z2v (@z8 _ _ _ _ _ _ _ _ _ zq rfl T.b_isinstance (by decide +kernel) (@z0 _ _ _ _ _ (pv 0) (@z0 _ _ _ _ _ (@zn _ _ (.ty "list") _ _ rfl T.b_list (by decide +kernel) rfl (by decide) (by decide)) z5 rfl) rfl) (by decide) (by decide) rfl rfl) (@z8 _ _ _ _ _ _ _ _ _ zq rfl T.b_isinstance (by decide +kernel) (@z0 _ _ _ _ _ (pv 1) (@z0 _ _ _ _ _ (@zn _ _ (.ty "list") _ _ rfl T.b_list (by decide +kernel) rfl (by decide) (by decide)) z5 rfl) rfl) (by decide) (by decide) rfl rfl) (zf _)) (@z2g _ _ _ _ (@zh _ _ _ _ _ _ _ _ z2v (@z8 _ _ _ _ _ _ _ _ _ zq rfl T.b_isinstance (by decide +kernel) (@z0 _ _ _ _ _ (pv 0) (@z0 _ _ _ _ _ (@zn _ _ (.ty "tuple") _ _ rfl T.b_tuple (by decide +kernel) rfl (by decide) (by decide)) z5 rfl) rfl) (by decide) (by decide) rfl rfl) (@z8 _ _ _ _ _ _ _ _ _ zq rfl T.b_isinstance (by decide +kernel) (@z0 _ _ _ _ _ (pv 1) (@z0 _ _ _ _ _ (@zn _ _ (.ty "tuple") _ _ rfl T.b_tuple (by decide +kernel) rfl (by decide) (by decide)) z5 rfl) rfl) (by decide) (by decide) rfl rfl) (zf _))))) (@za _ _ _ (@zk _ _ _ _ z1k)) zl) (@za _ _ _ (@zk _ _ _ _ (@z1r _ _ _ _ _ _ _ (@z1f _ _ _ _ _ _ _ _ z1l (@z8 _ _ _ _ _ _ _ _ _ zg rfl T.b_len (by decide +kernel) (@z0 _ _ _ _ _ (pv 0) z5 rfl) (by decide) (by decide) rfl rfl) (@z8 _ _ _ _ _ _ _ _ _ zg rfl T.b_len (by decide +kernel) (@z0 _ _ _ _ _ (pv 1) z5 rfl) (by decide) (by decide) rfl rfl) (zf _)) (@z1q _ _ _ _ _ (@z8 _ _ _ _ _ _ _ _ _ (z10 rfl) rfl T.b_all (by decide +kernel) (@z0 _ _ _ _ _ (@z1a _ _ "_law_k" (["_law_found", "_law_due"]) ([0, 1]) _ _ _ _ _ _ _ _ rfl ⟨rfl, by decide +kernel, by decide +kernel, rfl, zv rfl, by decide +kernel, ⟨⟨rfl, Or.inl rfl, rfl⟩, ⟨⟨rfl, Or.inl rfl, rfl⟩, trivial⟩⟩⟩ (@z1u _ _ _ _ _ _ rfl T.b_range (@z0 _ _ _ _ _ (@z8 _ _ _ _ _ _ _ _ _ zg rfl T.b_len (by decide +kernel) (@z0 _ _ _ _ _ (pv 1) z5 rfl) (by decide) (by decide) rfl rfl) z5 rfl) rfl) (fun _ _ _ _ => z14) (fun _ _ _ _ => (@zu _ _ _ _ _ _ _ _ _ _ G__law_same (hr.mono (by decide)) rfl (@z0 _ _ _ _ _ (@zp _ _ _ _ _ _ _ (z2n (K := K)) (pv 1) (pv 0) (fun _ _ => rfl)) (@z0 _ _ _ _ _ (@zp _ _ _ _ _ _ _ (z2n (K := K)) (pv 2) (pv 0) (fun _ _ => rfl)) z5 rfl) rfl) (by decide) rfl rfl)) (by intro _; rfl)) z5 rfl) (by decide) (by decide) rfl rfl)))))) zl) (@z9 _ _ _ _ _ (@zr _ _ _ _ _ _ _ _ (@zh _ _ _ _ _ _ _ _ z2v (@z8 _ _ _ _ _ _ _ _ _ zq rfl T.b_isinstance (by decide +kernel) (@z0 _ _ _ _ _ (pv 0) (@z0 _ _ _ _ _ (@zn _ _ (.ty "bool") _ _ rfl T.b_bool (by decide +kernel) rfl (by decide) (by decide)) z5 rfl) rfl) (by decide) (by decide) rfl rfl) (@z8 _ _ _ _ _ _ _ _ _ zq rfl T.b_isinstance (by decide +kernel) (@z0 _ _ _ _ _ (pv 1) (@z0 _ _ _ _ _ (@zn _ _ (.ty "bool") _ _ rfl T.b_bool (by decide +kernel) rfl (by decide) (by decide)) z5 rfl) rfl) (by decide) (by decide) rfl rfl) (zf _)) (@za _ _ _ (@zk _ _ _ _ z1k)) zl) (@z9 _ _ _ _ _ (@zr _ _ _ _ _ _ _ _ (@z1w _ _ _ (@z8 _ _ _ _ _ _ _ _ _ zq rfl T.b_isinstance (by decide +kernel) (@z0 _ _ _ _ _ (pv 1) (@z0 _ _ _ _ _ (@zn _ _ (.ty "int") _ _ rfl T.b_int (by decide +kernel) rfl (by decide) (by decide)) z5 rfl) rfl) (by decide) (by decide) rfl rfl) (by intro _; rfl)) (@za _ _ _ (@zk _ _ _ _ (@z1r _ _ _ _ _ _ _ (@z8 _ _ _ _ _ _ _ _ _ zq rfl T.b_isinstance (by decide +kernel) (@z0 _ _ _ _ _ (pv 0) (@z0 _ _ _ _ _ (@zn _ _ (.ty "int") _ _ rfl T.b_int (by decide +kernel) rfl (by decide) (by decide)) z5 rfl) rfl) (by decide) (by decide) rfl rfl) (@z1q _ _ _ _ _ (@z1f _ _ _ _ _ _ _ _ z1l (pv 0) (pv 1) (zf _)))))) zl) (@za _ _ _ (@zk _ _ _ _ (@z1r _ _ _ _ _ _ _ (@z8 _ _ _ _ _ _ _ _ _ zq rfl T.b_isinstance (by decide +kernel) (@z0 _ _ _ _ _ (pv 0) (@z0 _ _ _ _ _ (@zn _ _ (.ty "str") _ _ rfl T.b_str (by decide +kernel) rfl (by decide) (by decide)) z5 rfl) rfl) (by decide) (by decide) rfl rfl) (@z1q _ _ _ _ _ (@z1f _ _ _ _ _ _ _ _ z1l (pv 0) (pv 1) (zf _))))))))), ?_⟩
   walk_at "rd"
   refine ⟨zj (by decide), fun p hp => ?_⟩
   have s1 := q _ (Same.upd (o := .tup [V.ty "list", V.ty "tuple"]) hp)
   rcases pv' with ⟨i, rfl⟩ | ⟨z, rfl⟩ | ⟨b, rfl⟩
   ·refine ⟨_, _, ⟨rfl, rfl⟩, _, _, SqT.of z7, _, .int i, _, (z2f K).1, ?_⟩
    rw [if_neg Bool.false_ne_true]
    refine ⟨_, _, ⟨rfl, rfl⟩, _, .int i, _, z2i K, _, _, ⟨rfl, rfl⟩, _, .int i, _, z2i K, ?_⟩
    rw [if_neg (by decide)]
    refine ⟨_, _, ⟨rfl, rfl⟩, _, .int i, _, (z12 K).1, ?_⟩
    rw [if_pos rfl]
    refine ⟨_, _, ⟨rfl, rfl⟩, _, .int i, _, (z12 K).1, ?_⟩
    rw [if_pos rfl]
    exact ⟨rfl, by simpa using s1⟩
   ·refine ⟨_, _, ⟨rfl, rfl⟩, _, _, SqT.of z7, _, .str z, _, (z2f K).2.2.1, ?_⟩
    rw [if_neg Bool.false_ne_true]
    refine ⟨_, _, ⟨rfl, rfl⟩, _, .str z, _, (z12 K).2.2.2.2.2.1, _, _, ⟨rfl, rfl⟩, _, .str z, _, (z12 K).2.2.2.2.2.1, ?_⟩
    rw [if_neg (by decide)]
    refine ⟨_, _, ⟨rfl, rfl⟩, _, .str z, _, (z12 K).2.2.1, ?_⟩
    rw [if_neg Bool.false_ne_true]
    refine ⟨_, _, ⟨rfl, rfl⟩, _, .str z, _, (z12 K).2.2.2.1, ?_⟩
    rw [if_pos rfl]
    exact ⟨rfl, by simpa using s1⟩
   ·refine ⟨_, _, ⟨rfl, rfl⟩, _, _, SqT.of z7, _, .bl b, _, (z2f K).2.1, ?_⟩
    rw [if_neg Bool.false_ne_true]
    refine ⟨_, _, ⟨rfl, rfl⟩, _, .bl b, _, z2b K, _, _, ⟨rfl, rfl⟩, _, .bl b, _, z2b K, ?_⟩
    rw [if_neg (by decide)]
    refine ⟨_, _, ⟨rfl, rfl⟩, _, .bl b, _, (z12 K).2.1, ?_⟩
    rw [if_pos rfl]
    refine ⟨_, _, ⟨rfl, rfl⟩, _, .bl b, _, (z12 K).2.1, ?_⟩
    rw [if_pos rfl]
    exact ⟨rfl, by simpa using s1⟩
theorem z5i {n : Nat} (F : Def K mg "_law_same" z1p ["_law_found", "_law_due"]) (T : Txt K mg C_BadSetup C_Council C_GateError C_Keeper C_Store C_World t_MOST_HOLDERS t_MOST_KEEPERS t_MOST_LOCKS t_MOST_NAMES t_MOST_SIGNS t_MOST_STORES t_NAME_SIGNS) (G__law_same : Has P w K mg base (n + 1) "_law_same" ["_law_found", "_law_due"] (z28 n)) : Has P w K mg base (n + 1 + 1) "_law_same" ["_law_found", "_law_due"] (z28 (n + 1)) := by
 refine F.ok z4k (fun vs H Q E h => ?_) (fun f cdv A outer s H vs Q E hr h => ?_)
 ·obtain ⟨v, v', rfl, _⟩ := h
  rfl
 ·have hu := hr.units0
  obtain ⟨v, v', rfl, pv', q⟩ := h
  rcases pv' with pv' | ⟨a, b, xs, ys, rfl, rfl, hab, hlm, hz, kk⟩
  ·obtain ⟨rfl, pv'⟩ := pv'
   refine ⟨_, (@z9 _ _ _ _ _ (@zr _ _ _ _ _ _ _ _ (@z1w _ _ _ (@z8 _ _ _ _ _ _ _ _ _ z4c rfl T.b_isinstance (by decide +kernel) (@z0 _ _ _ _ _ (pv 1) (@z0 _ _ _ _ _ (@z2z _ _ _ _ _ (@z0 _ _ _ _ _ (@zn _ _ (.ty "list") _ _ rfl T.b_list (by decide +kernel) rfl (by decide) (by decide)) (@z0 _ _ _ _ _ (@zn _ _ (.ty "tuple") _ _ rfl T.b_tuple (by decide +kernel) rfl (by decide) (by decide)) z5 rfl) rfl)) z5 rfl) rfl) (by decide) (by decide) rfl rfl) (by intro _; rfl)) (@z9 _ _ _ _ _ (@zr _ _ _ _ _ _ _ _ (PW.pt (@z2h _ _ _ _ _ _ _ (@zh _ _ _ _ _ _ _ _ z2v (@z8 _ _ _ _ _ _ _ _ _ zq rfl T.b_isinstance (by decide +kernel) (@z0 _ _ _ _ _ (pv 0) (@z0 _ _ _ _ _ (@zn _ _ (.ty "list") _ _ rfl T.b_list (by decide +kernel) rfl (by decide) (by decide)) z5 rfl) rfl) (by decide) (by decide) rfl rfl) (@z8 _ _ _ _ _ _ _ _ _ zq rfl T.b_isinstance (by decide +kernel) (@z0 _ _ _ _ _ (pv 1) (@z0 _ _ _ _ _ (@zn _ _ (.ty "list") _ _ rfl T.b_list (by decide +kernel) rfl (by decide) (by decide)) z5 rfl) rfl) (by decide) (by decide) rfl rfl) (zf _)) (@z2g _ _ _ _ (@zh _ _ _ _ _ _ _ _ z2v (@z8 _ _ _ _ _ _ _ _ _ zq rfl T.b_isinstance (by decide +kernel) (@z0 _ _ _ _ _ (pv 0) (@z0 _ _ _ _ _ (@zn _ _ (.ty "tuple") _ _ rfl T.b_tuple (by decide +kernel) rfl (by decide) (by decide)) z5 rfl) rfl) (by decide) (by decide) rfl rfl) (@z8 _ _ _ _ _ _ _ _ _ zq rfl T.b_isinstance (by decide +kernel) (@z0 _ _ _ _ _ (pv 1) (@z0 _ _ _ _ _ (@zn _ _ (.ty "tuple") _ _ rfl T.b_tuple (by decide +kernel) rfl (by decide) (by decide)) z5 rfl) rfl) (by decide) (by decide) rfl rfl) (zf _))))) (@za _ _ _ (@zk _ _ _ _ z1k)) zl) (@za _ _ _ (@zk _ _ _ _ (@z1r _ _ _ _ _ _ _ (@z1f _ _ _ _ _ _ _ _ z1l (@z8 _ _ _ _ _ _ _ _ _ zg rfl T.b_len (by decide +kernel) (@z0 _ _ _ _ _ (pv 0) z5 rfl) (by decide) (by decide) rfl rfl) (@z8 _ _ _ _ _ _ _ _ _ zg rfl T.b_len (by decide +kernel) (@z0 _ _ _ _ _ (pv 1) z5 rfl) (by decide) (by decide) rfl rfl) (zf _)) (@z1q _ _ _ _ _ (@z8 _ _ _ _ _ _ _ _ _ (z10 rfl) rfl T.b_all (by decide +kernel) (@z0 _ _ _ _ _ (@z1a _ _ "_law_k" (["_law_found", "_law_due"]) ([0, 1]) _ _ _ _ _ _ _ _ rfl ⟨rfl, by decide +kernel, by decide +kernel, rfl, zv rfl, by decide +kernel, ⟨⟨rfl, Or.inl rfl, rfl⟩, ⟨⟨rfl, Or.inl rfl, rfl⟩, trivial⟩⟩⟩ (@z1u _ _ _ _ _ _ rfl T.b_range (@z0 _ _ _ _ _ (@z8 _ _ _ _ _ _ _ _ _ zg rfl T.b_len (by decide +kernel) (@z0 _ _ _ _ _ (pv 1) z5 rfl) (by decide) (by decide) rfl rfl) z5 rfl) rfl) (fun _ _ _ _ => z14) (fun _ _ _ _ => (@zu _ _ _ _ _ _ _ _ _ _ G__law_same (hr.mono (by omega)) rfl (@z0 _ _ _ _ _ (@zp _ _ _ _ _ _ _ (z2n (K := K)) (pv 1) (pv 0) (fun _ _ => rfl)) (@z0 _ _ _ _ _ (@zp _ _ _ _ _ _ _ (z2n (K := K)) (pv 2) (pv 0) (fun _ _ => rfl)) z5 rfl) rfl) (by decide) rfl rfl)) (by intro _; rfl)) z5 rfl) (by decide) (by decide) rfl rfl)))))) zl) (@z9 _ _ _ _ _ (@zr _ _ _ _ _ _ _ _ (@zh _ _ _ _ _ _ _ _ z2v (@z8 _ _ _ _ _ _ _ _ _ zq rfl T.b_isinstance (by decide +kernel) (@z0 _ _ _ _ _ (pv 0) (@z0 _ _ _ _ _ (@zn _ _ (.ty "bool") _ _ rfl T.b_bool (by decide +kernel) rfl (by decide) (by decide)) z5 rfl) rfl) (by decide) (by decide) rfl rfl) (@z8 _ _ _ _ _ _ _ _ _ zq rfl T.b_isinstance (by decide +kernel) (@z0 _ _ _ _ _ (pv 1) (@z0 _ _ _ _ _ (@zn _ _ (.ty "bool") _ _ rfl T.b_bool (by decide +kernel) rfl (by decide) (by decide)) z5 rfl) rfl) (by decide) (by decide) rfl rfl) (zf _)) (@za _ _ _ (@zk _ _ _ _ z1k)) zl) (@z9 _ _ _ _ _ (@zr _ _ _ _ _ _ _ _ (@z1w _ _ _ (@z8 _ _ _ _ _ _ _ _ _ zq rfl T.b_isinstance (by decide +kernel) (@z0 _ _ _ _ _ (pv 1) (@z0 _ _ _ _ _ (@zn _ _ (.ty "int") _ _ rfl T.b_int (by decide +kernel) rfl (by decide) (by decide)) z5 rfl) rfl) (by decide) (by decide) rfl rfl) (by intro _; rfl)) (@za _ _ _ (@zk _ _ _ _ (@z1r _ _ _ _ _ _ _ (@z8 _ _ _ _ _ _ _ _ _ zq rfl T.b_isinstance (by decide +kernel) (@z0 _ _ _ _ _ (pv 0) (@z0 _ _ _ _ _ (@zn _ _ (.ty "int") _ _ rfl T.b_int (by decide +kernel) rfl (by decide) (by decide)) z5 rfl) rfl) (by decide) (by decide) rfl rfl) (@z1q _ _ _ _ _ (@z1f _ _ _ _ _ _ _ _ z1l (pv 0) (pv 1) (zf _)))))) zl) (@za _ _ _ (@zk _ _ _ _ (@z1r _ _ _ _ _ _ _ (@z8 _ _ _ _ _ _ _ _ _ zq rfl T.b_isinstance (by decide +kernel) (@z0 _ _ _ _ _ (pv 0) (@z0 _ _ _ _ _ (@zn _ _ (.ty "str") _ _ rfl T.b_str (by decide +kernel) rfl (by decide) (by decide)) z5 rfl) rfl) (by decide) (by decide) rfl rfl) (@z1q _ _ _ _ _ (@z1f _ _ _ _ _ _ _ _ z1l (pv 0) (pv 1) (zf _))))))))), ?_⟩
   walk_at "rd"
   refine ⟨zj (by decide), fun p hp => ?_⟩
   have s1 := q _ (Same.upd (o := .tup [V.ty "list", V.ty "tuple"]) hp)
   rcases pv' with ⟨i, rfl⟩ | ⟨z, rfl⟩ | ⟨b, rfl⟩
   ·refine ⟨_, _, ⟨rfl, rfl⟩, _, _, SqT.of z7, _, .int i, _, (z2f K).1, ?_⟩
    rw [if_neg Bool.false_ne_true]
    refine ⟨_, _, ⟨rfl, rfl⟩, _, .int i, _, z2i K, _, _, ⟨rfl, rfl⟩, _, .int i, _, z2i K, ?_⟩
    rw [if_neg (by decide)]
    refine ⟨_, _, ⟨rfl, rfl⟩, _, .int i, _, (z12 K).1, ?_⟩
    rw [if_pos rfl]
    refine ⟨_, _, ⟨rfl, rfl⟩, _, .int i, _, (z12 K).1, ?_⟩
    rw [if_pos rfl]
    exact ⟨rfl, by simpa using s1⟩
   ·refine ⟨_, _, ⟨rfl, rfl⟩, _, _, SqT.of z7, _, .str z, _, (z2f K).2.2.1, ?_⟩
    rw [if_neg Bool.false_ne_true]
    refine ⟨_, _, ⟨rfl, rfl⟩, _, .str z, _, (z12 K).2.2.2.2.2.1, _, _, ⟨rfl, rfl⟩, _, .str z, _, (z12 K).2.2.2.2.2.1, ?_⟩
    rw [if_neg (by decide)]
    refine ⟨_, _, ⟨rfl, rfl⟩, _, .str z, _, (z12 K).2.2.1, ?_⟩
    rw [if_neg Bool.false_ne_true]
    refine ⟨_, _, ⟨rfl, rfl⟩, _, .str z, _, (z12 K).2.2.2.1, ?_⟩
    rw [if_pos rfl]
    exact ⟨rfl, by simpa using s1⟩
   ·refine ⟨_, _, ⟨rfl, rfl⟩, _, _, SqT.of z7, _, .bl b, _, (z2f K).2.1, ?_⟩
    rw [if_neg Bool.false_ne_true]
    refine ⟨_, _, ⟨rfl, rfl⟩, _, .bl b, _, z2b K, _, _, ⟨rfl, rfl⟩, _, .bl b, _, z2b K, ?_⟩
    rw [if_neg (by decide)]
    refine ⟨_, _, ⟨rfl, rfl⟩, _, .bl b, _, (z12 K).2.1, ?_⟩
    rw [if_pos rfl]
    refine ⟨_, _, ⟨rfl, rfl⟩, _, .bl b, _, (z12 K).2.1, ?_⟩
    rw [if_pos rfl]
    exact ⟨rfl, by simpa using s1⟩
  ·skip
   refine ⟨_, (@z9 _ _ _ _ _ (@zr _ _ _ _ _ _ _ _ (@z1w _ _ _ (@z8 _ _ _ _ _ _ _ _ _ z4c rfl T.b_isinstance (by decide +kernel) (@z0 _ _ _ _ _ (pv 1) (@z0 _ _ _ _ _ (@z2z _ _ _ _ _ (@z0 _ _ _ _ _ (@zn _ _ (.ty "list") _ _ rfl T.b_list (by decide +kernel) rfl (by decide) (by decide)) (@z0 _ _ _ _ _ (@zn _ _ (.ty "tuple") _ _ rfl T.b_tuple (by decide +kernel) rfl (by decide) (by decide)) z5 rfl) rfl)) z5 rfl) rfl) (by decide) (by decide) rfl rfl) (by intro _; rfl)) (@z9 _ _ _ _ _ (@zr _ _ _ _ _ _ _ _ (PW.pt (@z2h _ _ _ _ _ _ _ (@zh _ _ _ _ _ _ _ _ z2v (@z8 _ _ _ _ _ _ _ _ _ zq rfl T.b_isinstance (by decide +kernel) (@z0 _ _ _ _ _ (pv 0) (@z0 _ _ _ _ _ (@zn _ _ (.ty "list") _ _ rfl T.b_list (by decide +kernel) rfl (by decide) (by decide)) z5 rfl) rfl) (by decide) (by decide) rfl rfl) (@z8 _ _ _ _ _ _ _ _ _ zq rfl T.b_isinstance (by decide +kernel) (@z0 _ _ _ _ _ (pv 1) (@z0 _ _ _ _ _ (@zn _ _ (.ty "list") _ _ rfl T.b_list (by decide +kernel) rfl (by decide) (by decide)) z5 rfl) rfl) (by decide) (by decide) rfl rfl) (zf _)) (@z2g _ _ _ _ (@zh _ _ _ _ _ _ _ _ z2v (@z8 _ _ _ _ _ _ _ _ _ zq rfl T.b_isinstance (by decide +kernel) (@z0 _ _ _ _ _ (pv 0) (@z0 _ _ _ _ _ (@zn _ _ (.ty "tuple") _ _ rfl T.b_tuple (by decide +kernel) rfl (by decide) (by decide)) z5 rfl) rfl) (by decide) (by decide) rfl rfl) (@z8 _ _ _ _ _ _ _ _ _ zq rfl T.b_isinstance (by decide +kernel) (@z0 _ _ _ _ _ (pv 1) (@z0 _ _ _ _ _ (@zn _ _ (.ty "tuple") _ _ rfl T.b_tuple (by decide +kernel) rfl (by decide) (by decide)) z5 rfl) rfl) (by decide) (by decide) rfl rfl) (zf _))))) (@za _ _ _ (@zk _ _ _ _ z1k)) zl) (@za _ _ _ (@zk _ _ _ _ (@z1r _ _ _ _ _ _ _ (@z1f _ _ _ _ _ _ _ _ z1l (@z8 _ _ _ _ _ _ _ _ _ zg rfl T.b_len (by decide +kernel) (@z0 _ _ _ _ _ (pv 0) z5 rfl) (by decide) (by decide) rfl rfl) (@z8 _ _ _ _ _ _ _ _ _ zg rfl T.b_len (by decide +kernel) (@z0 _ _ _ _ _ (pv 1) z5 rfl) (by decide) (by decide) rfl rfl) (zf _)) (@z1q _ _ _ _ _ (@z8 _ _ _ _ _ _ _ _ _ (z10 rfl) rfl T.b_all (by decide +kernel) (@z0 _ _ _ _ _ (@z1a _ _ "_law_k" (["_law_found", "_law_due"]) ([0, 1]) _ _ _ _ _ _ _ _ rfl ⟨rfl, by decide +kernel, by decide +kernel, rfl, zv rfl, by decide +kernel, ⟨⟨rfl, Or.inl rfl, rfl⟩, ⟨⟨rfl, Or.inl rfl, rfl⟩, trivial⟩⟩⟩ (@z1u _ _ _ _ _ _ rfl T.b_range (@z0 _ _ _ _ _ (@z8 _ _ _ _ _ _ _ _ _ zg rfl T.b_len (by decide +kernel) (@z0 _ _ _ _ _ (pv 1) z5 rfl) (by decide) (by decide) rfl rfl) z5 rfl) rfl) (fun _ _ _ _ => z14) (fun _ _ _ _ => (@zu _ _ _ _ _ _ _ _ _ _ G__law_same (hr.mono (by omega)) rfl (@z0 _ _ _ _ _ (@zp _ _ _ _ _ _ _ (z2n (K := K)) (pv 1) (pv 0) (fun _ _ => rfl)) (@z0 _ _ _ _ _ (@zp _ _ _ _ _ _ _ (z2n (K := K)) (pv 2) (pv 0) (fun _ _ => rfl)) z5 rfl) rfl) (by decide) rfl rfl)) (by intro _; rfl)) z5 rfl) (by decide) (by decide) rfl rfl)))))) zl) (@z9 _ _ _ _ _ (@zr _ _ _ _ _ _ _ _ (@zh _ _ _ _ _ _ _ _ z2v (@z8 _ _ _ _ _ _ _ _ _ zq rfl T.b_isinstance (by decide +kernel) (@z0 _ _ _ _ _ (pv 0) (@z0 _ _ _ _ _ (@zn _ _ (.ty "bool") _ _ rfl T.b_bool (by decide +kernel) rfl (by decide) (by decide)) z5 rfl) rfl) (by decide) (by decide) rfl rfl) (@z8 _ _ _ _ _ _ _ _ _ zq rfl T.b_isinstance (by decide +kernel) (@z0 _ _ _ _ _ (pv 1) (@z0 _ _ _ _ _ (@zn _ _ (.ty "bool") _ _ rfl T.b_bool (by decide +kernel) rfl (by decide) (by decide)) z5 rfl) rfl) (by decide) (by decide) rfl rfl) (zf _)) (@za _ _ _ (@zk _ _ _ _ z1k)) zl) (@z9 _ _ _ _ _ (@zr _ _ _ _ _ _ _ _ (@z1w _ _ _ (@z8 _ _ _ _ _ _ _ _ _ zq rfl T.b_isinstance (by decide +kernel) (@z0 _ _ _ _ _ (pv 1) (@z0 _ _ _ _ _ (@zn _ _ (.ty "int") _ _ rfl T.b_int (by decide +kernel) rfl (by decide) (by decide)) z5 rfl) rfl) (by decide) (by decide) rfl rfl) (by intro _; rfl)) (@za _ _ _ (@zk _ _ _ _ (@z1r _ _ _ _ _ _ _ (@z8 _ _ _ _ _ _ _ _ _ zq rfl T.b_isinstance (by decide +kernel) (@z0 _ _ _ _ _ (pv 0) (@z0 _ _ _ _ _ (@zn _ _ (.ty "int") _ _ rfl T.b_int (by decide +kernel) rfl (by decide) (by decide)) z5 rfl) rfl) (by decide) (by decide) rfl rfl) (@z1q _ _ _ _ _ (@z1f _ _ _ _ _ _ _ _ z1l (pv 0) (pv 1) (zf _)))))) zl) (@za _ _ _ (@zk _ _ _ _ (@z1r _ _ _ _ _ _ _ (@z8 _ _ _ _ _ _ _ _ _ zq rfl T.b_isinstance (by decide +kernel) (@z0 _ _ _ _ _ (pv 0) (@z0 _ _ _ _ _ (@zn _ _ (.ty "str") _ _ rfl T.b_str (by decide +kernel) rfl (by decide) (by decide)) z5 rfl) rfl) (by decide) (by decide) rfl rfl) (@z1q _ _ _ _ _ (@z1f _ _ _ _ _ _ _ _ z1l (pv 0) (pv 1) (zf _))))))))), ?_⟩
   walk_at "rd"
   refine ⟨zj (by decide), fun p hp => ?_⟩
   have s1 := Same.upd (o := .tup [V.ty "list", V.ty "tuple"]) hp
   rcases hab with ⟨ha, hb⟩ | ⟨ha, hb⟩
   ·have ha1 := s1 _ _ ha
    have hb1 := s1 _ _ hb
    refine ⟨_, _, ⟨rfl, rfl⟩, _, _, SqT.of z7, _, .lst hb1, _, (z2f K).2.2.2.1, ?_⟩
    rw [if_pos rfl]
    refine ⟨_, _, ⟨rfl, rfl⟩, _, .lst ha1, _, z44 K, _, _, ⟨rfl, rfl⟩, _, .lst hb1, _, z44 K, ?_⟩
    rw [if_neg (by decide)]
    refine ⟨_, _, ⟨rfl, rfl⟩, _, .lst ha1, _, (z12 K).2.2.2.2.2.2.2.2, _, _, ⟨rfl, rfl⟩, _, .lst hb1, _, (z12 K).2.2.2.2.2.2.2.2, ?_⟩
    rw [if_neg (by decide)]
    refine ⟨xs, .inl (SqL.of ha1), ys, .inl (SqL.of hb1), ?_⟩
    rw [if_pos (by rw [hlm]; simp)]
    refine ⟨ys, .inl (SqL.of hb1), ⟨by omega, by omega⟩, ?_⟩
    rw [Int.toNat_natCast, ← hlm]
    refine z1t (zj (by omega)) (fun i acc H' => acc = (List.replicate i true).map V.bl ∧ Same (upd H p (.tup [V.ty "list", V.ty "tuple"])) H') ⟨rfl, Same.refl _⟩ ?_ ?_ ?_
    ·rintro i acc H' ⟨rfl, -⟩
     simp
    ·rintro Nn i acc H' hN hi ⟨rfl, s2⟩
     walk_at "rd"
     have ei : ((0 : Int) + (i : Int)) = (i : Int) := by omega
     rw [ei]
     have gx : xs[i]? = some xs[i] := List.getElem?_eq_getElem hi
     have gy : ys[i]? = some (ys[i]'(by omega)) := List.getElem?_eq_getElem (by omega)
     refine (.inl ⟨_, _, _, _, rfl, rfl, SqL.of (s2 _ _ ha1), zb gx, ?_⟩)
     refine (.inl ⟨_, _, _, _, rfl, rfl, SqL.of (s2 _ _ hb1), zb gy, ?_⟩)
     refine ⟨_, _, rfl, (kk i _ _ gx gy).mono (s1.trans s2), fun H3 s3 => hN _ _ ⟨?_, s2.trans s3⟩⟩
     rw [List.replicate_succ', List.map_append]
     rfl
    ·rintro acc H' ⟨rfl, s2⟩ r hr'
     refine ⟨_, rfl, _, SqL.of z7, ?_⟩
     have e : (List.replicate xs.length true).all id = true := by simp
     rw [e]
     exact q _ ((s1.trans s2).trans (Same.upd hr'))
   ·have ha1 := s1 _ _ ha
    have hb1 := s1 _ _ hb
    refine ⟨_, _, ⟨rfl, rfl⟩, _, _, SqT.of z7, _, .tup hb1, _, (z2f K).2.2.2.2, ?_⟩
    rw [if_pos rfl]
    refine ⟨_, _, ⟨rfl, rfl⟩, _, .tup ha1, _, (z12 K).2.2.2.2.2.2.2.1, _, _, ⟨rfl, rfl⟩, _, .tup hb1, _, (z12 K).2.2.2.2.2.2.2.1, ?_⟩
    rw [if_neg (by decide)]
    refine ⟨_, _, ⟨rfl, rfl⟩, _, .tup ha1, _, (z12 K).2.2.2.2.2.2.1, _, _, ⟨rfl, rfl⟩, _, .tup hb1, _, (z12 K).2.2.2.2.2.2.1, ?_⟩
    rw [if_neg (by decide)]
    refine ⟨xs, .inr (SqT.of ha1), ys, .inr (SqT.of hb1), ?_⟩
    rw [if_pos (by rw [hlm]; simp)]
    refine ⟨ys, .inr (SqT.of hb1), ⟨by omega, by omega⟩, ?_⟩
    rw [Int.toNat_natCast, ← hlm]
    refine z1t (zj (by omega)) (fun i acc H' => acc = (List.replicate i true).map V.bl ∧ Same (upd H p (.tup [V.ty "list", V.ty "tuple"])) H') ⟨rfl, Same.refl _⟩ ?_ ?_ ?_
    ·rintro i acc H' ⟨rfl, -⟩
     simp
    ·rintro Nn i acc H' hN hi ⟨rfl, s2⟩
     walk_at "rd"
     have ei : ((0 : Int) + (i : Int)) = (i : Int) := by omega
     rw [ei]
     have gx : xs[i]? = some xs[i] := List.getElem?_eq_getElem hi
     have gy : ys[i]? = some (ys[i]'(by omega)) := List.getElem?_eq_getElem (by omega)
     refine (.inr (.inl ⟨_, _, _, _, rfl, rfl, SqT.of (s2 _ _ ha1), zb gx, ?_⟩))
     refine (.inr (.inl ⟨_, _, _, _, rfl, rfl, SqT.of (s2 _ _ hb1), zb gy, ?_⟩))
     refine ⟨_, _, rfl, (kk i _ _ gx gy).mono (s1.trans s2), fun H3 s3 => hN _ _ ⟨?_, s2.trans s3⟩⟩
     rw [List.replicate_succ', List.map_append]
     rfl
    ·rintro acc H' ⟨rfl, s2⟩ r hr'
     refine ⟨_, rfl, _, SqL.of z7, ?_⟩
     have e : (List.replicate xs.length true).all id = true := by simp
     rw [e]
     exact q _ ((s1.trans s2).trans (Same.upd hr'))
theorem zbu (F : Def K mg "_law_same" z1p ["_law_found", "_law_due"]) (T : Txt K mg C_BadSetup C_Council C_GateError C_Keeper C_Store C_World t_MOST_HOLDERS t_MOST_KEEPERS t_MOST_LOCKS t_MOST_NAMES t_MOST_SIGNS t_MOST_STORES t_NAME_SIGNS) (G__law_same : Has P w K mg base 2 "_law_same" ["_law_found", "_law_due"] (z28 1)) : Has P w K mg base 3 "_law_same" ["_law_found", "_law_due"] (z28 2) := z5i F T G__law_same
theorem zbv (F : Def K mg "_law_same" z1p ["_law_found", "_law_due"]) (T : Txt K mg C_BadSetup C_Council C_GateError C_Keeper C_Store C_World t_MOST_HOLDERS t_MOST_KEEPERS t_MOST_LOCKS t_MOST_NAMES t_MOST_SIGNS t_MOST_STORES t_NAME_SIGNS) (G__law_same : Has P w K mg base 3 "_law_same" ["_law_found", "_law_due"] (z28 2)) : Has P w K mg base 4 "_law_same" ["_law_found", "_law_due"] (z28 3) := z5i F T G__law_same
structure Su4 where
 a : Addr
 b : Addr
 c : Addr
 d : Addr
 hs : List Str
 ls : List Str
 ss : List Str
 ts : List Str
def Texts (H : Hp) (a : Addr) (zs : List Str) : Prop := H a = some (.lst (zs.map V.str)) ∧ zs.length ≤ 60 ∧ ∀ z ∈ zs, z.length ≤ 1000
structure Su4At (H : Hp) (p : Addr) (u : Su4) : Prop where
 gp : H p = some (.lst [.ref u.a, .ref u.b, .ref u.c, .ref u.d])
 ga : Texts H u.a u.hs
 gb : Texts H u.b u.ls
 gc : Texts H u.c u.ss
 gd : Texts H u.d u.ts
theorem Texts.mono {H H' : Hp} {a : Addr} {zs : List Str} (h : Texts H a zs) (s : Same H H') : Texts H' a zs := ⟨s _ _ h.1, h.2⟩
theorem Su4At.mono {H H' : Hp} {p : Addr} {u : Su4} (h : Su4At H p u) (s : Same H H') : Su4At H' p u := ⟨s _ _ h.gp, h.ga.mono s, h.gb.mono s, h.gc.mono s, h.gd.mono s⟩
def zba : Sp := fun vs H Q _ => ∃ (k : Int) (p : Addr) (u : Su4), vs = [.int k, .ref p] ∧ Su4At H p u ∧
 (z11 k u.hs u.ls u.ss u.ts = false → ∀ H', Same H H' → Q (.bl true) H') ∧ (z11 k u.hs u.ls u.ss u.ts = true → ∀ (r q : Addr) (H' : Hp), H' r = some (.tup [.int 0, .ref q]) → H' q = some (.lst []) → Same H H' → Q (.ref r) H')
theorem z89 (F : Def K mg "_law_made" z3q ["_law_keepers", "_law_lists"]) (T : Txt K mg C_BadSetup C_Council C_GateError C_Keeper C_Store C_World t_MOST_HOLDERS t_MOST_KEEPERS t_MOST_LOCKS t_MOST_NAMES t_MOST_SIGNS t_MOST_STORES t_NAME_SIGNS) (G_World___init__ : KHasX P w K mg base (CX1 P w) 5 C_World ["self", "keepers", "holders", "locks", "shared", "stores"] (spWI C_World C_BadSetup)) (G_World_log : MHas P w K mg base CX0 1 C_World "log" ["self"] (zb8 C_World)) : Has P w K mg base 7 "_law_made" ["_law_keepers", "_law_lists"] (zba) := by
 refine F.ok sc__law_made (fun vs H Q E h => ?_) (fun f cdv A outer s H vs Q E hr h => ?_)
 ·obtain ⟨k, p, u, rfl, _⟩ := h
  rfl
 ·obtain ⟨k, p, u, rfl, hp, q1, q2⟩ := h
  have hu := hr.units0
  have hu2 := z4q hr
  refine ⟨_, (@z9 _ _ _ _ _ (@zdf _ _ _ _ _ _ _ (@zcq _ _ _ _ 2 _ _ sc__law_made.nd rfl (Or.inl rfl) (@zcw _ _ _ _ _ _ _ _ _ _ _ G_World___init__ (hr.mono (by decide)) rfl T.g_World (@z0 _ _ _ _ _ (pv 0) (@z0 _ _ _ _ _ (@zp _ _ _ _ _ _ _ ix_list (pv 1) z6 (fun _ _ => rfl)) (@z0 _ _ _ _ _ (@zp _ _ _ _ _ _ _ ix_list (pv 1) z6 (fun _ _ => rfl)) (@z0 _ _ _ _ _ (@zp _ _ _ _ _ _ _ ix_list (pv 1) z6 (fun _ _ => rfl)) (@z0 _ _ _ _ _ (@zp _ _ _ _ _ _ _ ix_list (pv 1) z6 (fun _ _ => rfl)) z5 rfl) rfl) rfl) rfl) rfl) rfl (by decide) rfl rfl) rfl (Or.inr rfl)) (@zds _ _ _ 3 _ _ _ _ _ _ _ _ _ _ rfl T.g_GateError T.x_GateError (by decide +kernel) sc__law_made.nd rfl rfl rfl rfl (fun _ => (@za _ _ _ (@zk _ _ _ _ (@z1r _ _ _ _ _ _ _ (@z8 _ _ _ _ _ _ _ _ _ (z58 (K := K)) rfl T.b_isinstance (by decide +kernel) (@z0 _ _ _ _ _ (pv 3) (@z0 _ _ _ _ _ (@z26 _ _ (.ref C_BadSetup) _ _ rfl T.g_BadSetup rfl (by decide)) z5 rfl) rfl) (by decide) (by decide) rfl rfl) (@z1q _ _ _ _ _ (@z8 _ _ _ _ _ _ _ _ _ (z58 (K := K)) rfl T.b_isinstance (by decide +kernel) (@z0 _ _ _ _ _ (pv 3) (@z0 _ _ _ _ _ (@zn _ _ (.ty "ValueError") _ _ rfl T.b_ValueError (by decide +kernel) rfl (by decide) (by decide)) z5 rfl) rfl) (by decide) (by decide) rfl rfl)))))) zde (by decide)) rfl rfl) (@za _ _ _ (@zk _ _ _ _ (@z2z _ _ _ _ _ (@z0 _ _ _ _ _ (@z7j _ _ _ _ _ (pv 2) rfl) (@z0 _ _ _ _ _ (@zcp _ _ _ _ _ _ _ _ _ _ _ G_World_log T.cl_World (hr.mono (by decide)) (pv 2) rfl) z5 rfl) rfl))))), ?_⟩
  walk_at "rd"
  refine ⟨_, _, _, _, rfl, rfl, SqL.of hp.gp, zb (j := 0) rfl, _, _, _, _, rfl, rfl, SqL.of hp.gp, zb (j := 1) rfl, _, _, _, _, rfl, rfl, SqL.of hp.gp, zb (j := 2) rfl, _, _, _, _, rfl, rfl, SqL.of hp.gp, zb (j := 3) rfl, fun xw dw g1 g2 ne => ?_⟩
  have g1' : upd H dw (.own xw) xw = none := by rw [zc (Ne.symm ne)]; exact g1
  have sG : Same H (upd (upd H dw (.own xw)) xw (.ins C_World dw [])) := (Same.upd g2).trans (Same.upd g1')
  have l1 := hp.ga.2.1; have l2 := hp.gb.2.1; have l3 := hp.gc.2.1; have l4 := hp.gd.2.1
  refine ⟨xw, dw, 0, k, u.a, u.b, u.c, u.d, u.hs, u.ls, u.ss, u.ts, rfl, z7, sG _ _ hp.ga.1, sG _ _ hp.gb.1, sG _ _ hp.gc.1, sG _ _ hp.gd.1, by omega, by omega, by omega, by omega, hp.ga.2.2, hp.gb.2.2, hp.gd.2.2, fun hg H' s' => ?_, fun hg H' pl fs gx e1 e2 gl e3 bt => ⟨rfl, _, _, _, gx, T.cl_World, T.n_World_now, _, e1, _, _, gx, e3, _, _, pl, _, rfl, gx, e2, gl, fun r H3 hr0 gr s3 => ⟨by decide, fun t ht => ?_⟩⟩⟩
  ·refine ⟨true, T.sb_BadSetup_GateError, ?_⟩
   rw [if_pos rfl]
   intro x C hC hx
   cases hC
   refine ⟨_, _, _, ⟨rfl, rfl⟩, z7, T.ec_BadSetup, _, rfl, _, T.ko_BadSetup_BadSetup, ?_⟩
   rw [if_pos rfl]
   exact ⟨_, _, _, ⟨rfl, rfl⟩, z7, T.ec_BadSetup, _, rfl, _, T.ko_BadSetup_ValueError, q1 hg _ ((sG.trans s').trans (Same.upd hx))⟩
  ·have sH : Same H H' := fun b o e => bt b o (sG _ _ e) (zi e g1)
   exact q2 hg t r _ z7 ((Same.upd ht) _ _ gr) ((sH.trans s3).trans (Same.upd ht))
theorem z6e {a : Addr} {zs : List Str} {H0 : Hp} {f : Str → Bool} {te : TE} {σ : St} {R : VK} {js : List Nat} (hz : H0 a = some (.lst (zs.map V.str))) (lz : zs.length ≤ 100)
  (hte : ∀ (z : Str) (H1 : Hp) (R1 : VK), z ∈ zs → Same H0 H1 → (∀ H2, Same H1 H2 → R1 (.bl (f z)) H2) → te (some (.str z) :: capt σ js) H1 R1)
  (hR : ∀ (p : Addr) (H1 : Hp), SqL K H1 p ((zs.map f).map V.bl) → Same H0 H1 → R (.ref p) H1) : z1x (Itl K a) tYes te js σ H0 R := by
 refine z2a (xs := zs.map V.str) (by rw [List.length_map]; exact zj (by omega)) (fun i acc H' => acc = ((zs.take i).map f).map V.bl ∧ Same H0 H') ⟨rfl, Same.refl _⟩ ?_ ?_ ?_ ?_
 ·rintro i acc H' ⟨rfl, -⟩
  rw [List.length_map, List.length_map, List.length_take]
  omega
 ·rintro i acc H' ⟨-, sm⟩
  exact SqL.of (sm _ _ hz)
 ·rintro Nn i acc H' x hN hx hi ⟨rfl, sm⟩
  rw [List.getElem?_map] at hx
  cases e : zs[i]? with
  | none => rw [e] at hx; cases hx
  | some z =>
  rw [e] at hx
  cases hx
  simp only [tYes, if_true]
  exact hte z H' _ (List.mem_of_getElem? e) sm fun H2 s2 => hN _ _ ⟨by rw [List.take_succ, e]; simp, sm.trans s2⟩
 ·rintro acc H' ⟨rfl, sm⟩ p hp
  rw [List.length_map, List.take_length]
  exact hR p _ (SqL.of z7) (sm.trans (Same.upd hp))
theorem zc7 : ∀ (ss ls : List Str), ss.Nodup → (∀ z ∈ ss, z ∈ ls) → ss.length ≤ ls.length
 | [], ls, _, _ => Nat.zero_le _
 | z :: ss, ls, h, m => by
  have hz := m z (List.mem_cons_self ..)
  rw [List.nodup_cons] at h
  have := zc7 ss (ls.erase z) h.2 fun y hy => (List.mem_erase_of_ne (fun e => h.1 (by rw [← e]; exact hy))).mpr (m y (List.mem_cons_of_mem _ hy))
  rw [List.length_erase_of_mem hz] at this
  have : 0 < ls.length := List.length_pos_of_mem hz
  rw [List.length_cons]
  omega
theorem z76 (k : Int) (hs ls ss ts : List Str) : z11 k hs ls ss ts = true ↔ (1 ≤ k ∧ k ≤ 5) ∧ (1 ≤ hs.length ∧ hs.length ≤ 8 ∧ hs.Nodup ∧ hs.all zm = true) ∧ (1 ≤ ls.length ∧ ls.length ≤ 10 ∧ ls.Nodup ∧ ls.all z17 = true) ∧ (ss.length ≤ 10 ∧ ss.Nodup ∧ (ss.all fun z => decide (z ∈ ls)) = true) ∧ (ts.length ≤ 4 ∧ ts.Nodup ∧ ts.all zm = true) := by
 unfold z11
 simp only [List.all_cons, List.all_nil, List.all_map, Bool.and_eq_true, decide_eq_true_eq, id, Bool.and_true, Function.comp_def]
 constructor
 ·rintro ⟨a, ⟨⟨b1, b2⟩, b3⟩, ⟨⟨c1, c2⟩, c3⟩, ⟨⟨d1, d2⟩, d3⟩, ⟨⟨e1, e2⟩, e3⟩, f1, f2, f3, f4⟩
  exact ⟨a, ⟨by omega, by omega, b3, f1⟩, ⟨by omega, by omega, c3, f3⟩, ⟨by omega, d3, f4⟩, ⟨by omega, e3, f2⟩⟩
 ·rintro ⟨a, ⟨b1, b2, b3, f1⟩, ⟨c1, c2, c3, f3⟩, ⟨d1, d3, f4⟩, ⟨e2, e3, f2⟩⟩
  exact ⟨a, ⟨⟨by omega, by omega⟩, b3⟩, ⟨⟨by omega, by omega⟩, c3⟩, ⟨⟨by omega, by omega⟩, d3⟩, ⟨⟨by omega, by omega⟩, e3⟩, f1, f2, f3, f4⟩
theorem z77 (zs : List Str) : (zy zs).Nodup := by
 unfold zy
 have : ∀ (zs D : List Str), D.Nodup → (zs.foldl zw D).Nodup := by
  intro zs
  induction zs with
  | nil => exact fun D h => h
  | cons z zs ih =>
   intro D h
   refine ih _ ?_
   unfold zw
   split
   ·exact h
   ·rename_i hz
    rw [List.nodup_append]
    exact ⟨h, by simp, fun a ha b hb => by rw [List.mem_singleton.mp hb]; rintro rfl; exact hz ha⟩
 exact this zs [] List.nodup_nil
def z8a : Sp := fun vs H Q _ => ∃ (p : Addr) (zs : List Str) (lo hi : Int), vs = [.ref p, .int lo, .int hi] ∧ Texts H p zs ∧ z42 H Q (.bl (decide (lo ≤ (zs.length : Int)) && decide ((zs.length : Int) ≤ hi) && decide (zs.Nodup) && zs.all zm))
theorem z5j (F : Def K mg "_law_names_ok" z2l ["_law_names_here", "_law_least", "_law_most"]) (T : Txt K mg C_BadSetup C_Council C_GateError C_Keeper C_Store C_World t_MOST_HOLDERS t_MOST_KEEPERS t_MOST_LOCKS t_MOST_NAMES t_MOST_SIGNS t_MOST_STORES t_NAME_SIGNS) (G__law_good : Has P w K mg base 1 "_law_good" ["_law_text"] (z6d)) : Has P w K mg base 2 "_law_names_ok" ["_law_names_here", "_law_least", "_law_most"] (z8a) := by
 refine F.ok z5h (fun vs H Q E h => ?_) (fun f cdv A outer s H vs Q E hr h => ?_)
 ·obtain ⟨p, zs, lo, hi, rfl, _⟩ := h
  rfl
 ·obtain ⟨p, zs, lo, hi, rfl, hp, q⟩ := h
  have hu := hr.units0
  have hu2 := z4q hr
  refine ⟨_, (@z9 _ _ _ _ _ (@zr _ _ _ _ _ _ _ _ (PW.pt (@z2h _ _ _ _ _ _ _ (@zh _ _ _ _ _ _ _ _ z22 (@z8 _ _ _ _ _ _ _ _ _ zg rfl T.b_len (by decide +kernel) (@z0 _ _ _ _ _ (pv 0) z5 rfl) (by decide) (by decide) rfl rfl) (pv 1) (zf _)) (@z2h _ _ _ _ _ _ _ (@zh _ _ _ _ _ _ _ _ z5m (@z8 _ _ _ _ _ _ _ _ _ zg rfl T.b_len (by decide +kernel) (@z0 _ _ _ _ _ (pv 0) z5 rfl) (by decide) (by decide) rfl rfl) (pv 2) (zf _)) (@z2g _ _ _ _ (@zh _ _ _ _ _ _ _ _ z22 (@z8 _ _ _ _ _ _ _ _ _ zg rfl T.b_len (by decide +kernel) (@z0 _ _ _ _ _ (@z8 _ _ _ _ _ _ _ _ _ (z7w rfl) rfl T.b_sorted (by decide +kernel) (@z0 _ _ _ _ _ (@z1e _ _ _ _ _ _ _ _ _ (z3h rfl) rfl T.b_set (by decide +kernel) (@z0 _ _ _ _ _ (pv 0) z5 rfl) (by decide) (by decide) rfl rfl) z5 rfl) (by decide) (by decide) rfl rfl) z5 rfl) (by decide) (by decide) rfl rfl) (@z8 _ _ _ _ _ _ _ _ _ zg rfl T.b_len (by decide +kernel) (@z0 _ _ _ _ _ (pv 0) z5 rfl) (by decide) (by decide) rfl rfl) (zf _)))))) (@za _ _ _ (@zk _ _ _ _ z1k)) zl) (@za _ _ _ (@zk _ _ _ _ (@z8 _ _ _ _ _ _ _ _ _ (z10 rfl) rfl T.b_all (by decide +kernel) (@z0 _ _ _ _ _ (@z1a _ _ "_law_name_here" ([]) ([]) _ _ _ _ _ _ _ _ rfl ⟨rfl, by decide +kernel, by decide +kernel, rfl, zv rfl, by decide +kernel, trivial⟩ (@z1m _ _ _ _ (pv 0)) (fun _ _ _ _ => z14) (fun _ _ _ _ => (@zu _ _ _ _ _ _ _ _ _ _ G__law_good (hr.mono (by decide)) rfl (@z0 _ _ _ _ _ (pv 0) z5 rfl) (by decide) rfl rfl)) (by intro _; rfl)) z5 rfl) (by decide) (by decide) rfl rfl)))), ?_⟩
  walk_at "rd"
  have hl := hp.2.1
  refine ⟨_, .inl (SqL.of hp.1), ?_⟩
  rw [List.length_map]
  have no : ¬ ((lo ≤ (zs.length : Int) ∧ (zs.length : Int) ≤ hi) ∧ zs.Nodup) → ∀ H', Same H H' → Q (.bl false) H' := fun n H' s' => by
   have e := q H' s'
   have : (decide (lo ≤ (zs.length : Int)) && decide ((zs.length : Int) ≤ hi) && decide (zs.Nodup)) = false := by
    rw [Bool.eq_false_iff]
    intro w
    simp only [Bool.and_eq_true, decide_eq_true_eq] at w
    exact n w
   rw [this, Bool.false_and] at e
   exact e
  refine ite2 (fun h1 => ?_) (fun h1 => ?_)
  ·have h1 := of_decide_eq_true h1
   exact no (fun w => by omega) _ (Same.refl _)
  have h1 : ¬ (zs.length : Int) < lo := by simpa using h1
  refine ⟨_, .inl (SqL.of hp.1), ?_⟩
  rw [List.length_map]
  refine ite2 (fun h2 => ?_) (fun h2 => ?_)
  ·have h2 := of_decide_eq_true h2
   exact no (fun w => by omega) _ (Same.refl _)
  have h2 : ¬ hi < (zs.length : Int) := by simpa using h2
  refine ⟨zs, SqL.of hp.1, by show zs.length + 1 < 4096; omega, fun d hd => ⟨_, z7, z77 zs, by have := z21 zs []; show (zs.foldl zw []).length < 64; simp at this; omega, fun l ks hl0 hperm _ => ?_⟩⟩
  have s2 : Same H (upd (upd H d (tso P w d (zy zs))) l (.lst (ks.map V.str))) := (Same.upd hd).trans (Same.upd hl0)
  have lk : ks.length = (zy zs).length := hperm.length_eq
  refine ⟨_, .inl (SqL.of z7), _, .inl (SqL.of (s2 _ _ hp.1)), ?_⟩
  rw [List.length_map, List.length_map]
  have ml : (zy zs).length ≤ zs.length := by have := z21 zs []; simp at this; exact this
  refine ite2 (fun h3 => ?_) (fun h3 => ?_)
  ·have h3 := of_decide_eq_true h3
   exact no (fun w => by have := (metAll_nodup zs).mpr w.2; omega) _ s2
  have h3 : ¬ (ks.length : Int) < (zs.length : Int) := by simpa using h3
  have nd : zs.Nodup := (metAll_nodup zs).mp (by omega)
  refine ⟨⟨_, SqL.of (s2 _ _ hp.1)⟩, z6e (f := zm) (s2 _ _ hp.1) (by omega) (fun z H1 R1 hz s3 hR => ?_) fun p5 H5 g5 s5 => ⟨p5, rfl, _, g5, ?_⟩⟩
  ·walk_at "rd"
   exact ⟨z, rfl, hp.2.2 z hz, hR _ (Same.refl _)⟩
  have e := q _ (s2.trans s5)
  rw [decide_eq_true (by omega), decide_eq_true (by omega), decide_eq_true nd, Bool.true_and, Bool.true_and, Bool.true_and] at e
  rw [List.all_map]
  exact e
def zc8 : Sp := fun vs H Q _ => ∃ (k : Int) (p : Addr) (u : Su4), vs = [.int k, .ref p] ∧ Su4At H p u ∧ z42 H Q (.bl (z11 k u.hs u.ls u.ss u.ts))
theorem z9v (F : Def K mg "_law_ok" z4i ["_law_keepers", "_law_lists"]) (T : Txt K mg C_BadSetup C_Council C_GateError C_Keeper C_Store C_World t_MOST_HOLDERS t_MOST_KEEPERS t_MOST_LOCKS t_MOST_NAMES t_MOST_SIGNS t_MOST_STORES t_NAME_SIGNS) (G__law_good : Has P w K mg base 1 "_law_good" ["_law_text"] (z6d)) (G__law_names_ok : Has P w K mg base 2 "_law_names_ok" ["_law_names_here", "_law_least", "_law_most"] (z8a)) : Has P w K mg base 3 "_law_ok" ["_law_keepers", "_law_lists"] (zc8) := by
 refine F.ok sc__law_ok (fun vs H Q E h => ?_) (fun f cdv A outer s H vs Q E hr h => ?_)
 ·obtain ⟨k, p, u, rfl, _⟩ := h
  rfl
 ·obtain ⟨k, p, u, rfl, hp, q⟩ := h
  have hu := hr.units0
  have hu2 := z4q hr
  refine ⟨_, (@z9 _ _ _ _ _ (@zr _ _ _ _ _ _ _ _ (PW.pt (@z2h _ _ _ _ _ _ _ (@zh _ _ _ _ _ _ _ _ z22 (pv 0) z6 (zf _)) (@z2g _ _ _ _ (@zh _ _ _ _ _ _ _ _ z5m (pv 0) z6 (zf _))))) (@za _ _ _ (@zk _ _ _ _ z1k)) zl) (@z9 _ _ _ _ _ (@zr _ _ _ _ _ _ _ _ (PW.pt (@z2h _ _ _ _ _ _ _ (@z2y _ _ _ _ (@z1w _ _ _ (@zu _ _ _ _ _ _ _ _ _ _ G__law_names_ok (hr.mono (by decide)) rfl (@z0 _ _ _ _ _ (@zp _ _ _ _ _ _ _ ix_list (pv 1) z6 (fun _ _ => rfl)) (@z0 _ _ _ _ _ z6 (@z0 _ _ _ _ _ z6 z5 rfl) rfl) rfl) (by decide) rfl rfl) (by intro _; rfl))) (@z2g _ _ _ _ (@z2y _ _ _ _ (@z1w _ _ _ (@zu _ _ _ _ _ _ _ _ _ _ G__law_names_ok (hr.mono (by decide)) rfl (@z0 _ _ _ _ _ (@zp _ _ _ _ _ _ _ ix_list (pv 1) z6 (fun _ _ => rfl)) (@z0 _ _ _ _ _ z6 (@z0 _ _ _ _ _ z6 z5 rfl) rfl) rfl) (by decide) rfl rfl) (by intro _; rfl)))))) (@za _ _ _ (@zk _ _ _ _ z1k)) zl) (@z9 _ _ _ _ _ (@zr _ _ _ _ _ _ _ _ (PW.pt (@z2h _ _ _ _ _ _ _ (@zh _ _ _ _ _ _ _ _ z22 (@z8 _ _ _ _ _ _ _ _ _ zg rfl T.b_len (by decide +kernel) (@z0 _ _ _ _ _ (@zp _ _ _ _ _ _ _ ix_list (pv 1) z6 (fun _ _ => rfl)) z5 rfl) (by decide) (by decide) rfl rfl) z6 (zf _)) (@z2h _ _ _ _ _ _ _ (@zh _ _ _ _ _ _ _ _ z5m (@z8 _ _ _ _ _ _ _ _ _ zg rfl T.b_len (by decide +kernel) (@z0 _ _ _ _ _ (@zp _ _ _ _ _ _ _ ix_list (pv 1) z6 (fun _ _ => rfl)) z5 rfl) (by decide) (by decide) rfl rfl) z6 (zf _)) (@z2g _ _ _ _ (@zh _ _ _ _ _ _ _ _ z22 (@z8 _ _ _ _ _ _ _ _ _ z37 rfl T.b_len (by decide +kernel) (@z0 _ _ _ _ _ (@z1e _ _ _ _ _ _ _ _ _ (z3h rfl) rfl T.b_set (by decide +kernel) (@z0 _ _ _ _ _ (@zp _ _ _ _ _ _ _ ix_list (pv 1) z6 (fun _ _ => rfl)) z5 rfl) (by decide) (by decide) rfl rfl) z5 rfl) (by decide) (by decide) rfl rfl) (@z8 _ _ _ _ _ _ _ _ _ zg rfl T.b_len (by decide +kernel) (@z0 _ _ _ _ _ (@zp _ _ _ _ _ _ _ ix_list (pv 1) z6 (fun _ _ => rfl)) z5 rfl) (by decide) (by decide) rfl rfl) (zf _)))))) (@za _ _ _ (@zk _ _ _ _ z1k)) zl) (@z9 _ _ _ _ _ (@z49 _ _ _ _ _ _ _ _ PassesOwn.never rfl (@z1m _ _ _ _ (@zp _ _ _ _ _ _ _ ix_list (pv 1) z6 (fun _ _ => rfl))) (@z3r _ _ 2 _ sc__law_ok.nd rfl (Or.inl rfl) (Or.inr rfl)) (@z9 _ _ _ _ _ (@zo _ _ 3 _ _ _ _ sc__law_ok.nd rfl (Or.inl rfl) (@z40 _ _ _ _ _ _ _ _ _ _ _ _ PySem.F.plainAttrs_str PySem.F.slot_str_split PySem.F.type_str_split z7n (pv 2) (@z0 _ _ _ _ _ z1d z5 rfl) rfl rfl rfl rfl rfl) rfl (Or.inr rfl)) (@za _ _ _ (@zr _ _ _ _ _ _ _ _ (PW.pt (@z2h _ _ _ _ _ _ _ (@zh _ _ _ _ _ _ _ _ z5m (@z8 _ _ _ _ _ _ _ _ _ zg rfl T.b_len (by decide +kernel) (@z0 _ _ _ _ _ (pv 3) z5 rfl) (by decide) (by decide) rfl rfl) z6 (zf _)) (@z2g _ _ _ _ (@z2y _ _ _ _ (@z1w _ _ _ (@z8 _ _ _ _ _ _ _ _ _ (z10 rfl) rfl T.b_all (by decide +kernel) (@z0 _ _ _ _ _ (@z1a _ _ "_law_part" ([]) ([]) _ _ _ _ _ _ _ _ rfl ⟨rfl, by decide +kernel, by decide +kernel, rfl, zv rfl, by decide +kernel, trivial⟩ (@z1m _ _ _ _ (pv 3)) (fun _ _ _ _ => z14) (fun _ _ _ _ => (@zu _ _ _ _ _ _ _ _ _ _ G__law_good (hr.mono (by decide)) rfl (@z0 _ _ _ _ _ (pv 0) z5 rfl) (by decide) rfl rfl)) (by intro _; rfl)) z5 rfl) (by decide) (by decide) rfl rfl) (by intro _; rfl)))))) (@za _ _ _ (@zk _ _ _ _ z1k)) zl))) (by intro _; rfl)) (@z9 _ _ _ _ _ (@zr _ _ _ _ _ _ _ _ (@zh _ _ _ _ _ _ _ _ z22 (@z8 _ _ _ _ _ _ _ _ _ z37 rfl T.b_len (by decide +kernel) (@z0 _ _ _ _ _ (@z1e _ _ _ _ _ _ _ _ _ (z3h rfl) rfl T.b_set (by decide +kernel) (@z0 _ _ _ _ _ (@zp _ _ _ _ _ _ _ ix_list (pv 1) z6 (fun _ _ => rfl)) z5 rfl) (by decide) (by decide) rfl rfl) z5 rfl) (by decide) (by decide) rfl rfl) (@z8 _ _ _ _ _ _ _ _ _ zg rfl T.b_len (by decide +kernel) (@z0 _ _ _ _ _ (@zp _ _ _ _ _ _ _ ix_list (pv 1) z6 (fun _ _ => rfl)) z5 rfl) (by decide) (by decide) rfl rfl) (zf _)) (@za _ _ _ (@zk _ _ _ _ z1k)) zl) (@za _ _ _ (@zk _ _ _ _ (@z8 _ _ _ _ _ _ _ _ _ (z10 rfl) rfl T.b_all (by decide +kernel) (@z0 _ _ _ _ _ (@z1a _ _ "_law_path" (["_law_lists"]) ([1]) _ _ _ _ _ _ _ _ rfl ⟨rfl, by decide +kernel, by decide +kernel, rfl, zv rfl, by decide +kernel, ⟨⟨rfl, Or.inl rfl, rfl⟩, trivial⟩⟩ (@z1m _ _ _ _ (@zp _ _ _ _ _ _ _ ix_list (pv 1) z6 (fun _ _ => rfl))) (fun _ _ _ _ => z14) (fun _ _ _ _ => (@z1f _ _ _ _ _ _ _ _ (z53 (K := K)) (pv 0) (@zp _ _ _ _ _ _ _ (zau (K := K)) (pv 1) z6 (fun _ _ => rfl)) (by with_unfolding_all rfl))) (by intro _; rfl)) z5 rfl) (by decide) (by decide) rfl rfl)))))))), ?_⟩
  walk_at "rd"
  have gi := z76 k u.hs u.ls u.ss u.ts
  have no : ¬ z11 k u.hs u.ls u.ss u.ts = true → ∀ H', Same H H' → Q (.bl false) H' := fun n H' s' => by
   have e := q H' s'
   rw [Bool.eq_false_iff.mpr n] at e
   exact e
  rw [gi] at no
  have l1 := hp.ga.2.1; have l2 := hp.gb.2.1; have l3 := hp.gc.2.1; have l4 := hp.gd.2.1
  refine ite2 (fun h1 => ?_) (fun h1 => ?_)
  ·have h1 := of_decide_eq_true h1
   exact no (fun w => by omega) _ (Same.refl _)
  have h1 : ¬ k < 1 := by simpa using h1
  refine ite2 (fun h2 => ?_) (fun h2 => ?_)
  ·have h2 := of_decide_eq_true h2
   exact no (fun w => by omega) _ (Same.refl _)
  have h2 : ¬ 5 < k := by simpa using h2
  refine ⟨_, _, _, _, rfl, rfl, SqL.of hp.gp, zb (j := 0) rfl, u.a, u.hs, _, _, rfl, hp.ga, fun H1 s1 => ⟨_, rfl, ?_⟩⟩
  refine ite2 (fun h3 => ?_) (fun h3 => ?_)
  ·refine no (fun w => ?_) _ s1
   obtain ⟨-, ⟨w1, w2, w3, w4⟩, -⟩ := w
   rw [decide_eq_true (by omega), decide_eq_true (by omega), decide_eq_true w3, w4] at h3
   cases h3
  have h3 : (1 ≤ u.hs.length ∧ u.hs.length ≤ 8 ∧ u.hs.Nodup ∧ u.hs.all zm = true) := by
   simp only [Bool.not_eq_true', Bool.not_eq_false, Bool.and_eq_true, decide_eq_true_eq] at h3
   exact ⟨by omega, by omega, h3.1.2, h3.2⟩
  refine ⟨_, _, _, _, rfl, rfl, SqL.of (s1 _ _ hp.gp), zb (j := 3) rfl, u.d, u.ts, _, _, rfl, hp.gd.mono s1, fun H2 s2 => ⟨_, rfl, ?_⟩⟩
  have s12 := s1.trans s2
  refine ite2 (fun h4 => ?_) (fun h4 => ?_)
  ·refine no (fun w => ?_) _ s12
   obtain ⟨-, -, -, -, ⟨w2, w3, w4⟩⟩ := w
   rw [decide_eq_true (by omega), decide_eq_true (by omega), decide_eq_true w3, w4] at h4
   cases h4
  have h4 : (u.ts.length ≤ 4 ∧ u.ts.Nodup ∧ u.ts.all zm = true) := by
   simp only [Bool.not_eq_true', Bool.not_eq_false, Bool.and_eq_true, decide_eq_true_eq] at h4
   exact ⟨by omega, h4.1.2, h4.2⟩
  have gp2 := s12 _ _ hp.gp
  have gb2 := s12 _ _ hp.gb.1
  refine ⟨_, _, _, _, rfl, rfl, SqL.of gp2, zb (j := 1) rfl, _, rfl, _, .inl (SqL.of gb2), ?_⟩
  rw [List.length_map]
  refine ite2 (fun h5 => ?_) (fun h5 => ?_)
  ·have h5 := of_decide_eq_true h5
   exact no (fun w => by omega) _ s12
  have h5 : ¬ (u.ls.length : Int) < 1 := by simpa using h5
  refine ⟨_, _, _, _, rfl, rfl, SqL.of gp2, zb (j := 1) rfl, _, rfl, _, .inl (SqL.of gb2), ?_⟩
  rw [List.length_map]
  refine ite2 (fun h6 => ?_) (fun h6 => ?_)
  ·have h6 := of_decide_eq_true h6
   exact no (fun w => by omega) _ s12
  have h6 : ¬ (10 : Int) < (u.ls.length : Int) := by simpa using h6
  refine ⟨_, _, _, _, rfl, rfl, SqL.of gp2, zb (j := 1) rfl, _, rfl, u.ls, SqL.of gb2, by show u.ls.length + 1 < 4096; omega, fun d hd0 => ⟨_, z7, ?_⟩⟩
  have s3 : Same H (upd H2 d (tso P w d (zy u.ls))) := s12.trans (Same.upd hd0)
  generalize upd H2 d (tso P w d (zy u.ls)) = H3 at s3 ⊢
  refine ⟨_, _, _, _, rfl, rfl, SqL.of (s3 _ _ hp.gp), zb (j := 1) rfl, ?_⟩
  refine ⟨_, rfl, _, .inl (SqL.of (s3 _ _ hp.gb.1)), ?_⟩
  rw [List.length_map]
  refine ite2 (fun h7 => ?_) (fun h7 => ?_)
  ·have h7 := of_decide_eq_true h7
   exact no (fun w => by have := (metAll_nodup u.ls).mpr w.2.2.1.2.2.1; omega) _ s3
  have h7 : ¬ ((zy u.ls).length : Int) < (u.ls.length : Int) := by simpa using h7
  have ndl : u.ls.Nodup := (metAll_nodup u.ls).mp (by
   have : (zy u.ls).length ≤ u.ls.length := by have := z21 u.ls []; simp at this; exact this
   omega)
  refine ⟨_, _, _, _, rfl, rfl, SqL.of (s3 _ _ hp.gp), zb (j := 1) rfl, _, rfl, ⟨_, SqL.of (s3 _ _ hp.gb.1)⟩, ?_⟩
  refine z5t (xs := u.ls.map V.str) (fun i σ H' => ∃ v2 v3 : Option V, σ = [some (.int k), some (.ref p), v2, v3] ∧ Same H H' ∧ (u.ls.take i).all z17 = true) ⟨_, _, rfl, s3, rfl⟩ ?_ ?_ ?_
  ·rintro i σ H' - ⟨v2, v3, rfl, s4, -⟩
   exact SqL.of (s4 _ _ hp.gb.1)
  ·rintro Pv hP i x σ H' hx ⟨v2, v3, rfl, s4, al⟩
   rw [List.getElem?_map] at hx
   cases e : u.ls[i]? with
   | none => rw [e] at hx; cases hx
   | some z =>
   rw [e] at hx
   cases hx
   have mz := List.mem_of_getElem? e
   have lz := hp.gb.2.2 z mz
   walk_at "rd"
   refine z8t rfl (by omega) fun q1 hq1 => ⟨q1, rfl, _, .inl (SqL.of z7), ?_⟩
   rw [List.length_map]
   have l0 := zb5 z
   have sq : Same H (upd H' q1 (.lst ((sp z).map V.str))) := s4.trans (Same.upd hq1)
   have gq : upd H' q1 (.lst ((sp z).map V.str)) q1 = _ := z7
   change Same H (upd H' q1 (.lst ((Txt.split z (Str.ofString "/")).map V.str))) at sq
   change upd H' q1 (.lst ((Txt.split z (Str.ofString "/")).map V.str)) q1 = _ at gq
   generalize upd H' q1 (.lst ((Txt.split z (Str.ofString "/")).map V.str)) = H5 at sq gq ⊢
   have bad : z17 z = false → Q (.bl false) H5 := fun b => by
    refine no (fun w => ?_) _ sq
    have := List.all_eq_true.mp w.2.2.1.2.2.2 z mz
    rw [b] at this
    cases this
   refine ite2 (fun h8 => ?_) (fun h8 => ?_)
   ·have h8 : ¬ (sp z).length ≤ 4 := by
     have : (4 : Int) < ((Txt.split z "/").length : Int) := by simpa using h8
     show ¬ (Txt.split z "/").length ≤ 4
     omega
    exact bad (by unfold z17; rw [decide_eq_false h8, Bool.false_and])
   have h8 : (sp z).length ≤ 4 := by
    have : ¬ (4 : Int) < ((Txt.split z "/").length : Int) := by simpa using h8
    show (Txt.split z "/").length ≤ 4
    omega
   refine ⟨q1, rfl, ⟨_, SqL.of gq⟩, z6e (f := zm) (zs := sp z) gq (by omega) (fun y H6 R1 hy s6 hR => ?_) fun p6 H6 g6 s6 => ⟨p6, rfl, _, g6, ?_⟩⟩
   ·walk_at "rd"
    have := z91 z y hy
    exact ⟨y, rfl, by omega, hR _ (Same.refl _)⟩
   have e9 : ((sp z).map zm).all id = z17 z := by
    unfold z17
    rw [decide_eq_true h8, List.all_map]
    rfl
   rw [e9]
   refine ite2 (fun h9 => ?_) (fun h9 => ?_)
   ·have h9 : z17 z = false := by simpa using h9
    refine no (fun w => ?_) _ (sq.trans s6)
    have := List.all_eq_true.mp w.2.2.1.2.2.2 z mz
    rw [h9] at this
    cases this
   have h9 : z17 z = true := by simpa using h9
   refine hP _ _ _ ⟨_, _, rfl, sq.trans s6, ?_⟩
   rw [List.take_succ, e, List.all_append, al]
   simp [h9]
  ·rintro σ H' ⟨v2, v3, rfl, s4, al⟩
   rw [List.length_map, List.take_length] at al
   walk_at "rd"
   refine ⟨_, _, _, _, rfl, rfl, SqL.of (s4 _ _ hp.gp), zb (j := 2) rfl, _, rfl, u.ss, SqL.of (s4 _ _ hp.gc.1), by show u.ss.length + 1 < 4096; omega, fun d5 hd5 => ⟨_, z7, ?_⟩⟩
   have s5 : Same H (upd H' d5 (tso P w d5 (zy u.ss))) := s4.trans (Same.upd hd5)
   generalize upd H' d5 (tso P w d5 (zy u.ss)) = H5 at s5 ⊢
   refine ⟨_, _, _, _, rfl, rfl, SqL.of (s5 _ _ hp.gp), zb (j := 2) rfl, _, rfl, _, .inl (SqL.of (s5 _ _ hp.gc.1)), ?_⟩
   rw [List.length_map]
   refine ite2 (fun h8 => ?_) (fun h8 => ?_)
   ·have h8 := of_decide_eq_true h8
    exact no (fun w => by have := (metAll_nodup u.ss).mpr w.2.2.2.1.2.1; omega) _ s5
   have h8 : ¬ ((zy u.ss).length : Int) < (u.ss.length : Int) := by simpa using h8
   have nds : u.ss.Nodup := (metAll_nodup u.ss).mp (by
    have : (zy u.ss).length ≤ u.ss.length := by have := z21 u.ss []; simp at this; exact this
    omega)
   refine ⟨_, _, _, _, rfl, rfl, SqL.of (s5 _ _ hp.gp), zb (j := 2) rfl, _, rfl, ⟨_, SqL.of (s5 _ _ hp.gc.1)⟩, ?_⟩
   refine z6e (f := fun z => decide (z ∈ u.ls)) (s5 _ _ hp.gc.1) (by omega) (fun y H6 R1 hy s6 hR => ?_) fun p6 H6 g6 s6 => ⟨p6, rfl, _, g6, ?_⟩
   ·walk_at "rd"
    refine ⟨_, _, _, _, rfl, rfl, SqL.of (s6 _ _ (s5 _ _ hp.gp)), zb (j := 1) rfl, _, _, rfl, .inl (SqL.of (s6 _ _ (s5 _ _ hp.gb.1))), rfl, z4b _, ?_⟩
    rw [if_neg Bool.false_ne_true, z92]
    exact hR _ (Same.refl _)
   rw [List.all_map]
   have e := q _ (s5.trans s6)
   have eg : z11 k u.hs u.ls u.ss u.ts = u.ss.all fun z => decide (z ∈ u.ls) := by
    rw [Bool.eq_iff_iff, gi]
    constructor
    ·exact fun w => w.2.2.2.1.2.2
    ·intro w
     have := zc7 u.ss u.ls nds (fun z hz => of_decide_eq_true (List.all_eq_true.mp w z hz))
     exact ⟨⟨by omega, by omega⟩, h3, ⟨by omega, by omega, ndl, al⟩, ⟨by omega, nds, w⟩, h4⟩
   rw [eg] at e
   exact e
theorem Su4At.np {H : Hp} {p r : Addr} {u : Su4} {zs : List Str} (h : Su4At H p u) (t : Texts H r zs) : r ≠ p := fun z => by
 have := t.1
 rw [z, h.gp] at this
 cases zs with
 | nil => simp at this
 | cons y ys => simp at this
theorem Texts.keep {H : Hp} {r p : Addr} {zs : List Str} (t : Texts H r zs) (n : r ≠ p) (o : HO) : Texts (upd H p o) r zs := ⟨by rw [zc n]; exact t.1, t.2⟩
theorem Su4At.top {H : Hp} {p r : Addr} {u : Su4} {zs : List Str} (h : Su4At H p u) (t : Texts H r zs) {j : Nat} (hj : j < 4) : ∃ u', Su4At (upd H p (.lst ([V.ref u.a, .ref u.b, .ref u.c, .ref u.d].set j (.ref r)))) p u' := by
 have ta := h.ga.keep (h.np h.ga); have tb := h.gb.keep (h.np h.gb); have tc := h.gc.keep (h.np h.gc); have td := h.gd.keep (h.np h.gd)
 have tr := t.keep (h.np t)
 rcases (show j = 0 ∨ j = 1 ∨ j = 2 ∨ j = 3 by omega) with rfl | rfl | rfl | rfl
 ·exact ⟨⟨r, u.b, u.c, u.d, zs, u.ls, u.ss, u.ts⟩, z7, tr _, tb _, tc _, td _⟩
 ·exact ⟨⟨u.a, r, u.c, u.d, u.hs, zs, u.ss, u.ts⟩, z7, ta _, tr _, tc _, td _⟩
 ·exact ⟨⟨u.a, u.b, r, u.d, u.hs, u.ls, zs, u.ts⟩, z7, ta _, tb _, tr _, td _⟩
 ·exact ⟨⟨u.a, u.b, u.c, r, u.hs, u.ls, u.ss, zs⟩, z7, ta _, tb _, tc _, tr _⟩
theorem Su4At.row {H : Hp} {p r : Addr} {u : Su4} {zs : List Str} (h : Su4At H p u) (d : u.a ≠ u.b ∧ u.a ≠ u.c ∧ u.a ≠ u.d ∧ u.b ≠ u.c ∧ u.b ≠ u.d ∧ u.c ≠ u.d) (hr : r = u.a ∨ r = u.b ∨ r = u.c ∨ r = u.d) (hz : zs.length ≤ 60 ∧ ∀ z ∈ zs, z.length ≤ 1000) : ∃ u', Su4At (upd H r (.lst (zs.map V.str))) p u' := by
 obtain ⟨d1, d2, d3, d4, d5, d6⟩ := d
 have nr : p ≠ r := by
  rcases hr with rfl | rfl | rfl | rfl
  ·exact (h.np h.ga).symm
  ·exact (h.np h.gb).symm
  ·exact (h.np h.gc).symm
  ·exact (h.np h.gd).symm
 have g : upd H r (.lst (zs.map V.str)) p = some (.lst [.ref u.a, .ref u.b, .ref u.c, .ref u.d]) := by rw [zc nr]; exact h.gp
 have t : Texts (upd H r (.lst (zs.map V.str))) r zs := ⟨z7, hz⟩
 rcases hr with rfl | rfl | rfl | rfl
 ·exact ⟨⟨_, u.b, u.c, u.d, zs, u.ls, u.ss, u.ts⟩, g, t, h.gb.keep d1.symm _, h.gc.keep d2.symm _, h.gd.keep d3.symm _⟩
 ·exact ⟨⟨u.a, _, u.c, u.d, u.hs, zs, u.ss, u.ts⟩, g, h.ga.keep d1 _, t, h.gc.keep d4.symm _, h.gd.keep d5.symm _⟩
 ·exact ⟨⟨u.a, u.b, _, u.d, u.hs, u.ls, zs, u.ts⟩, g, h.ga.keep d2 _, h.gb.keep d4 _, t, h.gd.keep d6.symm _⟩
 ·exact ⟨⟨u.a, u.b, u.c, _, u.hs, u.ls, u.ss, zs⟩, g, h.ga.keep d3 _, h.gb.keep d5 _, h.gc.keep d6 _, t⟩
theorem zc9 {way : Int} (w0 : 0 ≤ way) (w1 : way < 3) : ∃ j : Nat, atI [V.int 0, V.int 1, V.int 3] way = some (V.int (j : Int)) ∧ j < 4 := by
 rcases (show way = 0 ∨ way = 1 ∨ way = 2 by omega) with rfl | rfl | rfl
 ·exact ⟨0, zb (j := 0) rfl, by decide⟩
 ·exact ⟨1, zb (j := 1) rfl, by decide⟩
 ·exact ⟨3, zb (j := 2) rfl, by decide⟩
theorem ix4 {x y z t : V} {j : Nat} (h : j < 4) : ixN [x, y, z, t].length (j : Int) = some j := by
 show ixN 4 (j : Int) = some j
 unfold ixN
 rw [if_pos (by omega), if_pos (by omega), Int.toNat_natCast]
def z96 : Sp := fun vs H Q _ => ∃ (p : Addr) (u : Su4) (way cell : Int), vs = [.ref p, .int way, .int cell] ∧ Su4At H p u ∧ (u.a ≠ u.b ∧ u.a ≠ u.c ∧ u.a ≠ u.d ∧ u.b ≠ u.c ∧ u.b ≠ u.d ∧ u.c ≠ u.d) ∧ 0 ≤ way ∧ way < 13 ∧ u.hs.length ≤ 12 ∧ u.ls.length ≤ 12 ∧ u.ss.length ≤ 12 ∧ u.ts.length ≤ 12 ∧
 ∀ (u' : Su4) (H' : Hp), Su4At H' p u' → Q (.ref p) H'
theorem z78 (F : Def K mg "_law_spoil" z3d ["_law_lists", "_law_way", "_law_cell"]) (T : Txt K mg C_BadSetup C_Council C_GateError C_Keeper C_Store C_World t_MOST_HOLDERS t_MOST_KEEPERS t_MOST_LOCKS t_MOST_NAMES t_MOST_SIGNS t_MOST_STORES t_NAME_SIGNS) : Has P w K mg base 1 "_law_spoil" ["_law_lists", "_law_way", "_law_cell"] (z96) := by
 refine F.ok sc__law_spoil (fun vs H Q E h => ?_) (fun f cdv A outer s H vs Q E hr h => ?_)
 ·obtain ⟨p, u, way, cell, rfl, _⟩ := h
  rfl
 ·obtain ⟨p, u, way, cell, rfl, hp, hd, w0, w1, l1, l2, l3, l4, q⟩ := h
  have hu := hr.units0
  have hu2 := z4q hr
  refine ⟨_, (@z9 _ _ _ _ _ (@zo _ _ 3 _ _ _ _ sc__law_spoil.nd rfl (Or.inl rfl) (@zd _ _ _ _ _ _ _ _ zx (pv 2) z6) rfl (Or.inr rfl)) (@z9 _ _ _ _ _ (@zo _ _ 4 _ _ _ _ sc__law_spoil.nd rfl (Or.inl rfl) (@zd _ _ _ _ _ _ _ _ z13 (pv 2) z6) rfl (Or.inr rfl)) (@z9 _ _ _ _ _ (@zo _ _ 5 _ _ _ _ sc__law_spoil.nd rfl (Or.inl rfl) (@zp _ _ _ _ _ _ _ ix_list (pv 0) (pv 3) (fun _ _ => rfl)) rfl (Or.inr rfl)) (@z1z _ _ _ _ _ (@zr _ _ _ _ _ _ _ _ (@zh _ _ _ _ _ _ _ _ z22 (pv 1) z6 (zf _)) (@za _ _ _ (@z7g _ _ _ _ _ _ (@z19 _ _ _ _ z5) (@z7f _ _ _ _ _ _ _ (pv 0) (@zp _ _ _ _ _ _ _ ix_list (@z19 _ _ _ _ (@z0 _ _ _ _ _ z6 (@z0 _ _ _ _ _ z6 (@z0 _ _ _ _ _ z6 z5 rfl) rfl) rfl)) (pv 1) (fun _ _ => rfl)) z5b (by intro _; rfl)) rfl rfl rfl)) (@za _ _ _ (@zr _ _ _ _ _ _ _ _ (@zh _ _ _ _ _ _ _ _ z22 (pv 1) z6 (zf _)) (@z9 _ _ _ _ _ (@zo _ _ 6 _ _ _ _ sc__law_spoil.nd rfl (Or.inl rfl) (@zd _ _ _ _ _ _ _ _ z1b (@zp _ _ _ _ _ _ _ ix_list (@z19 _ _ _ _ (@z0 _ _ _ _ _ z6 (@z0 _ _ _ _ _ z6 (@z0 _ _ _ _ _ z6 z5 rfl) rfl) rfl)) (@zd _ _ _ _ _ _ _ _ z2r (pv 1) z6) (fun _ _ => rfl)) (@zp _ _ _ _ _ _ _ ix_list (@z19 _ _ _ _ (@z0 _ _ _ _ _ z6 (@z0 _ _ _ _ _ z6 (@z0 _ _ _ _ _ z6 (@z0 _ _ _ _ _ z6 z5 rfl) rfl) rfl) rfl)) (@zd _ _ _ _ _ _ _ _ zx (pv 4) z6) (fun _ _ => rfl))) rfl (Or.inr rfl)) (@za _ _ _ (@z7g _ _ _ _ _ _ (@z1a _ _ "_law_k" ([]) ([]) _ _ _ _ _ _ _ _ rfl ⟨rfl, by decide +kernel, by decide +kernel, rfl, zv rfl, by decide +kernel, trivial⟩ (@z1u _ _ _ _ _ _ rfl T.b_range (@z0 _ _ _ _ _ (pv 6) z5 rfl) rfl) (fun _ _ _ _ => z14) (fun _ _ _ _ => (@zd _ _ _ _ _ _ _ _ z27 z1d (@zp _ _ _ _ _ _ _ z31 z1d (pv 0) (fun _ _ => rfl)))) (by intro _; rfl)) (@z7f _ _ _ _ _ _ _ (pv 0) (@zp _ _ _ _ _ _ _ ix_list (@z19 _ _ _ _ (@z0 _ _ _ _ _ z6 (@z0 _ _ _ _ _ z6 (@z0 _ _ _ _ _ z6 z5 rfl) rfl) rfl)) (@zd _ _ _ _ _ _ _ _ z2r (pv 1) z6) (fun _ _ => rfl)) z5b (by intro _; rfl)) rfl rfl rfl))) (@za _ _ _ (@zr _ _ _ _ _ _ _ _ (@zh _ _ _ _ _ _ _ _ z22 (pv 1) z6 (zf _)) (@za _ _ _ (@zr _ _ _ _ _ _ _ _ (@zh _ _ _ _ _ _ _ _ (z7p hu) (pv 5) (@z19 _ _ _ _ z5) (zf _)) (@za _ _ _ (@z4p _ _ _ _ (@z40 _ _ _ _ _ _ _ _ _ _ _ _ PySem.F.plainAttrs_list PySem.F.slot_list_insert PySem.F.type_list_insert z6o (pv 5) (@z0 _ _ _ _ _ (@zd _ _ _ _ _ _ _ _ zx (@zd _ _ _ _ _ _ _ _ z13 (pv 4) z6) (@zd _ _ _ _ _ _ _ _ z1b (@z8 _ _ _ _ _ _ _ _ _ zg rfl T.b_len (by decide +kernel) (@z0 _ _ _ _ _ (pv 5) z5 rfl) (by decide) (by decide) rfl rfl) z6)) (@z0 _ _ _ _ _ (@zp _ _ _ _ _ _ _ ix_list (pv 5) (@zd _ _ _ _ _ _ _ _ zx (pv 4) (@z8 _ _ _ _ _ _ _ _ _ zg rfl T.b_len (by decide +kernel) (@z0 _ _ _ _ _ (pv 5) z5 rfl) (by decide) (by decide) rfl rfl)) (fun _ _ => rfl)) z5 rfl) rfl) rfl rfl rfl rfl rfl) rfl)) zl)) (@za _ _ _ (@zr _ _ _ _ _ _ _ _ (@zh _ _ _ _ _ _ _ _ z22 (pv 1) z6 (zf _)) (@z9 _ _ _ _ _ (@zo _ _ 7 _ _ _ _ sc__law_spoil.nd rfl (Or.inl rfl) (@zp _ _ _ _ _ _ _ ix_list (@zcv _ _ [.str "", .str "abcdefghi", .str "aB", .str "a_", .str "a b", .str "a//b", .str "/a", .str "a/", .str "a/b/c/d/e", .str "a/b"] (by kernel_rfl)) (@zd _ _ _ _ _ _ _ _ zx (pv 4) z6) (fun _ _ => rfl)) rfl (Or.inr rfl)) (@za _ _ _ (@zr _ _ _ _ _ _ _ _ (@zh _ _ _ _ _ _ _ _ (z7p hu) (pv 5) (@z19 _ _ _ _ z5) (zf _)) (@za _ _ _ (@z7g _ _ _ _ _ _ (pv 7) (@z7f _ _ _ _ _ _ _ (pv 5) (@zd _ _ _ _ _ _ _ _ zx (@zd _ _ _ _ _ _ _ _ z13 (pv 4) z6) (@z8 _ _ _ _ _ _ _ _ _ zg rfl T.b_len (by decide +kernel) (@z0 _ _ _ _ _ (pv 5) z5 rfl) (by decide) (by decide) rfl rfl)) z5b (by intro _; rfl)) rfl rfl rfl)) zl))) (@za _ _ _ (@z4p _ _ _ _ (@z40 _ _ _ _ _ _ _ _ _ _ _ _ PySem.F.plainAttrs_list PySem.F.slot_list_insert PySem.F.type_list_insert z6o (@zp _ _ _ _ _ _ _ ix_list (pv 0) z6 (fun _ _ => rfl)) (@z0 _ _ _ _ _ (@zd _ _ _ _ _ _ _ _ zx (pv 4) (@zd _ _ _ _ _ _ _ _ z1b (@z8 _ _ _ _ _ _ _ _ _ zg rfl T.b_len (by decide +kernel) (@z0 _ _ _ _ _ (@zp _ _ _ _ _ _ _ ix_list (pv 0) z6 (fun _ _ => rfl)) z5 rfl) (by decide) (by decide) rfl rfl) z6)) (@z0 _ _ _ _ _ (@zp _ _ _ _ _ _ _ ix_list (@z19 _ _ _ _ (@z0 _ _ _ _ _ z1d (@z0 _ _ _ _ _ z1d z5 rfl) rfl)) (@zd _ _ _ _ _ _ _ _ zx (@zd _ _ _ _ _ _ _ _ z13 (pv 4) z6) z6) (fun _ _ => rfl)) z5 rfl) rfl) rfl rfl rfl rfl rfl) rfl))))))))) (@za _ _ _ (@zk _ _ _ _ (pv 0))))))), ?_⟩
  walk_at "rd"
  obtain ⟨rr, zs, er, tr, lr, or⟩ : ∃ (rr : Addr) (zs : List Str), atI [V.ref u.a, .ref u.b, .ref u.c, .ref u.d] (cell % 4) = some (.ref rr) ∧ Texts H rr zs ∧ zs.length ≤ 12 ∧ (rr = u.a ∨ rr = u.b ∨ rr = u.c ∨ rr = u.d) := by
   rcases (show cell % 4 = 0 ∨ cell % 4 = 1 ∨ cell % 4 = 2 ∨ cell % 4 = 3 by omega) with e | e | e | e
   ·exact ⟨_, _, by rw [e]; exact zb (j := 0) rfl, hp.ga, l1, .inl rfl⟩
   ·exact ⟨_, _, by rw [e]; exact zb (j := 1) rfl, hp.gb, l2, .inr (.inl rfl)⟩
   ·exact ⟨_, _, by rw [e]; exact zb (j := 2) rfl, hp.gc, l3, .inr (.inr (.inl rfl))⟩
   ·exact ⟨_, _, by rw [e]; exact zb (j := 3) rfl, hp.gd, l4, .inr (.inr (.inr rfl))⟩
  refine ⟨by decide, cdiv (by decide) (by decide), _, _, _, _, rfl, rfl, SqL.of hp.gp, er, ?_⟩
  generalize cell / 4 = rest
  refine z2p (fun σ H2 => ∃ u', Su4At H2 p u' ∧ ∃ more, σ = some (.ref p) :: more) (fun Mid hM => ?_) ?_
  ·walk_at "rd"
   refine ite2 (fun hw => ?_) (fun hw => ?_)
   ·have hw := of_decide_eq_true hw
    refine ⟨by decide, fun p1 h1 => ⟨by decide, fun p2 h2 => ?_⟩⟩
    have s2 : Same H (upd (upd H p1 (.lst [])) p2 (.lst [V.int 0, V.int 1, V.int 3])) := (Same.upd h1).trans (Same.upd h2)
    have gt : Texts (upd (upd H p1 (.lst [])) p2 (.lst [V.int 0, V.int 1, V.int 3])) p1 [] := ⟨z1h z7 h2, Nat.zero_le _, by simp⟩
    have gl : upd (upd H p1 (.lst [])) p2 (.lst [V.int 0, V.int 1, V.int 3]) p2 = some (.lst [V.int 0, V.int 1, V.int 3]) := z7
    generalize upd (upd H p1 (.lst [])) p2 (.lst [V.int 0, V.int 1, V.int 3]) = H2 at s2 gt gl ⊢
    obtain ⟨j, ej, jl⟩ := zc9 (way := way) w0 hw
    obtain ⟨u', hA⟩ := (hp.mono s2).top gt jl
    exact ⟨_, _, _, _, rfl, rfl, SqL.of gl, ej, p, _, _, j, rfl, rfl, (hp.mono s2).gp, ix4 jl, hM _ _ ⟨u', hA, _, rfl⟩⟩
   have hw3 : ¬ way < 3 := by simpa using hw
   refine ite2 (fun hw => ?_) (fun hw => ?_)
   ·have hw := of_decide_eq_true hw
    refine ⟨by decide, fun p1 h1 => ?_⟩
    obtain ⟨m, em, m1, m2⟩ : ∃ m : Int, atI [V.int 9, V.int 11, V.int 5] (way - 3) = some (V.int m) ∧ 0 ≤ m ∧ m ≤ 11 := by
     rcases (show way = 3 ∨ way = 4 ∨ way = 5 by omega) with rfl | rfl | rfl
     ·exact ⟨9, zb (j := 0) rfl, by decide, by decide⟩
     ·exact ⟨11, zb (j := 1) rfl, by decide, by decide⟩
     ·exact ⟨5, zb (j := 2) rfl, by decide, by decide⟩
    obtain ⟨n, en, n1, n2⟩ : ∃ n : Int, atI [V.int 0, V.int 0, V.int 0, V.int 3] (rest % 4) = some (V.int n) ∧ 0 ≤ n ∧ n ≤ 3 := by
     rcases (show rest % 4 = 0 ∨ rest % 4 = 1 ∨ rest % 4 = 2 ∨ rest % 4 = 3 by omega) with e | e | e | e
     ·exact ⟨0, by rw [e]; exact zb (j := 0) rfl, by decide, by decide⟩
     ·exact ⟨0, by rw [e]; exact zb (j := 1) rfl, by decide, by decide⟩
     ·exact ⟨0, by rw [e]; exact zb (j := 2) rfl, by decide, by decide⟩
     ·exact ⟨3, by rw [e]; exact zb (j := 3) rfl, by decide, by decide⟩
    refine ⟨_, _, _, _, rfl, rfl, SqL.of z7, em, by decide, fun p2 h2 => ⟨by decide, _, _, _, _, rfl, rfl, SqL.of z7, en, m, rfl, n, rfl, ⟨by omega, by omega⟩, ?_⟩⟩
    have s12 : Same H (upd (upd H p1 (.lst [V.int 9, V.int 11, V.int 5])) p2 (.lst [V.int 0, V.int 0, V.int 0, V.int 3])) := (Same.upd h1).trans (Same.upd h2)
    generalize upd (upd H p1 (.lst [V.int 9, V.int 11, V.int 5])) p2 (.lst [V.int 0, V.int 0, V.int 0, V.int 3]) = H2 at s12 ⊢
    obtain ⟨kk, ek⟩ := Int.eq_ofNat_of_zero_le (show 0 ≤ m + n by omega)
    rw [ek, Int.toNat_natCast]
    have hkk : kk ≤ 14 := by omega
    refine z1t (zj (by omega)) (fun i acc H' => (∃ ys : List Str, acc = ys.map V.str ∧ ys.length = i ∧ ∀ y ∈ ys, y.length ≤ 2) ∧ Same H2 H') ⟨⟨[], rfl, rfl, by simp⟩, Same.refl _⟩ ?_ ?_ ?_
    ·rintro i acc H' ⟨⟨ys, rfl, hl, -⟩, -⟩
     rw [List.length_map, hl]
     exact Nat.le_refl _
    ·rintro Nn i acc H' hN hi ⟨⟨ys, rfl, hl, hy⟩, sm⟩
     walk_at "rd"
     have hi16 : i < 16 := by omega
     have e16 : (Str.ofString "abcdefghijklmnop").cps.toList.length = 16 := by decide +kernel
     obtain ⟨c, hc⟩ : ∃ c, atI (Str.ofString "abcdefghijklmnop").cps.toList (0 + (i : Int)) = some c := ⟨_, by rw [Int.zero_add]; exact zb (List.getElem?_eq_getElem (by omega))⟩
     have l1 : (Str.ofString "n").length = 1 := rfl
     refine ⟨_, _, _, rfl, rfl, by decide, hc, _, rfl, zj (by show (Str.ofString "n").length + 1 ≤ _; omega), hN _ _ ⟨⟨ys ++ [Str.ofString "n" ++ ⟨#[c]⟩], by rw [List.map_append]; rfl, by rw [List.length_append, hl]; rfl, fun y m => ?_⟩, sm⟩⟩
     rcases List.mem_append.mp m with m | m
     ·exact hy y m
     ·rw [List.mem_singleton.mp m, PySem.Str.length_append]
      exact Nat.le_refl _
    ·rintro acc H' ⟨⟨ys, rfl, hl, hy⟩, sm⟩ pl hpl
     refine ⟨by decide, fun p3 h3 => ?_⟩
     have s5 : Same H (upd (upd H' pl (.lst (ys.map V.str))) p3 (.lst [V.int 0, V.int 1, V.int 3])) := ((s12.trans sm).trans (Same.upd hpl)).trans (Same.upd h3)
     have gt : Texts (upd (upd H' pl (.lst (ys.map V.str))) p3 (.lst [V.int 0, V.int 1, V.int 3])) pl ys := ⟨z1h z7 h3, by omega, fun y m => by have := hy y m; omega⟩
     have gl : upd (upd H' pl (.lst (ys.map V.str))) p3 (.lst [V.int 0, V.int 1, V.int 3]) p3 = some (.lst [V.int 0, V.int 1, V.int 3]) := z7
     generalize upd (upd H' pl (.lst (ys.map V.str))) p3 (.lst [V.int 0, V.int 1, V.int 3]) = H5 at s5 gt gl ⊢
     obtain ⟨j, ej, jl⟩ := zc9 (way := way - 3) (by omega) (by omega)
     obtain ⟨u', hA⟩ := (hp.mono s5).top gt jl
     exact ⟨_, _, _, _, rfl, rfl, SqL.of gl, ej, p, _, _, j, rfl, rfl, (hp.mono s5).gp, ix4 jl, hM _ _ ⟨u', hA, _, rfl⟩⟩
   refine ite2 (fun hw => ?_) (fun hw => ?_)
   ·refine ⟨by decide, fun p1 h1 => ⟨_, SqL.of ((Same.upd h1) _ _ tr.1), SqL.of z7, ?_⟩⟩
    have s1 : Same H (upd H p1 (.lst [])) := Same.upd h1
    generalize upd H p1 (.lst []) = H1 at s1 ⊢
    refine ite2 (fun he => ?_) (fun he => hM _ _ ⟨u, hp.mono s1, _, rfl⟩)
    have hne : 0 < zs.length := by cases zs with
     | nil => simp at he
     | cons => simp
    have g := s1 _ _ tr.1
    refine ⟨.inl ⟨_, SqL.of g⟩, cdiv (by decide) (by decide), _, .inl (SqL.of g), by omega, _, .inl (SqL.of g), by rw [List.length_map]; omega, ?_⟩
    rw [List.length_map]
    have b0 := Int.emod_nonneg rest (b := (zs.length : Int)) (by omega)
    have b1 := Int.emod_lt_of_pos rest (b := (zs.length : Int)) (by omega)
    obtain ⟨k, ek⟩ := Int.eq_ofNat_of_zero_le b0
    have c0 := Int.emod_nonneg (rest / 10) (b := (zs.length : Int) + 1) (by omega)
    have c1 := Int.emod_lt_of_pos (rest / 10) (b := (zs.length : Int) + 1) (by omega)
    obtain ⟨k2, ek2⟩ := Int.eq_ofNat_of_zero_le c0
    have hk : k < zs.length := by omega
    have gk : (zs.map V.str)[k]? = some (.str zs[k]) := by rw [List.getElem?_map, List.getElem?_eq_getElem hk]; rfl
    rw [ek, ek2]
    refine ⟨_, _, _, _, rfl, rfl, SqL.of g, zb gk, rr, _, k2, _, rfl, rfl, g, by rw [List.length_map]; omega, z3f (by rw [List.length_map]; omega), ?_⟩
    have e : ((zs.map V.str).take k2 ++ V.str zs[k] :: (zs.map V.str).drop k2) = (zs.take k2 ++ zs[k] :: zs.drop k2).map V.str := by simp [List.map_take, List.map_drop]
    rw [e]
    obtain ⟨u', hA⟩ := (hp.mono s1).row hd or (zs := zs.take k2 ++ zs[k] :: zs.drop k2) ⟨by simp only [List.length_append, List.length_cons, List.length_take, List.length_drop]; omega, fun y m => by
     refine tr.2.2 y ?_
     rcases List.mem_append.mp m with m | m
     ·exact List.mem_of_mem_take m
     ·rcases List.mem_cons.mp m with rfl | m
      ·exact List.getElem_mem hk
      ·exact List.mem_of_mem_drop m⟩
    exact hM _ _ ⟨u', hA, _, rfl⟩
   refine ite2 (fun hw => ?_) (fun hw => ?_)
   ·refine ⟨by decide, fun p1 h1 => ⟨by decide, ?_⟩⟩
    obtain ⟨bad, eb, lb⟩ : ∃ bad : Str, atI [V.str (Str.ofString ""), V.str (Str.ofString "abcdefghi"), V.str (Str.ofString "aB"), V.str (Str.ofString "a_"), V.str (Str.ofString "a b"), V.str (Str.ofString "a//b"), V.str (Str.ofString "/a"), V.str (Str.ofString "a/"), V.str (Str.ofString "a/b/c/d/e"), V.str (Str.ofString "a/b")] (rest % 10) = some (V.str bad) ∧ bad.length ≤ 1000 := by
     rcases (show rest % 10 = 0 ∨ rest % 10 = 1 ∨ rest % 10 = 2 ∨ rest % 10 = 3 ∨ rest % 10 = 4 ∨ rest % 10 = 5 ∨ rest % 10 = 6 ∨ rest % 10 = 7 ∨ rest % 10 = 8 ∨ rest % 10 = 9 by omega) with e | e | e | e | e | e | e | e | e | e
     ·exact ⟨_, by rw [e]; exact zb (j := 0) rfl, by decide +kernel⟩
     ·exact ⟨_, by rw [e]; exact zb (j := 1) rfl, by decide +kernel⟩
     ·exact ⟨_, by rw [e]; exact zb (j := 2) rfl, by decide +kernel⟩
     ·exact ⟨_, by rw [e]; exact zb (j := 3) rfl, by decide +kernel⟩
     ·exact ⟨_, by rw [e]; exact zb (j := 4) rfl, by decide +kernel⟩
     ·exact ⟨_, by rw [e]; exact zb (j := 5) rfl, by decide +kernel⟩
     ·exact ⟨_, by rw [e]; exact zb (j := 6) rfl, by decide +kernel⟩
     ·exact ⟨_, by rw [e]; exact zb (j := 7) rfl, by decide +kernel⟩
     ·exact ⟨_, by rw [e]; exact zb (j := 8) rfl, by decide +kernel⟩
     ·exact ⟨_, by rw [e]; exact zb (j := 9) rfl, by decide +kernel⟩
    refine ⟨_, _, _, _, rfl, rfl, SqL.of z7, eb, by decide, fun p2 h2 => ?_⟩
    have sq := (Same.upd h1).trans (Same.upd (o := .lst []) h2)
    refine ⟨_, SqL.of (sq _ _ tr.1), SqL.of z7, ?_⟩
    generalize upd (upd H p1 _) p2 (.lst []) = H1 at sq ⊢
    refine ite2 (fun he => ?_) (fun he => hM _ _ ⟨u, hp.mono sq, _, rfl⟩)
    have hne : 0 < zs.length := by cases zs with
     | nil => simp at he
     | cons => simp
    have g := sq _ _ tr.1
    refine ⟨cdiv (by decide) (by decide), _, .inl (SqL.of g), by rw [List.length_map]; omega, ?_⟩
    rw [List.length_map]
    have b0 := Int.emod_nonneg (rest / 10) (b := (zs.length : Int)) (by omega)
    have b1 := Int.emod_lt_of_pos (rest / 10) (b := (zs.length : Int)) (by omega)
    obtain ⟨k, ek⟩ := Int.eq_ofNat_of_zero_le b0
    rw [ek]
    refine ⟨rr, _, _, k, rfl, rfl, g, ?_, ?_⟩
    ·rw [List.length_map]
     unfold ixN
     rw [if_pos (by omega), if_pos (by omega), Int.toNat_natCast]
    rw [← List.map_set]
    obtain ⟨u', hA⟩ := (hp.mono sq).row hd or (zs := zs.set k bad) ⟨by rw [List.length_set]; omega, fun y m => by
     rcases List.mem_or_eq_of_mem_set m with m | rfl
     ·exact tr.2.2 y m
     ·exact lb⟩
    exact hM _ _ ⟨u', hA, _, rfl⟩
   ·refine ⟨_, _, _, _, rfl, rfl, SqL.of hp.gp, zb (j := 2) rfl, .inl ⟨_, SqL.of hp.gc.1⟩, _, _, _, _, rfl, rfl, SqL.of hp.gp, zb (j := 2) rfl, _, rfl, _, .inl (SqL.of hp.gc.1), by omega, by decide, fun p1 h1 => ⟨cdiv (by decide) (by decide), by decide, ?_⟩⟩
    obtain ⟨bad, eb, lb⟩ : ∃ bad : Str, atI [V.str (Str.ofString "zzzzzzzz/q"), V.str (Str.ofString "zzzzzzzz")] (rest / 10 % 2) = some (V.str bad) ∧ bad.length ≤ 1000 := by
     rcases (show rest / 10 % 2 = 0 ∨ rest / 10 % 2 = 1 by omega) with e | e
     ·exact ⟨_, by rw [e]; exact zb (j := 0) rfl, by decide +kernel⟩
     ·exact ⟨_, by rw [e]; exact zb (j := 1) rfl, by decide +kernel⟩
    have s1 : Same H (upd H p1 (.lst [V.str (Str.ofString "zzzzzzzz/q"), V.str (Str.ofString "zzzzzzzz")])) := Same.upd h1
    refine ⟨_, _, _, _, rfl, rfl, SqL.of z7, eb, ?_⟩
    generalize upd H p1 (.lst [V.str (Str.ofString "zzzzzzzz/q"), V.str (Str.ofString "zzzzzzzz")]) = H1 at s1 ⊢
    have g := s1 _ _ hp.gc.1
    rw [List.length_map]
    have c0 := Int.emod_nonneg rest (b := (u.ss.length : Int) + 1) (by omega)
    have c1 := Int.emod_lt_of_pos rest (b := (u.ss.length : Int) + 1) (by omega)
    obtain ⟨k2, ek2⟩ := Int.eq_ofNat_of_zero_le c0
    rw [ek2]
    refine ⟨u.c, _, k2, _, rfl, rfl, g, by rw [List.length_map]; omega, z3f (by rw [List.length_map]; omega), ?_⟩
    have e : ((u.ss.map V.str).take k2 ++ V.str bad :: (u.ss.map V.str).drop k2) = (u.ss.take k2 ++ bad :: u.ss.drop k2).map V.str := by simp [List.map_take, List.map_drop]
    rw [e]
    obtain ⟨u', hA⟩ := (hp.mono s1).row hd (.inr (.inr (.inl rfl))) (zs := u.ss.take k2 ++ bad :: u.ss.drop k2) ⟨by simp only [List.length_append, List.length_cons, List.length_take, List.length_drop]; omega, fun y m => by
     rcases List.mem_append.mp m with m | m
     ·exact hp.gc.2.2 y (List.mem_of_mem_take m)
     ·rcases List.mem_cons.mp m with rfl | m
      ·exact lb
      ·exact hp.gc.2.2 y (List.mem_of_mem_drop m)⟩
    exact hM _ _ ⟨u', hA, _, rfl⟩
  ·rintro σ H2 ⟨u', hA, more, rfl⟩
   walk_at "rd"
   exact q u' H2 hA
def Su4.like (u u' : Su4) : Prop := u.hs = u'.hs ∧ u.ls = u'.ls ∧ u.ss = u'.ss ∧ u.ts = u'.ts
theorem z2q {H : Hp} {a b : Addr} {zs zs' : List Str} (h : Texts H a zs) (h' : Texts H b zs') (e : zs = zs') : Alike H 1 (.ref a) (.ref b) := by
 subst e
 refine .inr ⟨a, b, _, _, rfl, rfl, .inl ⟨h.1, h'.1⟩, rfl, by rw [List.length_map]; have := h.2.1; omega, fun i x y hx hy => ?_⟩
 rw [hx] at hy
 cases hy
 rw [List.getElem?_map] at hx
 cases e : zs[i]? with
 | none => rw [e] at hx; cases hx
 | some z => rw [e] at hx; cases hx; exact ⟨rfl, .inr (.inl ⟨z, rfl⟩)⟩
theorem Su4At.alike {H : Hp} {p p' : Addr} {u u' : Su4} (h : Su4At H p u) (h' : Su4At H p' u') (e : u.like u') : Alike H 2 (.ref p) (.ref p') := by
 refine .inr ⟨p, p', _, _, rfl, rfl, .inl ⟨h.gp, h'.gp⟩, rfl, by show (4 : Nat) ≤ 1000; decide, fun i x y hx hy => ?_⟩
 match i, hx, hy with
 | 0, hx, hy => cases hx; cases hy; exact z2q h.ga h'.ga e.1
 | 1, hx, hy => cases hx; cases hy; exact z2q h.gb h'.gb e.2.1
 | 2, hx, hy => cases hx; cases hy; exact z2q h.gc h'.gc e.2.2.1
 | 3, hx, hy => cases hx; cases hy; exact z2q h.gd h'.gd e.2.2.2
 | i + 4, hx, hy => cases hx
theorem l4 {l : List Addr} (h : l.length = 4) : ∃ a b c d, l = [a, b, c, d] := by
 match l, h with
 | [a, b, c, d], _ => exact ⟨a, b, c, d, rfl⟩
def Cop (H : Hp) (zss : List (List Str)) (l : List Addr) : Prop := l.Nodup ∧ ∀ (j : Nat) (r : Addr), l[j]? = some r → ∃ zs, zss[j]? = some zs ∧ Texts H r zs
theorem Cop.step {H : Hp} {zss : List (List Str)} {l : List Addr} (h : Cop H zss l) {zs : List Str} (hz : zss[l.length]? = some zs) (hb : zs.length ≤ 60 ∧ ∀ z ∈ zs, z.length ≤ 1000) {p : Addr} (hp : H p = none) : Cop (upd H p (.lst (zs.map V.str))) zss (l ++ [p]) := by
 have np : p ∉ l := fun m => by
  obtain ⟨j, hj⟩ := List.getElem?_of_mem m
  obtain ⟨zs', -, t⟩ := h.2 j p hj
  rw [t.1] at hp
  cases hp
 refine ⟨?_, fun j r hj => ?_⟩
 ·rw [List.nodup_append]
  exact ⟨h.1, by simp, fun a ha b hb => by rw [List.mem_singleton.mp hb]; rintro rfl; exact np ha⟩
 ·by_cases e : j < l.length
  ·rw [List.getElem?_append_left e] at hj
   obtain ⟨zs', e1, t⟩ := h.2 j r hj
   exact ⟨zs', e1, t.mono (Same.upd hp)⟩
  ·rw [List.getElem?_append_right (by omega)] at hj
   have : j - l.length = 0 := by
    rcases Nat.eq_zero_or_pos (j - l.length) with e | e
    ·exact e
    ·rw [List.getElem?_eq_none (by simp; omega)] at hj; cases hj
   rw [this] at hj
   obtain rfl : p = r := by simpa using hj
   have : j = l.length := by omega
   subst this
   exact ⟨zs, hz, z7, hb⟩
theorem Cop.mono {H H' : Hp} {zss : List (List Str)} {l : List Addr} (h : Cop H zss l) (s : Same H H') : Cop H' zss l := ⟨h.1, fun j r hj => by
 obtain ⟨zs, e, t⟩ := h.2 j r hj
 exact ⟨zs, e, t.mono s⟩⟩
theorem Cop.at {H : Hp} {h1 h2 h3 h4 : List Str} {a b c d p : Addr} (h : Cop H [h1, h2, h3, h4] [a, b, c, d]) (hp : H p = none) : Su4At (upd H p (.lst [.ref a, .ref b, .ref c, .ref d])) p ⟨a, b, c, d, h1, h2, h3, h4⟩ ∧ (a ≠ b ∧ a ≠ c ∧ a ≠ d ∧ b ≠ c ∧ b ≠ d ∧ c ≠ d) := by
 obtain ⟨z1, e1, t1⟩ := h.2 0 a rfl
 obtain ⟨z2, e2, t2⟩ := h.2 1 b rfl
 obtain ⟨z3, e3, t3⟩ := h.2 2 c rfl
 obtain ⟨z4, e4, t4⟩ := h.2 3 d rfl
 cases e1; cases e2; cases e3; cases e4
 have nd := h.1
 simp only [List.nodup_cons, List.mem_cons, List.not_mem_nil, or_false, not_or, List.nodup_nil, and_true, not_false_eq_true] at nd
 have s := Same.upd (o := .lst [.ref a, .ref b, .ref c, .ref d]) hp
 exact ⟨⟨z7, t1.mono s, t2.mono s, t3.mono s, t4.mono s⟩, nd.1.1, nd.1.2.1, nd.1.2.2, nd.2.1.1, nd.2.1.2, nd.2.2⟩
def spLaw (K : PySem.W.Frag) : Sp := fun vs H Q _ => ∃ (a : Addr) (ns : List Int), vs = [.ref a] ∧ SqL K H a (ns.map V.int) ∧ ns.length ≤ 63 ∧ ∀ H', Q (.bl true) H'
theorem zdj (F : Def K mg "law" z4s ["_law_script"]) (T : Txt K mg C_BadSetup C_Council C_GateError C_Keeper C_Store C_World t_MOST_HOLDERS t_MOST_KEEPERS t_MOST_LOCKS t_MOST_NAMES t_MOST_SIGNS t_MOST_STORES t_NAME_SIGNS) (G__law_at : Has P w K mg base 1 "_law_at" ["_law_script", "_law_k"] (spAt K)) (G__law_same : Has P w K mg base 3 "_law_same" ["_law_found", "_law_due"] (z28 2)) (G__law_setup : Has P w K mg base 3 "_law_setup" ["_law_script"] (z95 K)) (G__law_ok : Has P w K mg base 3 "_law_ok" ["_law_keepers", "_law_lists"] (zc8)) (G__law_spoil : Has P w K mg base 1 "_law_spoil" ["_law_lists", "_law_way", "_law_cell"] (z96)) (G__law_made : Has P w K mg base 7 "_law_made" ["_law_keepers", "_law_lists"] (zba)) : Has P w K mg base 8 "law" ["_law_script"] (spLaw K) := by
 refine F.ok sc_law (fun vs H Q E h => ?_) (fun f cdv A outer s H vs Q E hr h => ?_)
 ·obtain ⟨a, ns, rfl, _⟩ := h
  rfl
 ·obtain ⟨a, ns, rfl, ha, hns, q⟩ := h
  have hu := hr.units0
  have hu2 := z4q hr
  refine ⟨_, (@z9 _ _ _ _ _ (@zo _ _ 1 _ _ _ _ sc_law.nd rfl (Or.inr rfl) (@zu _ _ _ _ _ _ _ _ _ _ G__law_setup (hr.mono (by decide)) rfl (@z0 _ _ _ _ _ (pv 0) z5 rfl) (by decide) rfl rfl) rfl (Or.inl rfl)) (@z9 _ _ _ _ _ (@zo _ _ 2 _ _ _ _ sc_law.nd rfl (Or.inl rfl) (@zp _ _ _ _ _ _ _ ix_tup (pv 1) z6 (fun _ _ => rfl)) rfl (Or.inr rfl)) (@z9 _ _ _ _ _ (@z5s _ _ "_law_k" (["_law_setup_here"]) ([1]) _ _ _ _ _ _ _ _ 3 _ _ _ rfl ⟨rfl, by decide +kernel, by decide +kernel, rfl, zv rfl, by decide +kernel, ⟨⟨rfl, Or.inl rfl, rfl⟩, trivial⟩⟩ sc_law.nd rfl (Or.inl rfl) (@za0 _ _ _ _ _ _ _ rfl T.b_range (@z0 _ _ _ _ _ z6 (@z0 _ _ _ _ _ z6 z5 rfl) rfl) rfl rfl) (fun _ _ _ _ => z14) (fun _ _ _ _ => (@z1e _ _ _ _ _ _ _ _ _ (z3y (K := K)) rfl T.b_list (by decide +kernel) (@z0 _ _ _ _ _ (@zp _ _ _ _ _ _ _ (zbl (K := K)) (pv 1) (pv 0) (fun _ _ => rfl)) z5 rfl) (by decide) (by decide) rfl rfl)) rfl (by intro _; rfl) (Or.inr rfl)) (@z9 _ _ _ _ _ (@zo _ _ 4 _ _ _ _ sc_law.nd rfl (Or.inl rfl) (@zd _ _ _ _ _ _ _ _ zx (@zu _ _ _ _ _ _ _ _ _ _ G__law_at (hr.mono (by decide)) rfl (@z0 _ _ _ _ _ (pv 0) (@z0 _ _ _ _ _ z6 z5 rfl) rfl) (by decide) rfl rfl) z6) rfl (Or.inr rfl)) (@z1z _ _ _ _ _ (@zr _ _ _ _ _ _ _ _ (@zh _ _ _ _ _ _ _ _ z22 (pv 4) z6 (zf _)) (@za _ _ _ (@zo _ _ 3 _ _ _ _ sc_law.nd rfl (Or.inl rfl) (@zu _ _ _ _ _ _ _ _ _ _ G__law_spoil (hr.mono (by decide)) rfl (@z0 _ _ _ _ _ (pv 3) (@z0 _ _ _ _ _ (pv 4) (@z0 _ _ _ _ _ (@zu _ _ _ _ _ _ _ _ _ _ G__law_at (hr.mono (by decide)) rfl (@z0 _ _ _ _ _ (pv 0) (@z0 _ _ _ _ _ z6 z5 rfl) rfl) (by decide) rfl rfl) z5 rfl) rfl) rfl) (by decide) rfl rfl) rfl (Or.inr rfl))) zl) (@z1z _ _ _ _ _ (@zr _ _ _ _ _ _ _ _ (@zh _ _ _ _ _ _ _ _ z1l (pv 4) z6 (zf _)) (@za _ _ _ (@zo _ _ 2 _ _ _ _ sc_law.nd rfl (Or.inl rfl) (@zp _ _ _ _ _ _ _ ix_list (@z19 _ _ _ _ (@z0 _ _ _ _ _ z6 (@z0 _ _ _ _ _ z6 (@z0 _ _ _ _ _ (@zc1 _ _ _ _ _ _ za3 z6) (@z0 _ _ _ _ _ (@zd _ _ _ _ _ _ _ _ zd6 z6 z6) z5 rfl) rfl) rfl) rfl)) (@zd _ _ _ _ _ _ _ _ zx (@zu _ _ _ _ _ _ _ _ _ _ G__law_at (hr.mono (by decide)) rfl (@z0 _ _ _ _ _ (pv 0) (@z0 _ _ _ _ _ z6 z5 rfl) rfl) (by decide) rfl rfl) z6) (fun _ _ => rfl)) rfl (Or.inr rfl))) zl) (@z9 _ _ _ _ _ (@z5s _ _ "_law_row" ([]) ([]) _ _ _ _ _ _ _ _ 5 _ _ _ rfl ⟨rfl, by decide +kernel, by decide +kernel, rfl, zv rfl, by decide +kernel, trivial⟩ sc_law.nd rfl (Or.inl rfl) (@z1m _ _ _ _ (pv 3)) (fun _ _ _ _ => z14) (fun _ _ _ _ => (@z1e _ _ _ _ _ _ _ _ _ (z3y (K := K)) rfl T.b_list (by decide +kernel) (@z0 _ _ _ _ _ (pv 0) z5 rfl) (by decide) (by decide) rfl rfl)) rfl (by intro _; rfl) (Or.inr rfl)) (@z9 _ _ _ _ _ (@zo _ _ 6 _ _ _ _ sc_law.nd rfl (Or.inl rfl) (@zu _ _ _ _ _ _ _ _ _ _ G__law_made (hr.mono (by decide)) rfl (@z0 _ _ _ _ _ (pv 2) (@z0 _ _ _ _ _ (pv 5) z5 rfl) rfl) (by decide) rfl rfl) rfl (Or.inr rfl)) (@z9 _ _ _ _ _ (@zr _ _ _ _ _ _ _ _ (@z2y _ _ _ _ (@z1w _ _ _ (@zu _ _ _ _ _ _ _ _ _ _ G__law_same (hr.mono (by decide)) rfl (@z0 _ _ _ _ _ (pv 5) (@z0 _ _ _ _ _ (pv 3) z5 rfl) rfl) (by decide) rfl rfl) (by intro _; rfl))) (@za _ _ _ (@zk _ _ _ _ z1k)) zl) (@z9 _ _ _ _ _ (@zr _ _ _ _ _ _ _ _ (@z1w _ _ _ (@zu _ _ _ _ _ _ _ _ _ _ G__law_ok (hr.mono (by decide)) rfl (@z0 _ _ _ _ _ (pv 2) (@z0 _ _ _ _ _ (pv 3) z5 rfl) rfl) (by decide) rfl rfl) (by intro _; rfl)) (@za _ _ _ (@zk _ _ _ _ (@zu _ _ _ _ _ _ _ _ _ _ G__law_same (hr.mono (by decide)) rfl (@z0 _ _ _ _ _ (pv 6) (@z0 _ _ _ _ _ (@z2z _ _ _ _ _ (@z0 _ _ _ _ _ z6 (@z0 _ _ _ _ _ (@z19 _ _ _ _ z5) z5 rfl) rfl)) z5 rfl) rfl) (by decide) rfl rfl))) zl) (@za _ _ _ (@zk _ _ _ _ (@zu _ _ _ _ _ _ _ _ _ _ G__law_same (hr.mono (by decide)) rfl (@z0 _ _ _ _ _ (pv 6) (@z0 _ _ _ _ _ z1k z5 rfl) rfl) (by decide) rfl rfl))))))))))))), ?_⟩
  walk_at "rd"
  refine ⟨a, ns, rfl, ha, hns, fun r u0 H1 hs1 ok1 s1 => ?_⟩
  refine ⟨_, _, _, _, rfl, rfl, SqT.of hs1.tu, zb (j := 0) rfl, _, _, ⟨rfl, rfl⟩, ⟨by decide, by decide, by decide, by decide⟩, ?_⟩
  have h16 : ∀ z ∈ u0.hs, z.length ≤ 1000 := fun z hz => by have := ok1.hl z hz; omega
  have l200 : ∀ z ∈ u0.lks, z.length ≤ 1000 := fun z hz => by have := ok1.ll z hz; omega
  have c200 : ∀ z ∈ u0.shs, z.length ≤ 1000 := fun z hz => by have := ok1.cl z hz; omega
  have t16 : ∀ z ∈ u0.sts, z.length ≤ 1000 := fun z hz => by have := ok1.tl z hz; omega
  have o1 := ok1.h8; have o2 := ok1.l10; have o3 := ok1.c10; have o4 := ok1.t4
  refine z1t (n := 4) (zj (by decide)) (fun i acc H' => ∃ l : List Addr, acc = l.map V.ref ∧ l.length = i ∧ Cop H' [u0.hs, u0.lks, u0.shs, u0.sts] l ∧ Same H1 H') ⟨[], rfl, rfl, ⟨List.nodup_nil, fun j r hj => by cases hj⟩, Same.refl _⟩ ?_ ?_ ?_
  ·rintro i acc H' ⟨l, rfl, hl, -, -⟩
   rw [List.length_map, hl]
   exact Nat.le_refl _
  ·rintro Nn i acc H' hN hi ⟨l, rfl, hl, hc, sm⟩
   walk_at "rd"
   have hsm := hs1.mono sm
   obtain ⟨rr, zs, e1, e2, e3, e4⟩ : ∃ (rr : Addr) (zs : List Str), atI [V.int (u0.n : Int), .ref u0.ph, .ref u0.pl, .ref u0.pc, .ref u0.pt] (1 + (i : Int)) = some (.ref rr) ∧ H' rr = some (.lst (zs.map V.str)) ∧ [u0.hs, u0.lks, u0.shs, u0.sts][i]? = some zs ∧ (zs.length ≤ 60 ∧ ∀ z ∈ zs, z.length ≤ 1000) := by
    rcases (show i = 0 ∨ i = 1 ∨ i = 2 ∨ i = 3 by omega) with rfl | rfl | rfl | rfl
    ·exact ⟨_, _, zb (j := 1) rfl, hsm.gh, rfl, by omega, h16⟩
    ·exact ⟨_, _, zb (j := 2) rfl, hsm.gl, rfl, by omega, l200⟩
    ·exact ⟨_, _, zb (j := 3) rfl, hsm.gc, rfl, by omega, c200⟩
    ·exact ⟨_, _, zb (j := 4) rfl, hsm.gt, rfl, by omega, t16⟩
   refine ⟨_, _, _, _, rfl, rfl, SqT.of hsm.tu, e1, _, rfl, _, .inl (SqL.of e2), fun y hy => hN _ _ ⟨l ++ [y], by rw [List.map_append]; rfl, by rw [List.length_append, hl]; rfl, hc.step (by rw [hl]; exact e3) e4 hy, sm.trans (Same.upd hy)⟩⟩
  rintro acc H2 ⟨l, rfl, hl, hc, sm⟩ p hp
  obtain ⟨la, lb, lc, ld, rfl⟩ := l4 hl
  obtain ⟨hA, hD⟩ := hc.at hp
  have s2 : Same H (upd H2 p (.lst [.ref la, .ref lb, .ref lc, .ref ld])) := (s1.trans sm).trans (Same.upd hp)
  change Su4At (upd H2 p (.lst ([la, lb, lc, ld].map V.ref))) p _ at hA
  change Same H (upd H2 p (.lst ([la, lb, lc, ld].map V.ref))) at s2
  generalize upd H2 p (.lst ([la, lb, lc, ld].map V.ref)) = H3 at hA s2 ⊢
  refine ⟨a, ns, 5, rfl, s2.seq ha, by omega, _, rfl, by decide, ?_⟩
  have w0 := Int.emod_nonneg (ns.getD 5 0) (b := 15) (by decide)
  have w1 := Int.emod_lt_of_pos (ns.getD 5 0) (b := 15) (by decide)
  generalize ns.getD 5 0 % 15 = way at w0 w1 ⊢
  refine z2p (fun σ H4 => (∃ u2, Su4At H4 p u2) ∧ σ = [some (.ref a), some (.ref r), some (.int (u0.n : Int)), some (.ref p), some (.int way), none, none] ∧ (way < 13 ∨ Same H H4)) (fun Mid hM => ?_) ?_
  ·walk_at "rd"
   refine ite2 (fun hw => ?_) (fun hw => hM _ _ ⟨⟨_, hA⟩, rfl, .inr s2⟩)
   have hw := of_decide_eq_true hw
   refine ⟨a, ns, 6, rfl, s2.seq ha, by omega, p, _, way, _, rfl, hA, hD, w0, hw, by show u0.hs.length ≤ 12; omega, by show u0.lks.length ≤ 12; omega, by show u0.shs.length ≤ 12; omega, by show u0.sts.length ≤ 12; omega, fun u' H' hA' => hM _ _ ⟨⟨u', hA'⟩, rfl, .inl hw⟩⟩
  rintro σ H4 ⟨⟨u2, hA2⟩, rfl, hw4⟩
  refine z2p (fun σ H5 => (∃ u2, Su4At H5 p u2) ∧ ∃ ki : Int, σ = [some (.ref a), some (.ref r), some (.int ki), some (.ref p), some (.int way), none, none]) (fun Mid hM => ?_) ?_
  ·walk_at "rd"
   refine ite2 (fun hw => ?_) (fun hw => hM _ _ ⟨⟨_, hA2⟩, _, rfl⟩)
   have hw : way = 13 := by simpa using hw
   have s4 : Same H H4 := hw4.resolve_left (by omega)
   generalize (10 : Int) ^ Int.toNat 11 = big
   refine ⟨⟨by decide, by decide, by decide⟩, by decide, fun p1 hp1 => ?_⟩
   have u1 := Same.upd (o := .lst [V.int 0, V.int 6, V.int (-1), V.int big]) hp1
   have gl : upd H4 p1 (.lst [V.int 0, V.int 6, V.int (-1), V.int big]) p1 = some (.lst [V.int 0, V.int 6, V.int (-1), V.int big]) := z7
   generalize upd H4 p1 (.lst [V.int 0, V.int 6, V.int (-1), V.int big]) = H5 at u1 gl ⊢
   refine ⟨a, ns, 6, rfl, (s4.trans u1).seq ha, by omega, _, rfl, by decide, ?_⟩
   obtain ⟨ki, e⟩ : ∃ ki, atI [V.int 0, V.int 6, V.int (-1), V.int big] (ns.getD 6 0 % 4) = some (V.int ki) := by
    rcases (show ns.getD 6 0 % 4 = 0 ∨ ns.getD 6 0 % 4 = 1 ∨ ns.getD 6 0 % 4 = 2 ∨ ns.getD 6 0 % 4 = 3 by omega) with e | e | e | e
    ·exact ⟨0, by rw [e]; exact zb (j := 0) rfl⟩
    ·exact ⟨6, by rw [e]; exact zb (j := 1) rfl⟩
    ·exact ⟨-1, by rw [e]; exact zb (j := 2) rfl⟩
    ·exact ⟨big, by rw [e]; exact zb (j := 3) rfl⟩
   exact ⟨_, _, _, _, rfl, rfl, SqL.of gl, e, hM _ _ ⟨⟨_, hA2.mono u1⟩, _, rfl⟩⟩
  rintro σ H5 ⟨⟨u3, hA3⟩, ki, rfl⟩
  walk_at "rd"
  refine ⟨⟨_, SqL.of hA3.gp⟩, ?_⟩
  refine z2a (xs := [.ref u3.a, .ref u3.b, .ref u3.c, .ref u3.d]) (zj (by show (4 : Nat) ≤ _; decide)) (fun i acc H' => ∃ l : List Addr, acc = l.map V.ref ∧ l.length = i ∧ Cop H' [u3.hs, u3.ls, u3.ss, u3.ts] l ∧ Same H5 H') ⟨[], rfl, rfl, ⟨List.nodup_nil, fun j r hj => by cases hj⟩, Same.refl _⟩ ?_ ?_ ?_ ?_
  ·rintro i acc H' ⟨l, rfl, hl, -, -⟩
   rw [List.length_map, hl]
   exact Nat.le_refl _
  ·rintro i acc H' ⟨l, -, -, -, sm⟩
   exact SqL.of (sm _ _ hA3.gp)
  ·rintro Nn i acc H' x hN hx hi ⟨l, rfl, hl, hc, sm⟩
   have hsm := hA3.mono sm
   obtain ⟨rr, zs, rfl, e2, e3⟩ : ∃ (rr : Addr) (zs : List Str), x = .ref rr ∧ Texts H' rr zs ∧ [u3.hs, u3.ls, u3.ss, u3.ts][i]? = some zs := by
    rcases (show i = 0 ∨ i = 1 ∨ i = 2 ∨ i = 3 by have : i < 4 := hi; omega) with rfl | rfl | rfl | rfl
    ·cases hx; exact ⟨_, _, rfl, hsm.ga, rfl⟩
    ·cases hx; exact ⟨_, _, rfl, hsm.gb, rfl⟩
    ·cases hx; exact ⟨_, _, rfl, hsm.gc, rfl⟩
    ·cases hx; exact ⟨_, _, rfl, hsm.gd, rfl⟩
   walk_at "rd"
   refine ⟨_, .inl (SqL.of e2.1), fun y hy => hN _ _ ⟨l ++ [y], by rw [List.map_append]; rfl, by rw [List.length_append, hl]; rfl, hc.step (by rw [hl]; exact e3) e2.2 hy, sm.trans (Same.upd hy)⟩⟩
  rintro acc H6 ⟨l, rfl, hl, hc, sm⟩ p5 hp5
  obtain ⟨xa, xb, xc, xd, rfl⟩ := l4 hl
  obtain ⟨hB, -⟩ := hc.at hp5
  have s6 : Same H5 (upd H6 p5 (.lst [.ref xa, .ref xb, .ref xc, .ref xd])) := sm.trans (Same.upd hp5)
  change Su4At (upd H6 p5 (.lst ([xa, xb, xc, xd].map V.ref))) p5 _ at hB
  change Same H5 (upd H6 p5 (.lst ([xa, xb, xc, xd].map V.ref))) at s6
  generalize upd H6 p5 (.lst ([xa, xb, xc, xd].map V.ref)) = H7 at hB s6 ⊢
  have hA7 := hA3.mono s6
  refine ⟨ki, p5, _, rfl, hB, fun hg H8 s8 => ?_, fun hg r8 q8 H8 gr8 gq8 s8 => ?_⟩
  all_goals
   change z11 ki u3.hs u3.ls u3.ss u3.ts = _ at hg
   have al := (hB.mono s8).alike (hA7.mono s8) (u := ⟨xa, xb, xc, xd, u3.hs, u3.ls, u3.ss, u3.ts⟩) ⟨rfl, rfl, rfl, rfl⟩
   refine ⟨_, _, rfl, al, fun H9 s9 => ⟨_, rfl, ?_⟩⟩
   rw [if_neg (by decide)]
   refine ⟨ki, p, u3, rfl, (hA7.mono s8).mono s9, fun Ha sa => ⟨_, rfl, ?_⟩⟩
   rw [hg]
  ·rw [if_neg (by decide)]
   exact ⟨_, _, rfl, .inl ⟨rfl, .inr (.inr ⟨true, rfl⟩)⟩, fun Hb sb => q _⟩
  ·rw [if_pos rfl]
   refine ⟨Nat.zero_le _, fun pe hpe => ⟨by decide, fun pt hpt => ?_⟩⟩
   have sx := (s9.trans sa).trans (Same.upd (o := .lst []) hpe)
   have sy := sx.trans (Same.upd (o := .tup [.int 0, .ref pe]) hpt)
   have ge : upd (upd Ha pe (.lst [])) pt (.tup [.int 0, .ref pe]) pe = some (.lst []) := z1h z7 hpt
   refine ⟨_, _, rfl, .inr ⟨r8, pt, _, _, rfl, rfl, .inr ⟨sy _ _ gr8, z7⟩, rfl, by show (2 : Nat) ≤ 1000; decide, fun i x y hx hy => ?_⟩, fun Hb sb => q _⟩
   match i, hx, hy with
   | 0, hx, hy => cases hx; cases hy; exact .inl ⟨rfl, .inl ⟨0, rfl⟩⟩
   | 1, hx, hy => cases hx; cases hy; exact .inr ⟨q8, pe, [], [], rfl, rfl, .inl ⟨sy _ _ gq8, ge⟩, rfl, Nat.zero_le _, fun i x y hx hy => by cases hx⟩
   | i + 2, hx, hy => cases hx
end
theorem all_mk {l : PySem.W.OpenLaw} {w : World} {K : PySem.W.Frag} {h : Heap} {mg : Str → Option Value} {fa : Addr} (X : K.In h) (G : h.Ns mainGlobals mg) (hfa : mg "law" = some (.ref fa))
  {C_BadSetup : Addr}
  {C_Council : Addr}
  {C_GateError : Addr}
  {C_Keeper : Addr}
  {C_Store : Addr}
  {C_World : Addr}
  {t_MOST_HOLDERS : Tok}
  {t_MOST_KEEPERS : Tok}
  {t_MOST_LOCKS : Tok}
  {t_MOST_NAMES : Tok}
  {t_MOST_SIGNS : Tok}
  {t_MOST_STORES : Tok}
  {t_NAME_SIGNS : Tok}
  (y_b_ValueError : PySem.W.nsIn K mainGlobals "ValueError" = some none)
  (y_b_all : PySem.W.nsIn K mainGlobals "all" = some none)
  (y_b_bool : PySem.W.nsIn K mainGlobals "bool" = some none)
  (y_b_dict : PySem.W.nsIn K mainGlobals "dict" = some none)
  (y_b_int : PySem.W.nsIn K mainGlobals "int" = some none)
  (y_b_isinstance : PySem.W.nsIn K mainGlobals "isinstance" = some none)
  (y_b_len : PySem.W.nsIn K mainGlobals "len" = some none)
  (y_b_list : PySem.W.nsIn K mainGlobals "list" = some none)
  (y_b_min : PySem.W.nsIn K mainGlobals "min" = some none)
  (y_b_range : PySem.W.nsIn K mainGlobals "range" = some none)
  (y_b_set : PySem.W.nsIn K mainGlobals "set" = some none)
  (y_b_sorted : PySem.W.nsIn K mainGlobals "sorted" = some none)
  (y_b_str : PySem.W.nsIn K mainGlobals "str" = some none)
  (y_b_tuple : PySem.W.nsIn K mainGlobals "tuple" = some none)
  (y_c_MOST_HOLDERS : PySem.W.nsIn K mainGlobals "MOST_HOLDERS" = some (some (.int 8 t_MOST_HOLDERS)))
  (y_c_MOST_KEEPERS : PySem.W.nsIn K mainGlobals "MOST_KEEPERS" = some (some (.int 5 t_MOST_KEEPERS)))
  (y_c_MOST_LOCKS : PySem.W.nsIn K mainGlobals "MOST_LOCKS" = some (some (.int 10 t_MOST_LOCKS)))
  (y_c_MOST_NAMES : PySem.W.nsIn K mainGlobals "MOST_NAMES" = some (some (.int 4 t_MOST_NAMES)))
  (y_c_MOST_SIGNS : PySem.W.nsIn K mainGlobals "MOST_SIGNS" = some (some (.int 8 t_MOST_SIGNS)))
  (y_c_MOST_STORES : PySem.W.nsIn K mainGlobals "MOST_STORES" = some (some (.int 4 t_MOST_STORES)))
  (y_c_NAME_SIGNS : PySem.W.nsIn K mainGlobals "NAME_SIGNS" = some (some (.str "abcdefghijklmnopqrstuvwxyz0123456789" t_NAME_SIGNS)))
  (y_g_BadSetup : PySem.W.nsIn K mainGlobals "BadSetup" = some (some (.ref C_BadSetup)))
  (y_g_Council : PySem.W.nsIn K mainGlobals "Council" = some (some (.ref C_Council)))
  (y_g_GateError : PySem.W.nsIn K mainGlobals "GateError" = some (some (.ref C_GateError)))
  (y_g_Keeper : PySem.W.nsIn K mainGlobals "Keeper" = some (some (.ref C_Keeper)))
  (y_g_Store : PySem.W.nsIn K mainGlobals "Store" = some (some (.ref C_Store)))
  (y_g_World : PySem.W.nsIn K mainGlobals "World" = some (some (.ref C_World)))
  (y_pg_Council : PySem.W.plainGet K C_Council Str.empty = true)
  (y_hd_Council : PySem.W.hasDictIn K C_Council = true)
  (y_po_Council : PySem.W.plainOver K C_Council = true)
  (y_sa_Council : PySem.W.findIn K (.ref C_Council) "__setattr__" = some (some (.builtin "object.__setattr__")))
  (y_n_Council_keepers : PySem.W.findIn K (.ref C_Council) "keepers" = some none)
  (y_n_Council_most : PySem.W.findIn K (.ref C_Council) "most" = some none)
  (y_pg_Keeper : PySem.W.plainGet K C_Keeper Str.empty = true)
  (y_hd_Keeper : PySem.W.hasDictIn K C_Keeper = true)
  (y_po_Keeper : PySem.W.plainOver K C_Keeper = true)
  (y_sa_Keeper : PySem.W.findIn K (.ref C_Keeper) "__setattr__" = some (some (.builtin "object.__setattr__")))
  (y_n_Keeper_up : PySem.W.findIn K (.ref C_Keeper) "up" = some none)
  (y_n_Keeper_top : PySem.W.findIn K (.ref C_Keeper) "top" = some none)
  (y_n_Keeper_kept : PySem.W.findIn K (.ref C_Keeper) "kept" = some none)
  (y_pg_Store : PySem.W.plainGet K C_Store Str.empty = true)
  (y_hd_Store : PySem.W.hasDictIn K C_Store = true)
  (y_po_Store : PySem.W.plainOver K C_Store = true)
  (y_sa_Store : PySem.W.findIn K (.ref C_Store) "__setattr__" = some (some (.builtin "object.__setattr__")))
  (y_n_Store_top : PySem.W.findIn K (.ref C_Store) "top" = some none)
  (y_n_Store_kept : PySem.W.findIn K (.ref C_Store) "kept" = some none)
  (y_pg_World : PySem.W.plainGet K C_World Str.empty = true)
  (y_hd_World : PySem.W.hasDictIn K C_World = true)
  (y_po_World : PySem.W.plainOver K C_World = true)
  (y_sa_World : PySem.W.findIn K (.ref C_World) "__setattr__" = some (some (.builtin "object.__setattr__")))
  (y_n_World_now : PySem.W.findIn K (.ref C_World) "now" = some none)
  (y_n_World_council : PySem.W.findIn K (.ref C_World) "council" = some none)
  (y_n_World_holders : PySem.W.findIn K (.ref C_World) "holders" = some none)
  (y_n_World_locks : PySem.W.findIn K (.ref C_World) "locks" = some none)
  (y_n_World_shareable : PySem.W.findIn K (.ref C_World) "shareable" = some none)
  (y_n_World_stores : PySem.W.findIn K (.ref C_World) "stores" = some none)
  (y_n_World_carries : PySem.W.findIn K (.ref C_World) "carries" = some none)
  (y_n_World_waiting : PySem.W.findIn K (.ref C_World) "waiting" = some none)
  (y_n_World_asleep_since : PySem.W.findIn K (.ref C_World) "asleep_since" = some none)
  (y_n_World_pauses : PySem.W.findIn K (.ref C_World) "pauses" = some none)
  (y_n_World_logged : PySem.W.findIn K (.ref C_World) "logged" = some none)
  (y_n_World_ends : PySem.W.findIn K (.ref C_World) "ends" = some none)
  (y_x_BadSetup : PySem.W.excIn K C_BadSetup [.type "ValueError", .type "Exception", .type "BaseException", .type "object"] "ValueError.__new__" = true)
  (y_x_GateError : PySem.W.excIn K C_GateError [.type "ValueError", .type "Exception", .type "BaseException", .type "object"] "ValueError.__new__" = true)
  (y_sb_BadSetup_GateError : PySem.W.subIn K (.ref C_BadSetup) (.ref C_GateError) = some true)
  (y_ec1_BadSetup : PySem.W.findIn K (.ref C_BadSetup) "__getattribute__" = some (some (.builtin "BaseException.__getattribute__")))
  (y_ec2_BadSetup : PySem.W.findIn K (.ref C_BadSetup) "__getattr__" = some none)
  (y_ec3_BadSetup : PySem.W.findIn K (.ref C_BadSetup) "__class__" = some (some (.builtin "object.__class__")))
  (y_ec6_BadSetup : PySem.W.mroIn K C_BadSetup (.type "object") = some true)
  (y_ec7_BadSetup : PySem.W.mroIn K C_BadSetup (.type "BaseException") = some true)
  (y_sk_BadSetup_BadSetup : PySem.W.subIn K (.ref C_BadSetup) (.ref C_BadSetup) = some true)
  (y_sv_BadSetup : PySem.W.subIn K (.ref C_BadSetup) (.type "ValueError") = some true)
  (y_ti_BadSetup : PySem.W.typeIn K (.ref C_BadSetup) = some (.type "type"))
  (y_ec4 : PySem.W.specialIn K (.builtin "object.__class__") "__get__" = some (some (.builtin "getset_descriptor.__get__")))
  (y_ec5 : PySem.W.takesIn K (.builtin "object.__class__") = some true)
  {f0 : Addr} {d0 : FuncData}
  (a0 : W.nsIn K mainGlobals "good_name" = some (some (.ref f0)))
  (F0 : Fun K "good_name" "good_name" z3k f0 d0)
  {f1 : Addr} {d1 : FuncData}
  (a1 : W.nsIn K mainGlobals "good_path" = some (some (.ref f1)))
  (F1 : Fun K "good_path" "good_path" z3l f1 d1)
  {f2 : Addr} {d2 : FuncData}
  (a2 : W.findIn K (.ref C_Keeper) "__init__" = some (some (.ref f2))) (i2 : W.isFn K (.ref f2) = true)
  (F2 : Fun K "__init__" "Keeper.__init__" z29 f2 d2)
  {f3 : Addr} {d3 : FuncData}
  (a3 : W.findIn K (.ref C_Council) "__init__" = some (some (.ref f3))) (i3 : W.isFn K (.ref f3) = true)
  (F3 : Fun K "__init__" "Council.__init__" z25 f3 d3)
  {f4 : Addr} {d4 : FuncData}
  (a4 : W.findIn K (.ref C_Store) "__init__" = some (some (.ref f4))) (i4 : W.isFn K (.ref f4) = true)
  (F4 : Fun K "__init__" "Store.__init__" z2d f4 d4)
  {f5 : Addr} {d5 : FuncData}
  (a5 : W.nsIn K mainGlobals "all_differ" = some (some (.ref f5)))
  (F5 : Fun K "all_differ" "all_differ" z38 f5 d5)
  {f6 : Addr} {d6 : FuncData}
  (a6 : W.nsIn K mainGlobals "good_setup" = some (some (.ref f6)))
  (F6 : Fun K "good_setup" "good_setup" z39 f6 d6)
  {f7 : Addr} {d7 : FuncData}
  (a7 : W.findIn K (.ref C_World) "__init__" = some (some (.ref f7))) (i7 : W.isFn K (.ref f7) = true)
  (F7 : Fun K "__init__" "World.__init__" z2e f7 d7)
  {f8 : Addr} {d8 : FuncData}
  (a8 : W.findIn K (.ref C_World) "log" = some (some (.ref f8))) (i8 : W.isFn K (.ref f8) = true)
  (F8 : Fun K "log" "World.log" z3m f8 d8)
  {f9 : Addr} {d9 : FuncData}
  (a9 : W.nsIn K mainGlobals "_law_at" = some (some (.ref f9)))
  (F9 : Fun K "_law_at" "_law_at" z4h f9 d9)
  {f10 : Addr} {d10 : FuncData}
  (a10 : W.nsIn K mainGlobals "_law_same" = some (some (.ref f10)))
  (F10 : Fun K "_law_same" "_law_same" z1p f10 d10)
  {f11 : Addr} {d11 : FuncData}
  (a11 : W.nsIn K mainGlobals "_law_name" = some (some (.ref f11)))
  (F11 : Fun K "_law_name" "_law_name" z3n f11 d11)
  {f12 : Addr} {d12 : FuncData}
  (a12 : W.nsIn K mainGlobals "_law_names" = some (some (.ref f12)))
  (F12 : Fun K "_law_names" "_law_names" z3a f12 d12)
  {f13 : Addr} {d13 : FuncData}
  (a13 : W.nsIn K mainGlobals "_law_locks" = some (some (.ref f13)))
  (F13 : Fun K "_law_locks" "_law_locks" z3b f13 d13)
  {f14 : Addr} {d14 : FuncData}
  (a14 : W.nsIn K mainGlobals "_law_some" = some (some (.ref f14)))
  (F14 : Fun K "_law_some" "_law_some" z3o f14 d14)
  {f15 : Addr} {d15 : FuncData}
  (a15 : W.nsIn K mainGlobals "_law_setup" = some (some (.ref f15)))
  (F15 : Fun K "_law_setup" "_law_setup" z3c f15 d15)
  {f16 : Addr} {d16 : FuncData}
  (a16 : W.nsIn K mainGlobals "_law_good" = some (some (.ref f16)))
  (F16 : Fun K "_law_good" "_law_good" z3p f16 d16)
  {f17 : Addr} {d17 : FuncData}
  (a17 : W.nsIn K mainGlobals "_law_names_ok" = some (some (.ref f17)))
  (F17 : Fun K "_law_names_ok" "_law_names_ok" z2l f17 d17)
  {f18 : Addr} {d18 : FuncData}
  (a18 : W.nsIn K mainGlobals "_law_ok" = some (some (.ref f18)))
  (F18 : Fun K "_law_ok" "_law_ok" z4i f18 d18)
  {f19 : Addr} {d19 : FuncData}
  (a19 : W.nsIn K mainGlobals "_law_spoil" = some (some (.ref f19)))
  (F19 : Fun K "_law_spoil" "_law_spoil" z3d f19 d19)
  {f20 : Addr} {d20 : FuncData}
  (a20 : W.nsIn K mainGlobals "_law_made" = some (some (.ref f20)))
  (F20 : Fun K "_law_made" "_law_made" z3q f20 d20)
  {f21 : Addr} {d21 : FuncData}
  (a21 : W.nsIn K mainGlobals "law" = some (some (.ref f21)))
  (F21 : Fun K "law" "law" z4s f21 d21)
  (mk_Council : PySem.W.makesIn K C_Council = true) (kc_Council : PySem.W.keepIn K (.ref C_Council) = true)
  (mk_Keeper : PySem.W.makesIn K C_Keeper = true) (kc_Keeper : PySem.W.keepIn K (.ref C_Keeper) = true)
  (mk_Store : PySem.W.makesIn K C_Store = true) (kc_Store : PySem.W.keepIn K (.ref C_Store) = true)
  (mk_World : PySem.W.makesIn K C_World = true) (kc_World : PySem.W.keepIn K (.ref C_World) = true)
  : ∃ fd : FuncData, (∀ (s : Shared) (v : Value), BindsTo s fd ⟨[v], []⟩ [("_law_script", v)]) ∧ ∀ base : Heap, K.In base → base.Ns mainGlobals mg → FnOk l.prog w K mg base CX0 8 fa fd ["_law_script"] (spLaw K) := by
 have e := hfa.symm.trans (PySem.W.mg_of X G a21)
 cases e
 have T : Txt K mg C_BadSetup C_Council C_GateError C_Keeper C_Store C_World t_MOST_HOLDERS t_MOST_KEEPERS t_MOST_LOCKS t_MOST_NAMES t_MOST_SIGNS t_MOST_STORES t_NAME_SIGNS := ⟨trivial, PySem.W.mg_none_of X G y_b_ValueError, PySem.W.mg_none_of X G y_b_all, PySem.W.mg_none_of X G y_b_bool, PySem.W.mg_none_of X G y_b_dict, PySem.W.mg_none_of X G y_b_int, PySem.W.mg_none_of X G y_b_isinstance, PySem.W.mg_none_of X G y_b_len, PySem.W.mg_none_of X G y_b_list, PySem.W.mg_none_of X G y_b_min, PySem.W.mg_none_of X G y_b_range, PySem.W.mg_none_of X G y_b_set, PySem.W.mg_none_of X G y_b_sorted, PySem.W.mg_none_of X G y_b_str, PySem.W.mg_none_of X G y_b_tuple, PySem.W.mg_of X G y_c_MOST_HOLDERS, PySem.W.mg_of X G y_c_MOST_KEEPERS, PySem.W.mg_of X G y_c_MOST_LOCKS, PySem.W.mg_of X G y_c_MOST_NAMES, PySem.W.mg_of X G y_c_MOST_SIGNS, PySem.W.mg_of X G y_c_MOST_STORES, PySem.W.mg_of X G y_c_NAME_SIGNS, PySem.W.mg_of X G y_g_BadSetup, PySem.W.mg_of X G y_g_Council, PySem.W.mg_of X G y_g_GateError, PySem.W.mg_of X G y_g_Keeper, PySem.W.mg_of X G y_g_Store, PySem.W.mg_of X G y_g_World, y_pg_Council, y_hd_Council, y_po_Council, y_sa_Council, y_n_Council_keepers, y_n_Council_most, y_pg_Keeper, y_hd_Keeper, y_po_Keeper, y_sa_Keeper, y_n_Keeper_up, y_n_Keeper_top, y_n_Keeper_kept, y_pg_Store, y_hd_Store, y_po_Store, y_sa_Store, y_n_Store_top, y_n_Store_kept, y_pg_World, y_hd_World, y_po_World, y_sa_World, y_n_World_now, y_n_World_council, y_n_World_holders, y_n_World_locks, y_n_World_shareable, y_n_World_stores, y_n_World_carries, y_n_World_waiting, y_n_World_asleep_since, y_n_World_pauses, y_n_World_logged, y_n_World_ends, y_x_BadSetup, y_x_GateError, y_sb_BadSetup_GateError, ⟨y_ec1_BadSetup, y_ec2_BadSetup, y_ec3_BadSetup, y_ec4, y_ec5, y_ec6_BadSetup, y_ec7_BadSetup⟩, zct, (zdr y_sv_BadSetup (by decide +kernel))⟩
 obtain ⟨_, _, kV, dc, pm, an, cd, ct, _, rfl, _, _⟩ := id F21.ex
 have D10 : Def K mg "_law_same" z1p ["_law_found", "_law_due"] := ⟨_, _, F10, W.mg_of X G a10, F10.binds fun _ _ _ _ _ _ us hl => match us, hl with | [_, _], _ => rfl⟩
 refine ⟨W.fnOf "law" "law" (z3w z4s) (z1n z4s) (ze z4s) .none kV dc pm an cd ct, fun s v => .of_eq rfl, fun base _ _ => ?_⟩
 have G_good_name := z81 (P := l.prog) (w := w) (base := base) ⟨_, _, F0, W.mg_of X G a0, F0.binds fun _ _ _ _ _ _ us hl => match us, hl with | [_], _ => rfl⟩ T
 have G_good_path := z83 (P := l.prog) (w := w) (base := base) ⟨_, _, F1, W.mg_of X G a1, F1.binds fun _ _ _ _ _ _ us hl => match us, hl with | [_], _ => rfl⟩ T G_good_name
 have G_Keeper___init__ := z4m (P := l.prog) (w := w) (base := base) ⟨_, _, F2, ⟨mk_Keeper, a2, i2, kc_Keeper⟩, F2.binds fun _ _ _ _ _ _ us hl => match us, hl with | [_], _ => rfl⟩ T
 have G_Council___init__ := z47 (P := l.prog) (w := w) (base := base) ⟨_, _, F3, ⟨mk_Council, a3, i3, kc_Council⟩, F3.binds fun _ _ _ _ _ _ us hl => match us, hl with | [_, _], _ => rfl⟩ T G_Keeper___init__
 have G_Store___init__ := z4y (P := l.prog) (w := w) (base := base) ⟨_, _, F4, ⟨mk_Store, a4, i4, kc_Store⟩, F4.binds fun _ _ _ _ _ _ us hl => match us, hl with | [_], _ => rfl⟩ T
 have G_all_differ := z71 (P := l.prog) (w := w) (base := base) ⟨_, _, F5, W.mg_of X G a5, F5.binds fun _ _ _ _ _ _ us hl => match us, hl with | [_, _, _], _ => rfl⟩ T
 have G_good_setup := z72 (P := l.prog) (w := w) (base := base) ⟨_, _, F6, W.mg_of X G a6, F6.binds fun _ _ _ _ _ _ us hl => match us, hl with | [_, _, _, _, _], _ => rfl⟩ T G_good_name G_good_path G_all_differ
 have G_World___init__ := z4z (P := l.prog) (w := w) (base := base) ⟨_, _, F7, ⟨mk_World, a7, i7, kc_World⟩, F7.binds fun _ _ _ _ _ _ us hl => match us, hl with | [_, _, _, _, _, _], _ => rfl⟩ T G_Council___init__ G_Store___init__ G_good_setup
 have G_World_log := z85 (P := l.prog) (w := w) (base := base) ⟨_, _, F8, ⟨a8, i8, F8.kp⟩, F8.binds fun _ _ _ _ _ _ us hl => match us, hl with | [_], _ => rfl⟩ T
 have G__law_at := z9t (P := l.prog) (w := w) (base := base) ⟨_, _, F9, W.mg_of X G a9, F9.binds fun _ _ _ _ _ _ us hl => match us, hl with | [_, _], _ => rfl⟩ T
 have G_same0 := zbt (P := l.prog) (w := w) (base := base) D10 T (zat D10)
 have G_same1 := z5i (P := l.prog) (w := w) (base := base) D10 T G_same0
 have G_same2 := zbu (P := l.prog) (w := w) (base := base) D10 T G_same1
 have G_same3 := zbv (P := l.prog) (w := w) (base := base) D10 T G_same2
 have G__law_same : Has l.prog w K mg base 3 "_law_same" ["_law_found", "_law_due"] (z28 2) := G_same2
 have G__law_name := z87 (P := l.prog) (w := w) (base := base) ⟨_, _, F11, W.mg_of X G a11, F11.binds fun _ _ _ _ _ _ us hl => match us, hl with | [_, _], _ => rfl⟩ T
 have G__law_names := z73 (P := l.prog) (w := w) (base := base) ⟨_, _, F12, W.mg_of X G a12, F12.binds fun _ _ _ _ _ _ us hl => match us, hl with | [_, _], _ => rfl⟩ T G__law_name
 have G__law_locks := z74 (P := l.prog) (w := w) (base := base) ⟨_, _, F13, W.mg_of X G a13, F13.binds fun _ _ _ _ _ _ us hl => match us, hl with | [_, _, _], _ => rfl⟩ T G__law_name
 have G__law_some := z88 (P := l.prog) (w := w) (base := base) ⟨_, _, F14, W.mg_of X G a14, F14.binds fun _ _ _ _ _ _ us hl => match us, hl with | [_, _], _ => rfl⟩ T
 have G__law_setup := z75 (P := l.prog) (w := w) (base := base) ⟨_, _, F15, W.mg_of X G a15, F15.binds fun _ _ _ _ _ _ us hl => match us, hl with | [_], _ => rfl⟩ T G__law_at G__law_names G__law_locks G__law_some
 have G__law_good := z82 (P := l.prog) (w := w) (base := base) ⟨_, _, F16, W.mg_of X G a16, F16.binds fun _ _ _ _ _ _ us hl => match us, hl with | [_], _ => rfl⟩ T
 have G__law_names_ok := z5j (P := l.prog) (w := w) (base := base) ⟨_, _, F17, W.mg_of X G a17, F17.binds fun _ _ _ _ _ _ us hl => match us, hl with | [_, _, _], _ => rfl⟩ T G__law_good
 have G__law_ok := z9v (P := l.prog) (w := w) (base := base) ⟨_, _, F18, W.mg_of X G a18, F18.binds fun _ _ _ _ _ _ us hl => match us, hl with | [_, _], _ => rfl⟩ T G__law_good G__law_names_ok
 have G__law_spoil := z78 (P := l.prog) (w := w) (base := base) ⟨_, _, F19, W.mg_of X G a19, F19.binds fun _ _ _ _ _ _ us hl => match us, hl with | [_, _, _], _ => rfl⟩ T
 have G__law_made := z89 (P := l.prog) (w := w) (base := base) ⟨_, _, F20, W.mg_of X G a20, F20.binds fun _ _ _ _ _ _ us hl => match us, hl with | [_, _], _ => rfl⟩ T G_World___init__ G_World_log
 have G_law := zdj (P := l.prog) (w := w) (base := base) ⟨_, _, F21, W.mg_of X G a21, F21.binds fun _ _ _ _ _ _ us hl => match us, hl with | [_], _ => rfl⟩ T G__law_at G__law_same G__law_setup G__law_ok G__law_spoil G__law_made
 exact Has.at G_law (PySem.W.mg_of X G a21) F21
end Fg
open PySem PySem.W PyProof.Rows
set_option maxRecDepth 100000 in
set_option maxHeartbeats 0 in
theorem PySem.Challenge.cw_fencegate_k21_setup_holds : PySem.Challenge.rw_fencegate_k21_setup.Holds := by
 w_on; o_law
 refine holds_open (r := PySem.Challenge.rw_fencegate_k21_setup.row) (q := Fg.vw) (loose := []) (XP := XL Fg.vw []) (YP := (kHook Fg.kk Fg.ka Fg.ka_eq).says) (N := 12 + (1 + (6998 + 200)))
  Fg.left_ok (kHook Fg.kk Fg.ka Fg.ka_eq).of (kHook Fg.kk Fg.ka Fg.ka_eq).keeps (fun s e => xl_of s (Bool.and_eq_true_iff.mp e).1) XL.keeps
  (by rfl) (by rfl) (by rfl) (fun s e => recFacts_of (Bool.and_eq_true_iff.mp e).2) (by rfl) (by assumption) (by decide +kernel)
  ⟨rfl, rfl, rfl, rfl, rfl, by decide +kernel⟩ ?hw ?hc
 (case hw => w_witness2)
 k_fill
 refine L2.walk_ofK (l := PySem.Challenge.rw_fencegate_k21_setup) (n := 63) (k := 8) (x := "_law_script") (CX := L2.CX0) (sp := fun K => Fg.spLaw K) rfl (by decide) rfl ⟨rfl, by decide, by decide⟩ (fun w h Y => PySem.W.kIn_of Y) ?F (fun K H a ns hl hO hS => ⟨a, ns, rfl, hS, hl, fun _ => rfl⟩) (fun _ _ _ _ z => z)
 case F =>
  intro w mg fa h KX G hmg
  refine' Fg.all_mk KX G hmg ?y_b_ValueError ?y_b_all ?y_b_bool ?y_b_dict ?y_b_int ?y_b_isinstance ?y_b_len ?y_b_list ?y_b_min ?y_b_range ?y_b_set ?y_b_sorted ?y_b_str ?y_b_tuple ?y_c_MOST_HOLDERS ?y_c_MOST_KEEPERS ?y_c_MOST_LOCKS ?y_c_MOST_NAMES ?y_c_MOST_SIGNS ?y_c_MOST_STORES ?y_c_NAME_SIGNS ?y_g_BadSetup ?y_g_Council ?y_g_GateError ?y_g_Keeper ?y_g_Store ?y_g_World ?y_pg_Council ?y_hd_Council ?y_po_Council ?y_sa_Council ?y_n_Council_keepers ?y_n_Council_most ?y_pg_Keeper ?y_hd_Keeper ?y_po_Keeper ?y_sa_Keeper ?y_n_Keeper_up ?y_n_Keeper_top ?y_n_Keeper_kept ?y_pg_Store ?y_hd_Store ?y_po_Store ?y_sa_Store ?y_n_Store_top ?y_n_Store_kept ?y_pg_World ?y_hd_World ?y_po_World ?y_sa_World ?y_n_World_now ?y_n_World_council ?y_n_World_holders ?y_n_World_locks ?y_n_World_shareable ?y_n_World_stores ?y_n_World_carries ?y_n_World_waiting ?y_n_World_asleep_since ?y_n_World_pauses ?y_n_World_logged ?y_n_World_ends ?y_x_BadSetup ?y_x_GateError ?y_sb_BadSetup_GateError ?y_ec1_BadSetup ?y_ec2_BadSetup ?y_ec3_BadSetup ?y_ec6_BadSetup ?y_ec7_BadSetup ?y_sk_BadSetup_BadSetup ?y_sv_BadSetup ?y_ti_BadSetup ?y_ec4 ?y_ec5 ?a0 ?F0 ?a1 ?F1 ?a2 ?i2 ?F2 ?a3 ?i3 ?F3 ?a4 ?i4 ?F4 ?a5 ?F5 ?a6 ?F6 ?a7 ?i7 ?F7 ?a8 ?i8 ?F8 ?a9 ?F9 ?a10 ?F10 ?a11 ?F11 ?a12 ?F12 ?a13 ?F13 ?a14 ?F14 ?a15 ?F15 ?a16 ?F16 ?a17 ?F17 ?a18 ?F18 ?a19 ?F19 ?a20 ?F20 ?a21 ?F21 ?mk_Council ?kc_Council ?mk_Keeper ?kc_Keeper ?mk_Store ?kc_Store ?mk_World ?kc_World
  (case y_b_ValueError => k_is)
  (case y_b_all => k_is)
  (case y_b_bool => k_is)
  (case y_b_dict => k_is)
  (case y_b_int => k_is)
  (case y_b_isinstance => k_is)
  (case y_b_len => k_is)
  (case y_b_list => k_is)
  (case y_b_min => k_is)
  (case y_b_range => k_is)
  (case y_b_set => k_is)
  (case y_b_sorted => k_is)
  (case y_b_str => k_is)
  (case y_b_tuple => k_is)
  (case y_c_MOST_HOLDERS => k_is)
  (case y_c_MOST_KEEPERS => k_is)
  (case y_c_MOST_LOCKS => k_is)
  (case y_c_MOST_NAMES => k_is)
  (case y_c_MOST_SIGNS => k_is)
  (case y_c_MOST_STORES => k_is)
  (case y_c_NAME_SIGNS => k_is)
  (case y_g_BadSetup => k_is)
  (case y_g_Council => k_is)
  (case y_g_GateError => k_is)
  (case y_g_Keeper => k_is)
  (case y_g_Store => k_is)
  (case y_g_World => k_is)
  (case y_pg_Council => k_is)
  (case y_hd_Council => k_is)
  (case y_po_Council => k_is)
  (case y_sa_Council => k_is)
  (case y_n_Council_keepers => k_is)
  (case y_n_Council_most => k_is)
  (case y_pg_Keeper => k_is)
  (case y_hd_Keeper => k_is)
  (case y_po_Keeper => k_is)
  (case y_sa_Keeper => k_is)
  (case y_n_Keeper_up => k_is)
  (case y_n_Keeper_top => k_is)
  (case y_n_Keeper_kept => k_is)
  (case y_pg_Store => k_is)
  (case y_hd_Store => k_is)
  (case y_po_Store => k_is)
  (case y_sa_Store => k_is)
  (case y_n_Store_top => k_is)
  (case y_n_Store_kept => k_is)
  (case y_pg_World => k_is)
  (case y_hd_World => k_is)
  (case y_po_World => k_is)
  (case y_sa_World => k_is)
  (case y_n_World_now => k_is)
  (case y_n_World_council => k_is)
  (case y_n_World_holders => k_is)
  (case y_n_World_locks => k_is)
  (case y_n_World_shareable => k_is)
  (case y_n_World_stores => k_is)
  (case y_n_World_carries => k_is)
  (case y_n_World_waiting => k_is)
  (case y_n_World_asleep_since => k_is)
  (case y_n_World_pauses => k_is)
  (case y_n_World_logged => k_is)
  (case y_n_World_ends => k_is)
  (case y_x_BadSetup => k_exc)
  (case y_x_GateError => k_exc)
  (case y_sb_BadSetup_GateError => k_is)
  (case y_ec1_BadSetup => k_is)
  (case y_ec2_BadSetup => k_is)
  (case y_ec3_BadSetup => k_is)
  (case y_ec6_BadSetup => k_is)
  (case y_ec7_BadSetup => k_is)
  (case y_sk_BadSetup_BadSetup => k_is)
  (case y_sv_BadSetup => k_is)
  (case y_ti_BadSetup => k_is)
  (case y_ec4 => k_is)
  (case y_ec5 => k_is)
  (case a0 => k_is)
  (case F0 => (apply L2.fun_mk; k_is; k_is; k_is))
  (case a1 => k_is)
  (case F1 => (apply L2.fun_mk; k_is; k_is; k_is))
  (case a2 => k_is)
  (case i2 => k_is)
  (case F2 => (apply L2.fun_mk; k_is; k_is; k_is))
  (case a3 => k_is)
  (case i3 => k_is)
  (case F3 => (apply L2.fun_mk; k_is; k_is; k_is))
  (case a4 => k_is)
  (case i4 => k_is)
  (case F4 => (apply L2.fun_mk; k_is; k_is; k_is))
  (case a5 => k_is)
  (case F5 => (apply L2.fun_mk; k_is; k_is; k_is))
  (case a6 => k_is)
  (case F6 => (apply L2.fun_mk; k_is; k_is; k_is))
  (case a7 => k_is)
  (case i7 => k_is)
  (case F7 => (apply L2.fun_mk; k_is; k_is; k_is))
  (case a8 => k_is)
  (case i8 => k_is)
  (case F8 => (apply L2.fun_mk; k_is; k_is; k_is))
  (case a9 => k_is)
  (case F9 => (apply L2.fun_mk; k_is; k_is; k_is))
  (case a10 => k_is)
  (case F10 => (apply L2.fun_mk; k_is; k_is; k_is))
  (case a11 => k_is)
  (case F11 => (apply L2.fun_mk; k_is; k_is; k_is))
  (case a12 => k_is)
  (case F12 => (apply L2.fun_mk; k_is; k_is; k_is))
  (case a13 => k_is)
  (case F13 => (apply L2.fun_mk; k_is; k_is; k_is))
  (case a14 => k_is)
  (case F14 => (apply L2.fun_mk; k_is; k_is; k_is))
  (case a15 => k_is)
  (case F15 => (apply L2.fun_mk; k_is; k_is; k_is))
  (case a16 => k_is)
  (case F16 => (apply L2.fun_mk; k_is; k_is; k_is))
  (case a17 => k_is)
  (case F17 => (apply L2.fun_mk; k_is; k_is; k_is))
  (case a18 => k_is)
  (case F18 => (apply L2.fun_mk; k_is; k_is; k_is))
  (case a19 => k_is)
  (case F19 => (apply L2.fun_mk; k_is; k_is; k_is))
  (case a20 => k_is)
  (case F20 => (apply L2.fun_mk; k_is; k_is; k_is))
  (case a21 => k_is)
  (case F21 => (apply L2.fun_mk; k_is; k_is; k_is))
  (case mk_Council => k_is)
  (case kc_Council => k_is)
  (case mk_Keeper => k_is)
  (case kc_Keeper => k_is)
  (case mk_Store => k_is)
  (case kc_Store => k_is)
  (case mk_World => k_is)
  (case kc_World => k_is)
