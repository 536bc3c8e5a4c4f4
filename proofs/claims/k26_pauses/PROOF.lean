import PyProof.Rows.All
import Wide.All
import OpenK.KLine
import OpenK.KOwn
import OpenK.KRaise
import OpenK.KDescr
import OpenK.KCall
import OpenK.KCls
import OpenK.KMake
import OpenK.KMore
import OpenK.Peek
import KE.KFromBytes
import KE.KIsAll
import KE.KItem
import KE.KxBytes
import Wide.FinOn
import PyProof.EqAt
import PyProof.EqKinds
import PyProof.NeKinds
import PyProof.TupleCall
import PyProof.ExcBaseAll.ValueError
import PyProof.NsDelKeeps
import KE.KDictOf
import KE.KDictList
import KE.KDictSum
import KE.KPairComp
import Lean
import PySem.Challenge.RW_fencegate_k26_pauses
set_option Elab.async false
set_option linter.all false
set_option maxRecDepth 100000
set_option maxHeartbeats 4000000
section
namespace PySem.W
open PySem
def kIns : List Obj → Nat → BT → BT
 | [], _, t => t
 | o :: r, i, t => kIns r (i + 1) (t.ins i o)
noncomputable def headSeen {α : Type} (p q : Program) (loose : List Str) (X : Shared → Bool) (obs : Shared → α) (w : World) (m0 : Nat) (ann : Option Value) (n2 : Nat) (t : Thread) (s : Shared) :=
 ((topRun treeTable p w m0 ann n2 s t).bind fun s₁ => match staticsOk (importedModules p.main.body) (boot_heap w.params) s₁.heap && namesBound p s₁.heap && gensDone s₁ && laidKept (boot_heap w.params) s₁.heap with
  | true => some s₁
  | false => none).map fun s => (openSeen q loose (importedModules p.main.body) X true s, obs s)
theorem left_of {α : Type} {p q : Program} {loose : List Str} {X : Shared → Bool} {obs : Shared → α} {val : World → α} {m0 np nb n1 n2 : Nat} {ann : Option Value} {env : Env} {body : List Stmt} {code : Code} {pA pB pM fr : Pos}
  {sA : World → OsState → Shared} {sB : World → OsState → SharedT}
  (hb : ∀ w : World, (fencedOpening treeTable p w (np + (nb + (n1 + n2)))).map (fun s => (s.heap, s.gens, s.drawn, s.toks)) = some (boot_heap w.params, #[], boot_drawn, boot_toks))
  (pre : ∀ w os, topGo treeTable p w m0 ann np ⟨boot_heap w.params, #[], boot_drawn, boot_toks, os⟩ (topStub p) = some (sA w os, ⟨denote treeTable (.body (body ++ []) env), code, pA, [topFrame fr]⟩))
  (blk : ∀ w os, segRun treeTable p w m0 ann 1 nb (sA w os) (blockOf (body ++ []) env code pA [topFrame fr]) = some (.next, (sB w os).abs, code, pB))
  (mid : ∀ w os, (segRunT treeTable p w m0 ann 1 n1 (sB w os) (piecesOf body env code pB [topFrame fr])).map (fun r => (r.1, r.2.2.1, r.2.2.2, headSeen p q loose X obs w m0 ann n2 (restOf [] env code pM [topFrame fr]) r.2.1.abs)) = some (.next, code, pM, some (openGood q loose, val w)))
  (sz : ∀ w : World, (((boot_heap w.params).isNs mainGlobals && (#[] : Array GenState).size == 0), (boot_heap w.params).objs.size, (boot_heap w.params).nsMap mainGlobals "__annotations__") = (true, m0, ann)) :
  LeftO p q loose X obs val (np + (nb + (n1 + n2))) := fun w => by
 obtain ⟨⟨h, g, d, k, os⟩, hs, hv⟩ := Option.map_eq_some_iff.mp (hb w)
 simp only [Prod.mk.injEq] at hv
 obtain ⟨rfl, rfl, rfl, rfl⟩ := hv
 have R := mid w os
 obtain ⟨z1, z2, z3⟩ : _ ∧ _ ∧ _ := by simpa only [Prod.mk.injEq] using sz w
 cases e : segRunT treeTable p w m0 ann 1 n1 (sB w os) (piecesOf body env code pB [topFrame fr]) with
 | none => rw [e] at R; cases R
 | some r =>
  obtain ⟨f, s', c, pp⟩ := r
  rw [e] at R
  have R2 := Option.some.inj R
  simp only [Prod.mk.injEq] at R2
  obtain ⟨rfl, rfl, rfl, R3⟩ := R2
  unfold headSeen at R3
  have M := segRun_of e
  cases t : topRun treeTable p w m0 ann n2 s'.abs (restOf [] env c pp [topFrame fr]) with
  | none => rw [t] at R3; cases R3
  | some r =>
   rw [t] at R3
   have G := go_top (pre w os) (piece_block (blk w os) (piece_app M t))
   unfold openEnds
   rw [hs]
   show (topFrom treeTable p w _ _).map _ = _
   unfold topFrom
   dsimp only
   rw [z1, z2, z3, G]
   exact R3
theorem z8z {σ τ α β A B C : Type} {o : Option σ} {k1 : σ → A} {k2 : σ → B} {k3 : σ → C} {h : σ → Option τ} {g1 : τ → α} {g2 : τ → β} {a : A} {b : B} {c : C} {v1 : α} {v2 : β}
  (x : o.map (fun r => (k1 r, k2 r, k3 r, (h r).map g1)) = some (a, b, c, some v1)) (y : o.map (fun r => (k1 r, k2 r, k3 r, (h r).map g2)) = some (a, b, c, some v2)) :
  o.map (fun r => (k1 r, k2 r, k3 r, (h r).map fun s => (g1 s, g2 s))) = some (a, b, c, some (v1, v2)) := by
 cases o with
 | none => cases x
 | some r =>
  simp only [Option.map_some, Option.some.injEq, Prod.mk.injEq] at x y ⊢
  obtain ⟨x1, x2, x3, x4⟩ := x
  obtain ⟨-, -, -, y4⟩ := y
  refine ⟨x1, x2, x3, ?_⟩
  cases e : h r with
  | none => rw [e] at x4; cases x4
  | some t =>
   rw [e] at x4 y4
   simp only [Option.map_some, Option.some.injEq] at x4 y4 ⊢
   rw [x4, y4]
theorem zcz {σ τ α β A B C : Type} {o : Option σ} {k1 : σ → A} {k2 : σ → B} {k3 : σ → C} {h : σ → Option τ} {g : τ → α} {F : τ → β} (φ : α → β) (e : ∀ s, F s = φ (g s)) {a : A} {b : B} {c : C} {v : α}
  (x : o.map (fun r => (k1 r, k2 r, k3 r, (h r).map g)) = some (a, b, c, some v)) : o.map (fun r => (k1 r, k2 r, k3 r, (h r).map F)) = some (a, b, c, some (φ v)) := by
 cases o with
 | none => cases x
 | some r =>
  simp only [Option.map_some, Option.some.injEq, Prod.mk.injEq] at x ⊢
  obtain ⟨x1, x2, x3, x4⟩ := x
  refine ⟨x1, x2, x3, ?_⟩
  cases e2 : h r with
  | none => rw [e2] at x4; cases x4
  | some t =>
   rw [e2] at x4
   simp only [Option.map_some, Option.some.injEq] at x4 ⊢
   rw [e, x4]
end PySem.W
namespace Fg
open PySem PySem.W PyProof.Rows PySem.Calls
def ktop (i : Nat) : Stmt := PySem.Challenge.pw_fencegate_k26_pauses.main.body.getD i (.Pass ⟨0, 0, 0, 0⟩)
def zec (s : Stmt) : Arguments := match s with
 | .FunctionDef _ a _ _ _ _ _ _ _ _ => a
 | _ => { posonlyargs := [], args := [], vararg := none, kwonlyargs := [], kw_defaults := [], kwarg := none, defaults := [] }
def zed (s : Stmt) : List Stmt := match s with
 | .FunctionDef _ _ b _ _ _ _ _ _ _ => b
 | _ => []
def zdn (s : Stmt) : Scope := match s with
 | .FunctionDef _ _ _ _ _ _ sc _ _ _ => sc
 | _ => { kind := .function, names := [], isGenerator := false, isCoroutine := false }
def kcls (s : Stmt) (j : Nat) : Stmt := match s with
 | .ClassDef _ _ _ body _ _ _ _ _ _ _ => body.getD j (.Pass ⟨0, 0, 0, 0⟩)
 | _ => .Pass ⟨0, 0, 0, 0⟩
def kS (x : String) (n : Nat) : Value := .str (Str.ofString x) n
def kE (P : Params) (x : String) (n : Nat) (v : Value) : DictEntry := ⟨PyData.keyHash P (Str.ofString x), kS x n, v⟩
def kC (vs : Array Value) : Obj := { cls := .type "code", data := .fields vs }
def kF (n q : String) (s : Stmt) (m : Value) (c : Addr) : Obj := { cls := .type "function", data := .func { name := Str.ofString n, qualname := Str.ofString q, params := zec s, body := .stmts (zed s), scope := zdn s, globals := 3, closure := [], defaults := .none, kwdefaults := .none, pyModule := m, code := .ref c } }
def kk : Params → PySem.W.Frag := fun P => (nat_lit 2, { cls := .none, data := Data.dict #[] }) ::
 (nat_lit 3, { cls := .type "dict", data := Data.dict #[kE P "__name__" 165 (kS "law_fencegate_k26_pauses" 1278), kE P "__doc__" 166 (.none), kE P "__package__" 167 (.none), kE P "__loader__" 168 (.builtin "__main__.__loader__#opaque"), kE P "__spec__" 169 (.none), kE P "__annotations__" 170 (.ref 6), kE P "__builtins__" 171 (.ref 4), kE P "__file__" 173 (kS "/claim/cut.py" 172), kE P "__cached__" 174 (.none), kE P "_wall" 193 (.ref 21), kE P "GateError" 220 (.ref 38), kE P "BadSetup" 243 (.ref 58), kE P "UnknownHolder" 266 (.ref 77), kE P "UnknownLock" 289 (.ref 96), kE P "UnknownStore" 312 (.ref 115), kE P "UnknownKeeper" 335 (.ref 134), kE P "BadTime" 358 (.ref 153), kE P "Asleep" 381 (.ref 172), kE P "Awake" 404 (.ref 191), kE P "PausesSpent" 427 (.ref 210), kE P "NotHeld" 450 (.ref 229), kE P "ReadersOnly" 473 (.ref 248), kE P "Down" 496 (.ref 267), kE P "OldNumber" 519 (.ref 286), kE P "InTheWay" 542 (.ref 305), kE P "NotFree" 565 (.ref 324), kE P "MOST_TIME" 569 (.int 1000 568), kE P "MOST_PAUSES" 571 (.int 20 570), kE P "MOST_SIGNS" 573 (.int 8 572), kE P "MOST_NAMES" 575 (.int 4 574), kE P "NAME_SIGNS" 577 (kS "abcdefghijklmnopqrstuvwxyz0123456789" 576), kE P "good_name" 583 (.ref 331), kE P "good_path" 589 (.ref 336), kE P "within" 598 (.ref 343), kE P "on_line" 606 (.ref 350), kE P "in_way" 616 (.ref 357), kE P "Keeper" 700 (.ref 417), kE P "Council" 827 (.ref 512), kE P "Store" 876 (.ref 547), kE P "ahead" 884 (.ref 556), kE P "chain_of" 894 (.ref 563), kE P "ring_of" 903 (.ref 570), kE P "last_in_ring" 912 (.ref 577), kE P "MOST_KEEPERS" 916 (.int 5 915), kE P "MOST_HOLDERS" 918 (.int 8 917), kE P "MOST_LOCKS" 920 (.int 10 919), kE P "MOST_STORES" 922 (.int 4 921), kE P "all_differ" 931 (.ref 584), kE P "good_setup" 937 (.ref 589), kE P "check_time" 944 (.ref 596), kE P "World" 1277 (.ref 851), kE P "_law_at" 1287 (.ref 862), kE P "_law_same" 1293 (.ref 867), kE P "_law_name" 1308 (.ref 874), kE P "_law_names" 1314 (.ref 879), kE P "_law_deed" 1324 (.ref 886), kE P "_law_events" 1337 (.ref 893), kE P "law" 1354 (.ref 900)] 58 }) ::
 (nat_lit 37, { cls := .type "dict", data := Data.dict #[kE P "__module__" 203 (kS "fencegate.errors" 194), kE P "__firstlineno__" 207 (.int 5 206), kE P "word" 214 (.ref 35), kE P "__static_attributes__" 215 (.ref 36), kE P "__weakref__" 217 (.ref 39), kE P "__doc__" 218 (.none)] 3 }) ::
 (nat_lit 38, { cls := .type "type", data := Data.cls { name := Str.ofString "GateError", bases := [.type "ValueError"], mro := [.ref 38, .type "ValueError", .type "Exception", .type "BaseException", .type "object"], ns := 37, qualname := Str.ofString "GateError", subclasses := [.ref 58, .ref 77, .ref 96, .ref 115, .ref 134, .ref 153, .ref 172, .ref 191, .ref 210, .ref 229, .ref 248, .ref 267, .ref 286, .ref 305, .ref 324] }, slots := #[some (.ref 22), none, some (kS "GateError" 196), some (kS "GateError" 204), some (.builtin "ValueError.__new__"), some (.bool true)] }) ::
 (nat_lit 39, { cls := .type "getset_descriptor", data := Data.fields #[kS "__weakref__" 216, .ref 38, .builtin "ExceptionGroup.__weakref__", .none] }) ::
 (nat_lit 57, { cls := .type "dict", data := Data.dict #[kE P "__module__" 228 (kS "fencegate.errors" 194), kE P "__firstlineno__" 232 (.int 9 231), kE P "word" 239 (.ref 55), kE P "__static_attributes__" 240 (.ref 56), kE P "__doc__" 241 (.none)] 2 }) ::
 (nat_lit 58, { cls := .type "type", data := Data.cls { name := Str.ofString "BadSetup", bases := [.ref 38], mro := [.ref 58, .ref 38, .type "ValueError", .type "Exception", .type "BaseException", .type "object"], ns := 57, qualname := Str.ofString "BadSetup" }, slots := #[some (.ref 42), none, some (kS "BadSetup" 221), some (kS "BadSetup" 229), some (.builtin "ValueError.__new__"), some (.bool true)] }) ::
 (nat_lit 76, { cls := .type "dict", data := Data.dict #[kE P "__module__" 251 (kS "fencegate.errors" 194), kE P "__firstlineno__" 255 (.int 13 254), kE P "word" 262 (.ref 74), kE P "__static_attributes__" 263 (.ref 75), kE P "__doc__" 264 (.none)] 2 }) ::
 (nat_lit 77, { cls := .type "type", data := Data.cls { name := Str.ofString "UnknownHolder", bases := [.ref 38], mro := [.ref 77, .ref 38, .type "ValueError", .type "Exception", .type "BaseException", .type "object"], ns := 76, qualname := Str.ofString "UnknownHolder" }, slots := #[some (.ref 61), none, some (kS "UnknownHolder" 244), some (kS "UnknownHolder" 252), some (.builtin "ValueError.__new__"), some (.bool true)] }) ::
 (nat_lit 95, { cls := .type "dict", data := Data.dict #[kE P "__module__" 274 (kS "fencegate.errors" 194), kE P "__firstlineno__" 278 (.int 17 277), kE P "word" 285 (.ref 93), kE P "__static_attributes__" 286 (.ref 94), kE P "__doc__" 287 (.none)] 2 }) ::
 (nat_lit 96, { cls := .type "type", data := Data.cls { name := Str.ofString "UnknownLock", bases := [.ref 38], mro := [.ref 96, .ref 38, .type "ValueError", .type "Exception", .type "BaseException", .type "object"], ns := 95, qualname := Str.ofString "UnknownLock" }, slots := #[some (.ref 80), none, some (kS "UnknownLock" 267), some (kS "UnknownLock" 275), some (.builtin "ValueError.__new__"), some (.bool true)] }) ::
 (nat_lit 114, { cls := .type "dict", data := Data.dict #[kE P "__module__" 297 (kS "fencegate.errors" 194), kE P "__firstlineno__" 301 (.int 21 300), kE P "word" 308 (.ref 112), kE P "__static_attributes__" 309 (.ref 113), kE P "__doc__" 310 (.none)] 2 }) ::
 (nat_lit 115, { cls := .type "type", data := Data.cls { name := Str.ofString "UnknownStore", bases := [.ref 38], mro := [.ref 115, .ref 38, .type "ValueError", .type "Exception", .type "BaseException", .type "object"], ns := 114, qualname := Str.ofString "UnknownStore" }, slots := #[some (.ref 99), none, some (kS "UnknownStore" 290), some (kS "UnknownStore" 298), some (.builtin "ValueError.__new__"), some (.bool true)] }) ::
 (nat_lit 133, { cls := .type "dict", data := Data.dict #[kE P "__module__" 320 (kS "fencegate.errors" 194), kE P "__firstlineno__" 324 (.int 25 323), kE P "word" 331 (.ref 131), kE P "__static_attributes__" 332 (.ref 132), kE P "__doc__" 333 (.none)] 2 }) ::
 (nat_lit 134, { cls := .type "type", data := Data.cls { name := Str.ofString "UnknownKeeper", bases := [.ref 38], mro := [.ref 134, .ref 38, .type "ValueError", .type "Exception", .type "BaseException", .type "object"], ns := 133, qualname := Str.ofString "UnknownKeeper" }, slots := #[some (.ref 118), none, some (kS "UnknownKeeper" 313), some (kS "UnknownKeeper" 321), some (.builtin "ValueError.__new__"), some (.bool true)] }) ::
 (nat_lit 152, { cls := .type "dict", data := Data.dict #[kE P "__module__" 343 (kS "fencegate.errors" 194), kE P "__firstlineno__" 347 (.int 29 346), kE P "word" 354 (.ref 150), kE P "__static_attributes__" 355 (.ref 151), kE P "__doc__" 356 (.none)] 2 }) ::
 (nat_lit 153, { cls := .type "type", data := Data.cls { name := Str.ofString "BadTime", bases := [.ref 38], mro := [.ref 153, .ref 38, .type "ValueError", .type "Exception", .type "BaseException", .type "object"], ns := 152, qualname := Str.ofString "BadTime" }, slots := #[some (.ref 137), none, some (kS "BadTime" 336), some (kS "BadTime" 344), some (.builtin "ValueError.__new__"), some (.bool true)] }) ::
 (nat_lit 171, { cls := .type "dict", data := Data.dict #[kE P "__module__" 366 (kS "fencegate.errors" 194), kE P "__firstlineno__" 370 (.int 33 369), kE P "word" 377 (.ref 169), kE P "__static_attributes__" 378 (.ref 170), kE P "__doc__" 379 (.none)] 2 }) ::
 (nat_lit 172, { cls := .type "type", data := Data.cls { name := Str.ofString "Asleep", bases := [.ref 38], mro := [.ref 172, .ref 38, .type "ValueError", .type "Exception", .type "BaseException", .type "object"], ns := 171, qualname := Str.ofString "Asleep" }, slots := #[some (.ref 156), none, some (kS "Asleep" 359), some (kS "Asleep" 367), some (.builtin "ValueError.__new__"), some (.bool true)] }) ::
 (nat_lit 190, { cls := .type "dict", data := Data.dict #[kE P "__module__" 389 (kS "fencegate.errors" 194), kE P "__firstlineno__" 393 (.int 37 392), kE P "word" 400 (.ref 188), kE P "__static_attributes__" 401 (.ref 189), kE P "__doc__" 402 (.none)] 2 }) ::
 (nat_lit 191, { cls := .type "type", data := Data.cls { name := Str.ofString "Awake", bases := [.ref 38], mro := [.ref 191, .ref 38, .type "ValueError", .type "Exception", .type "BaseException", .type "object"], ns := 190, qualname := Str.ofString "Awake" }, slots := #[some (.ref 175), none, some (kS "Awake" 382), some (kS "Awake" 390), some (.builtin "ValueError.__new__"), some (.bool true)] }) ::
 (nat_lit 209, { cls := .type "dict", data := Data.dict #[kE P "__module__" 412 (kS "fencegate.errors" 194), kE P "__firstlineno__" 416 (.int 41 415), kE P "word" 423 (.ref 207), kE P "__static_attributes__" 424 (.ref 208), kE P "__doc__" 425 (.none)] 2 }) ::
 (nat_lit 210, { cls := .type "type", data := Data.cls { name := Str.ofString "PausesSpent", bases := [.ref 38], mro := [.ref 210, .ref 38, .type "ValueError", .type "Exception", .type "BaseException", .type "object"], ns := 209, qualname := Str.ofString "PausesSpent" }, slots := #[some (.ref 194), none, some (kS "PausesSpent" 405), some (kS "PausesSpent" 413), some (.builtin "ValueError.__new__"), some (.bool true)] }) ::
 (nat_lit 228, { cls := .type "dict", data := Data.dict #[kE P "__module__" 435 (kS "fencegate.errors" 194), kE P "__firstlineno__" 439 (.int 45 438), kE P "word" 446 (.ref 226), kE P "__static_attributes__" 447 (.ref 227), kE P "__doc__" 448 (.none)] 2 }) ::
 (nat_lit 229, { cls := .type "type", data := Data.cls { name := Str.ofString "NotHeld", bases := [.ref 38], mro := [.ref 229, .ref 38, .type "ValueError", .type "Exception", .type "BaseException", .type "object"], ns := 228, qualname := Str.ofString "NotHeld" }, slots := #[some (.ref 213), none, some (kS "NotHeld" 428), some (kS "NotHeld" 436), some (.builtin "ValueError.__new__"), some (.bool true)] }) ::
 (nat_lit 247, { cls := .type "dict", data := Data.dict #[kE P "__module__" 458 (kS "fencegate.errors" 194), kE P "__firstlineno__" 462 (.int 49 461), kE P "word" 469 (.ref 245), kE P "__static_attributes__" 470 (.ref 246), kE P "__doc__" 471 (.none)] 2 }) ::
 (nat_lit 248, { cls := .type "type", data := Data.cls { name := Str.ofString "ReadersOnly", bases := [.ref 38], mro := [.ref 248, .ref 38, .type "ValueError", .type "Exception", .type "BaseException", .type "object"], ns := 247, qualname := Str.ofString "ReadersOnly" }, slots := #[some (.ref 232), none, some (kS "ReadersOnly" 451), some (kS "ReadersOnly" 459), some (.builtin "ValueError.__new__"), some (.bool true)] }) ::
 (nat_lit 266, { cls := .type "dict", data := Data.dict #[kE P "__module__" 481 (kS "fencegate.errors" 194), kE P "__firstlineno__" 485 (.int 53 484), kE P "word" 492 (.ref 264), kE P "__static_attributes__" 493 (.ref 265), kE P "__doc__" 494 (.none)] 2 }) ::
 (nat_lit 267, { cls := .type "type", data := Data.cls { name := Str.ofString "Down", bases := [.ref 38], mro := [.ref 267, .ref 38, .type "ValueError", .type "Exception", .type "BaseException", .type "object"], ns := 266, qualname := Str.ofString "Down" }, slots := #[some (.ref 251), none, some (kS "Down" 474), some (kS "Down" 482), some (.builtin "ValueError.__new__"), some (.bool true)] }) ::
 (nat_lit 285, { cls := .type "dict", data := Data.dict #[kE P "__module__" 504 (kS "fencegate.errors" 194), kE P "__firstlineno__" 508 (.int 57 507), kE P "word" 515 (.ref 283), kE P "__static_attributes__" 516 (.ref 284), kE P "__doc__" 517 (.none)] 2 }) ::
 (nat_lit 286, { cls := .type "type", data := Data.cls { name := Str.ofString "OldNumber", bases := [.ref 38], mro := [.ref 286, .ref 38, .type "ValueError", .type "Exception", .type "BaseException", .type "object"], ns := 285, qualname := Str.ofString "OldNumber" }, slots := #[some (.ref 270), none, some (kS "OldNumber" 497), some (kS "OldNumber" 505), some (.builtin "ValueError.__new__"), some (.bool true)] }) ::
 (nat_lit 304, { cls := .type "dict", data := Data.dict #[kE P "__module__" 527 (kS "fencegate.errors" 194), kE P "__firstlineno__" 531 (.int 61 530), kE P "word" 538 (.ref 302), kE P "__static_attributes__" 539 (.ref 303), kE P "__doc__" 540 (.none)] 2 }) ::
 (nat_lit 305, { cls := .type "type", data := Data.cls { name := Str.ofString "InTheWay", bases := [.ref 38], mro := [.ref 305, .ref 38, .type "ValueError", .type "Exception", .type "BaseException", .type "object"], ns := 304, qualname := Str.ofString "InTheWay" }, slots := #[some (.ref 289), none, some (kS "InTheWay" 520), some (kS "InTheWay" 528), some (.builtin "ValueError.__new__"), some (.bool true)] }) ::
 (nat_lit 323, { cls := .type "dict", data := Data.dict #[kE P "__module__" 550 (kS "fencegate.errors" 194), kE P "__firstlineno__" 554 (.int 65 553), kE P "word" 561 (.ref 321), kE P "__static_attributes__" 562 (.ref 322), kE P "__doc__" 563 (.none)] 2 }) ::
 (nat_lit 324, { cls := .type "type", data := Data.cls { name := Str.ofString "NotFree", bases := [.ref 38], mro := [.ref 324, .ref 38, .type "ValueError", .type "Exception", .type "BaseException", .type "object"], ns := 323, qualname := Str.ofString "NotFree" }, slots := #[some (.ref 308), none, some (kS "NotFree" 543), some (kS "NotFree" 551), some (.builtin "ValueError.__new__"), some (.bool true)] }) ::
 (nat_lit 330, kC #[kS "good_name" 578, kS "good_name" 579, kS "/claim/cut.py" 580, .int 75 0, .int 1 0, .int 0 0, .int 0 0, .int 3 0, .ref 327, .bool true, .int 181 0, .ref 328, .none, .none, .none, .ref 329, .int 581 0, .int 75 0, kS "/claim/cut.py" 582]) ::
 (nat_lit 331, kF "good_name" "good_name" (ktop 24) (kS "fencegate.paths" 566) 330) ::
 (nat_lit 335, kC #[kS "good_path" 584, kS "good_path" 585, kS "/claim/cut.py" 586, .int 77 0, .int 1 0, .int 0 0, .int 0 0, .int 3 0, .ref 332, .bool true, .int 181 0, .ref 333, .none, .none, .none, .ref 334, .int 587 0, .int 77 0, kS "/claim/cut.py" 588]) ::
 (nat_lit 336, kF "good_path" "good_path" (ktop 25) (kS "fencegate.paths" 566) 335) ::
 (nat_lit 370, kC #[kS "__init__" 631, kS "Keeper.__init__" 632, kS "/claim/cut.py" 633, .int 90 0, .int 1 0, .int 0 0, .int 0 0, .int 3 0, .ref 365, .bool true, .int 181 0, .ref 366, .none, .ref 367, .ref 368, .ref 369, .int 635 0, .int 90 0, kS "/claim/cut.py" 636]) ::
 (nat_lit 371, kF "__init__" "Keeper.__init__" (kcls (ktop 30) 0) (kS "fencegate.keeper" 617) 370) ::
 (nat_lit 416, { cls := .type "dict", data := Data.dict #[kE P "__module__" 626 (kS "fencegate.keeper" 617), kE P "__firstlineno__" 630 (.int 88 629), kE P "__init__" 637 (.ref 371), kE P "fall" 644 (.ref 378), kE P "rise" 651 (.ref 385), kE P "live" 657 (.ref 390), kE P "names_in_way" 663 (.ref 395), kE P "says_free" 674 (.ref 402), kE P "take" 680 (.ref 407), kE P "drop" 689 (.ref 414), kE P "__static_attributes__" 693 (.ref 415), kE P "__dict__" 695 (.ref 418), kE P "__weakref__" 697 (.ref 419), kE P "__doc__" 698 (.none)] 4 }) ::
 (nat_lit 417, { cls := .type "type", data := Data.cls { name := Str.ofString "Keeper", bases := [.type "object"], mro := [.ref 417, .type "object"], ns := 416, qualname := Str.ofString "Keeper" }, slots := #[none, none, some (kS "Keeper" 619), some (kS "Keeper" 627), some (.builtin "object.__new__"), some (.bool true)] }) ::
 (nat_lit 418, { cls := .type "getset_descriptor", data := Data.fields #[kS "__dict__" 694, .ref 417, .builtin "function.__dict__", .builtin "function.__dict__#set"] }) ::
 (nat_lit 419, { cls := .type "getset_descriptor", data := Data.fields #[kS "__weakref__" 696, .ref 417, .builtin "ExceptionGroup.__weakref__", .none] }) ::
 (nat_lit 432, kC #[kS "__init__" 715, kS "Council.__init__" 716, kS "/claim/cut.py" 717, .int 127 0, .int 2 0, .int 0 0, .int 0 0, .int 3 0, .ref 429, .bool true, .int 181 0, .ref 430, .none, .none, .none, .ref 431, .int 718 0, .int 127 0, kS "/claim/cut.py" 719]) ::
 (nat_lit 433, kF "__init__" "Council.__init__" (kcls (ktop 32) 0) (kS "fencegate.council" 701) 432) ::
 (nat_lit 511, { cls := .type "dict", data := Data.dict #[kE P "__module__" 710 (kS "fencegate.council" 701), kE P "__firstlineno__" 714 (.int 125 713), kE P "__init__" 720 (.ref 433), kE P "keeper_at" 728 (.ref 440), kE P "up_keepers" 734 (.ref 445), kE P "fall" 742 (.ref 452), kE P "rise" 750 (.ref 459), kE P "ups" 757 (.ref 466), kE P "notes" 766 (.ref 473), kE P "sayers" 772 (.ref 478), kE P "give" 778 (.ref 483), kE P "drop" 787 (.ref 490), kE P "having" 793 (.ref 495), kE P "free_by" 802 (.ref 502), kE P "named" 817 (.ref 509), kE P "__static_attributes__" 820 (.ref 510), kE P "__dict__" 822 (.ref 513), kE P "__weakref__" 824 (.ref 514), kE P "__doc__" 825 (.none)] 4 }) ::
 (nat_lit 512, { cls := .type "type", data := Data.cls { name := Str.ofString "Council", bases := [.type "object"], mro := [.ref 512, .type "object"], ns := 511, qualname := Str.ofString "Council" }, slots := #[none, none, some (kS "Council" 703), some (kS "Council" 711), some (.builtin "object.__new__"), some (.bool true)] }) ::
 (nat_lit 513, { cls := .type "getset_descriptor", data := Data.fields #[kS "__dict__" 821, .ref 512, .builtin "function.__dict__", .builtin "function.__dict__#set"] }) ::
 (nat_lit 514, { cls := .type "getset_descriptor", data := Data.fields #[kS "__weakref__" 823, .ref 512, .builtin "ExceptionGroup.__weakref__", .none] }) ::
 (nat_lit 529, kC #[kS "__init__" 842, kS "Store.__init__" 843, kS "/claim/cut.py" 844, .int 187 0, .int 1 0, .int 0 0, .int 0 0, .int 3 0, .ref 524, .bool true, .int 181 0, .ref 525, .none, .ref 526, .ref 527, .ref 528, .int 846 0, .int 187 0, kS "/claim/cut.py" 847]) ::
 (nat_lit 530, kF "__init__" "Store.__init__" (kcls (ktop 34) 0) (kS "fencegate.store" 828) 529) ::
 (nat_lit 546, { cls := .type "dict", data := Data.dict #[kE P "__module__" 837 (kS "fencegate.store" 828), kE P "__firstlineno__" 841 (.int 185 840), kE P "__init__" 848 (.ref 530), kE P "take" 859 (.ref 537), kE P "taken" 866 (.ref 544), kE P "__static_attributes__" 869 (.ref 545), kE P "__dict__" 871 (.ref 548), kE P "__weakref__" 873 (.ref 549), kE P "__doc__" 874 (.none)] 4 }) ::
 (nat_lit 547, { cls := .type "type", data := Data.cls { name := Str.ofString "Store", bases := [.type "object"], mro := [.ref 547, .type "object"], ns := 546, qualname := Str.ofString "Store" }, slots := #[none, none, some (kS "Store" 830), some (kS "Store" 838), some (.builtin "object.__new__"), some (.bool true)] }) ::
 (nat_lit 548, { cls := .type "getset_descriptor", data := Data.fields #[kS "__dict__" 870, .ref 547, .builtin "function.__dict__", .builtin "function.__dict__#set"] }) ::
 (nat_lit 549, { cls := .type "getset_descriptor", data := Data.fields #[kS "__weakref__" 872, .ref 547, .builtin "ExceptionGroup.__weakref__", .none] }) ::
 (nat_lit 583, kC #[kS "all_differ" 923, kS "all_differ" 924, kS "/claim/cut.py" 925, .int 234 0, .int 3 0, .int 0 0, .int 0 0, .int 3 0, .ref 578, .bool true, .int 181 0, .ref 579, .none, .ref 580, .ref 581, .ref 582, .int 929 0, .int 234 0, kS "/claim/cut.py" 930]) ::
 (nat_lit 584, kF "all_differ" "all_differ" (ktop 45) (kS "fencegate.world" 913) 583) ::
 (nat_lit 588, kC #[kS "good_setup" 932, kS "good_setup" 933, kS "/claim/cut.py" 934, .int 236 0, .int 5 0, .int 0 0, .int 0 0, .int 3 0, .ref 585, .bool true, .int 181 0, .ref 586, .none, .none, .none, .ref 587, .int 935 0, .int 236 0, kS "/claim/cut.py" 936]) ::
 (nat_lit 589, kF "good_setup" "good_setup" (ktop 46) (kS "fencegate.world" 913) 588) ::
 (nat_lit 595, kC #[kS "check_time" 938, kS "check_time" 939, kS "/claim/cut.py" 940, .int 238 0, .int 1 0, .int 0 0, .int 0 0, .int 3 0, .ref 590, .bool true, .int 181 0, .ref 591, .none, .ref 592, .ref 593, .ref 594, .int 942 0, .int 238 0, kS "/claim/cut.py" 943]) ::
 (nat_lit 596, kF "check_time" "check_time" (ktop 47) (kS "fencegate.world" 913) 595) ::
 (nat_lit 607, kC #[kS "__init__" 957, kS "World.__init__" 958, kS "/claim/cut.py" 959, .int 243 0, .int 6 0, .int 0 0, .int 0 0, .int 3 0, .ref 604, .bool true, .int 181 0, .ref 605, .none, .none, .none, .ref 606, .int 960 0, .int 243 0, kS "/claim/cut.py" 961]) ::
 (nat_lit 608, kF "__init__" "World.__init__" (kcls (ktop 48) 0) (kS "fencegate.world" 913) 607) ::
 (nat_lit 614, kC #[kS "check_holder" 963, kS "World.check_holder" 964, kS "/claim/cut.py" 965, .int 259 0, .int 2 0, .int 0 0, .int 0 0, .int 3 0, .ref 609, .bool true, .int 181 0, .ref 610, .none, .ref 611, .ref 612, .ref 613, .int 968 0, .int 259 0, kS "/claim/cut.py" 969]) ::
 (nat_lit 615, kF "check_holder" "World.check_holder" (kcls (ktop 48) 1) (kS "fencegate.world" 913) 614) ::
 (nat_lit 635, kC #[kS "check_awake" 987, kS "World.check_awake" 988, kS "/claim/cut.py" 989, .int 271 0, .int 2 0, .int 0 0, .int 0 0, .int 3 0, .ref 630, .bool true, .int 181 0, .ref 631, .none, .ref 632, .ref 633, .ref 634, .int 992 0, .int 271 0, kS "/claim/cut.py" 993]) ::
 (nat_lit 636, kF "check_awake" "World.check_awake" (kcls (ktop 48) 4) (kS "fencegate.world" 913) 635) ::
 (nat_lit 663, kC #[kS "settle" 1026, kS "World.settle" 1027, kS "/claim/cut.py" 1028, .int 285 0, .int 1 0, .int 0 0, .int 0 0, .int 3 0, .ref 658, .bool true, .int 181 0, .ref 659, .none, .ref 660, .ref 661, .ref 662, .int 1030 0, .int 285 0, kS "/claim/cut.py" 1031]) ::
 (nat_lit 664, kF "settle" "World.settle" (kcls (ktop 48) 8) (kS "fencegate.world" 913) 663) ::
 (nat_lit 736, kC #[kS "pause" 1123, kS "World.pause" 1124, kS "/claim/cut.py" 1125, .int 362 0, .int 2 0, .int 0 0, .int 0 0, .int 3 0, .ref 731, .bool true, .int 181 0, .ref 732, .none, .ref 733, .ref 734, .ref 735, .int 1128 0, .int 362 0, kS "/claim/cut.py" 1129]) ::
 (nat_lit 737, kF "pause" "World.pause" (kcls (ktop 48) 19) (kS "fencegate.world" 913) 736) ::
 (nat_lit 741, kC #[kS "wake" 1131, kS "World.wake" 1132, kS "/claim/cut.py" 1133, .int 371 0, .int 2 0, .int 0 0, .int 0 0, .int 3 0, .ref 738, .bool true, .int 181 0, .ref 739, .none, .none, .none, .ref 740, .int 1134 0, .int 371 0, kS "/claim/cut.py" 1135]) ::
 (nat_lit 742, kF "wake" "World.wake" (kcls (ktop 48) 20) (kS "fencegate.world" 913) 741) ::
 (nat_lit 746, kC #[kS "became" 1137, kS "World.became" 1138, kS "/claim/cut.py" 1139, .int 378 0, .int 2 0, .int 0 0, .int 0 0, .int 3 0, .ref 743, .bool true, .int 181 0, .ref 744, .none, .none, .none, .ref 745, .int 1140 0, .int 378 0, kS "/claim/cut.py" 1141]) ::
 (nat_lit 747, kF "became" "World.became" (kcls (ktop 48) 21) (kS "fencegate.world" 913) 746) ::
 (nat_lit 774, kC #[kS "tick" 1169, kS "World.tick" 1170, kS "/claim/cut.py" 1171, .int 394 0, .int 2 0, .int 0 0, .int 0 0, .int 3 0, .ref 769, .bool true, .int 181 0, .ref 770, .none, .ref 771, .ref 772, .ref 773, .int 1175 0, .int 394 0, kS "/claim/cut.py" 1176]) ::
 (nat_lit 775, kF "tick" "World.tick" (kcls (ktop 48) 25) (kS "fencegate.world" 913) 774) ::
 (nat_lit 779, kC #[kS "carried" 1178, kS "World.carried" 1179, kS "/claim/cut.py" 1180, .int 402 0, .int 2 0, .int 0 0, .int 0 0, .int 3 0, .ref 776, .bool true, .int 181 0, .ref 777, .none, .none, .none, .ref 778, .int 1181 0, .int 402 0, kS "/claim/cut.py" 1182]) ::
 (nat_lit 780, kF "carried" "World.carried" (kcls (ktop 48) 26) (kS "fencegate.world" 913) 779) ::
 (nat_lit 833, kC #[kS "sleepers" 1236, kS "World.sleepers" 1237, kS "/claim/cut.py" 1238, .int 429 0, .int 1 0, .int 0 0, .int 0 0, .int 3 0, .ref 828, .bool true, .int 181 0, .ref 829, .none, .ref 830, .ref 831, .ref 832, .int 1240 0, .int 429 0, kS "/claim/cut.py" 1241]) ::
 (nat_lit 834, kF "sleepers" "World.sleepers" (kcls (ktop 48) 34) (kS "fencegate.world" 913) 833) ::
 (nat_lit 847, kC #[kS "log" 1251, kS "World.log" 1252, kS "/claim/cut.py" 1253, .int 436 0, .int 1 0, .int 0 0, .int 0 0, .int 3 0, .ref 842, .bool true, .int 181 0, .ref 843, .none, .ref 844, .ref 845, .ref 846, .int 1255 0, .int 436 0, kS "/claim/cut.py" 1256]) ::
 (nat_lit 848, kF "log" "World.log" (kcls (ktop 48) 36) (kS "fencegate.world" 913) 847) ::
 (nat_lit 850, { cls := .type "dict", data := Data.dict #[kE P "__module__" 952 (kS "fencegate.world" 913), kE P "__firstlineno__" 956 (.int 241 955), kE P "__init__" 962 (.ref 608), kE P "check_holder" 970 (.ref 615), kE P "check_lock" 978 (.ref 622), kE P "check_store" 986 (.ref 629), kE P "check_awake" 994 (.ref 636), kE P "check_carries" 1003 (.ref 643), kE P "check_asking" 1014 (.ref 650), kE P "ask" 1025 (.ref 657), kE P "settle" 1032 (.ref 664), kE P "give_all" 1040 (.ref 671), kE P "first_to_give" 1048 (.ref 678), kE P "is_free" 1057 (.ref 685), kE P "give_to" 1070 (.ref 692), kE P "break_ring" 1076 (.ref 697), kE P "leave_row" 1082 (.ref 702), kE P "asking_of" 1091 (.ref 709), kE P "on_whom" 1100 (.ref 716), kE P "back" 1109 (.ref 723), kE P "write" 1122 (.ref 730), kE P "pause" 1130 (.ref 737), kE P "wake" 1136 (.ref 742), kE P "became" 1142 (.ref 747), kE P "fall" 1150 (.ref 754), kE P "rise" 1158 (.ref 761), kE P "turned" 1168 (.ref 768), kE P "tick" 1177 (.ref 775), kE P "carried" 1183 (.ref 780), kE P "row" 1190 (.ref 787), kE P "waits_on" 1198 (.ref 794), kE P "chain" 1204 (.ref 799), kE P "having" 1212 (.ref 806), kE P "free_by" 1220 (.ref 813), kE P "notes" 1228 (.ref 820), kE P "ups" 1235 (.ref 827), kE P "sleepers" 1242 (.ref 834), kE P "taken" 1250 (.ref 841), kE P "log" 1257 (.ref 848), kE P "__static_attributes__" 1270 (.ref 849), kE P "__dict__" 1272 (.ref 852), kE P "__weakref__" 1274 (.ref 853), kE P "__doc__" 1275 (.none)] 4 }) ::
 (nat_lit 851, { cls := .type "type", data := Data.cls { name := Str.ofString "World", bases := [.type "object"], mro := [.ref 851, .type "object"], ns := 850, qualname := Str.ofString "World" }, slots := #[none, none, some (kS "World" 945), some (kS "World" 953), some (.builtin "object.__new__"), some (.bool true)] }) ::
 (nat_lit 852, { cls := .type "getset_descriptor", data := Data.fields #[kS "__dict__" 1271, .ref 851, .builtin "function.__dict__", .builtin "function.__dict__#set"] }) ::
 (nat_lit 853, { cls := .type "getset_descriptor", data := Data.fields #[kS "__weakref__" 1273, .ref 851, .builtin "ExceptionGroup.__weakref__", .none] }) ::
 (nat_lit 861, kC #[kS "_law_at" 1280, kS "_law_at" 1281, kS "/claim/cut.py" 1282, .int 439 0, .int 2 0, .int 0 0, .int 0 0, .int 3 0, .ref 856, .bool true, .int 181 0, .ref 857, .none, .ref 858, .ref 859, .ref 860, .int 1285 0, .int 439 0, kS "/claim/cut.py" 1286]) ::
 (nat_lit 862, kF "_law_at" "_law_at" (ktop 50) (kS "law_fencegate_k26_pauses" 1278) 861) ::
 (nat_lit 866, kC #[kS "_law_same" 1288, kS "_law_same" 1289, kS "/claim/cut.py" 1290, .int 443 0, .int 2 0, .int 0 0, .int 0 0, .int 3 0, .ref 863, .bool true, .int 181 0, .ref 864, .none, .none, .none, .ref 865, .int 1291 0, .int 443 0, kS "/claim/cut.py" 1292]) ::
 (nat_lit 867, kF "_law_same" "_law_same" (ktop 51) (kS "law_fencegate_k26_pauses" 1278) 866) ::
 (nat_lit 873, kC #[kS "_law_name" 1294, kS "_law_name" 1295, kS "/claim/cut.py" 1296, .int 455 0, .int 2 0, .int 0 0, .int 0 0, .int 3 0, .ref 868, .bool true, .int 181 0, .ref 869, .none, .ref 870, .ref 871, .ref 872, .int 1306 0, .int 455 0, kS "/claim/cut.py" 1307]) ::
 (nat_lit 874, kF "_law_name" "_law_name" (ktop 52) (kS "law_fencegate_k26_pauses" 1278) 873) ::
 (nat_lit 878, kC #[kS "_law_names" 1309, kS "_law_names" 1310, kS "/claim/cut.py" 1311, .int 471 0, .int 2 0, .int 0 0, .int 0 0, .int 3 0, .ref 875, .bool true, .int 181 0, .ref 876, .none, .none, .none, .ref 877, .int 1312 0, .int 471 0, kS "/claim/cut.py" 1313]) ::
 (nat_lit 879, kF "_law_names" "_law_names" (ktop 53) (kS "law_fencegate_k26_pauses" 1278) 878) ::
 (nat_lit 885, kC #[kS "_law_deed" 1315, kS "_law_deed" 1316, kS "/claim/cut.py" 1317, .int 473 0, .int 3 0, .int 0 0, .int 0 0, .int 3 0, .ref 880, .bool true, .int 181 0, .ref 881, .none, .ref 882, .ref 883, .ref 884, .int 1322 0, .int 473 0, kS "/claim/cut.py" 1323]) ::
 (nat_lit 886, kF "_law_deed" "_law_deed" (ktop 54) (kS "law_fencegate_k26_pauses" 1278) 885) ::
 (nat_lit 892, kC #[kS "_law_events" 1325, kS "_law_events" 1326, kS "/claim/cut.py" 1327, .int 485 0, .int 2 0, .int 0 0, .int 0 0, .int 3 0, .ref 887, .bool true, .int 181 0, .ref 888, .none, .ref 889, .ref 890, .ref 891, .int 1335 0, .int 485 0, kS "/claim/cut.py" 1336]) ::
 (nat_lit 893, kF "_law_events" "_law_events" (ktop 55) (kS "law_fencegate_k26_pauses" 1278) 892) ::
 (nat_lit 899, kC #[kS "law" 1338, kS "law" 1339, kS "/claim/cut.py" 1340, .int 499 0, .int 1 0, .int 0 0, .int 0 0, .int 3 0, .ref 894, .bool true, .int 181 0, .ref 895, .none, .ref 896, .ref 897, .ref 898, .int 1352 0, .int 499 0, kS "/claim/cut.py" 1353]) ::
 (nat_lit 900, kF "law" "law" (ktop 56) (kS "law_fencegate_k26_pauses" 1278) 899) :: []
def ka : List Addr := 2 :: 3 :: 37 :: 38 :: 39 :: 57 :: 58 :: 76 :: 77 :: 95 :: 96 :: 114 :: 115 :: 133 :: 134 :: 152 :: 153 :: 171 :: 172 :: 190 :: 191 :: 209 :: 210 :: 228 :: 229 :: 247 :: 248 :: 266 :: 267 :: 285 :: 286 :: 304 :: 305 :: 323 :: 324 :: 330 :: 331 :: 335 :: 336 :: 370 :: 371 :: 416 :: 417 :: 418 :: 419 :: 432 :: 433 :: 511 :: 512 :: 513 :: 514 :: 529 :: 530 :: 546 :: 547 :: 548 :: 549 :: 583 :: 584 :: 588 :: 589 :: 595 :: 596 :: 607 :: 608 :: 614 :: 615 :: 635 :: 636 :: 663 :: 664 :: 736 :: 737 :: 741 :: 742 :: 746 :: 747 :: 774 :: 775 :: 779 :: 780 :: 833 :: 834 :: 847 :: 848 :: 850 :: 851 :: 852 :: 853 :: 861 :: 862 :: 866 :: 867 :: 873 :: 874 :: 878 :: 879 :: 885 :: 886 :: 892 :: 893 :: 899 :: 900 :: []
def vw : Program := { PySem.Challenge.pw_fencegate_k26_pauses with main := { PySem.Challenge.pw_fencegate_k26_pauses.main with body := ktop 0 :: ktop 2 :: ktop 3 :: ktop 4 :: ktop 5 :: ktop 6 :: ktop 7 :: ktop 8 :: ktop 9 :: ktop 10 :: ktop 11 :: ktop 12 :: ktop 13 :: ktop 14 :: ktop 15 :: ktop 16 :: ktop 17 :: ktop 19 :: ktop 20 :: ktop 21 :: ktop 22 :: ktop 23 :: ktop 24 :: ktop 25 :: ktop 26 :: ktop 27 :: ktop 28 :: ktop 30 :: ktop 32 :: ktop 34 :: ktop 36 :: ktop 37 :: ktop 38 :: ktop 39 :: ktop 41 :: ktop 42 :: ktop 43 :: ktop 44 :: ktop 45 :: ktop 46 :: ktop 47 :: ktop 48 :: ktop 50 :: ktop 51 :: ktop 52 :: ktop 53 :: ktop 54 :: ktop 55 :: ktop 56 :: [] } }
theorem ka_eq (P : Params) : ka = (kk P).map (·.1) := by kernel_rfl
def kT (vs : Array Value) : Obj := { cls := .type "tuple", data := .seq vs }
noncomputable def hA (P : Params) : List Obj := PySem.W.boot_o_0 P ::
 PySem.W.boot_o_1 P ::
 PySem.W.boot_o_2 P ::
 PySem.W.boot_o_3 P ::
 PySem.W.boot_o_4 P ::
 PySem.W.boot_o_5 P ::
 PySem.W.boot_o_6 P ::
 PySem.W.boot_o_7 P ::
 PySem.W.boot_o_8 P ::
 PySem.W.boot_o_9 P ::
 PySem.W.boot_o_10 P ::
 kT #[] ::
 { cls := .none, data := Data.fields #[] } ::
 kC #[kS "<module>" 182, kS "<module>" 183, kS "/claim/cut.py" 184, .int 1 0, .int 0 0, .int 0 0, .int 0 0, .int 0 0, .ref 11, .bool false, .int 181 0, .ref 12, .none, .none, .none, .none, .int 185 0, .int 1 0, kS "/claim/cut.py" 186] ::
 { cls := .type "frame", slots := #[some (.ref 13), some (.ref 3), some (.ref 3), none, some (kS "__main__" 164), none, some (.ref 0)] } :: []
noncomputable def hB (P : Params) : List Obj := PySem.W.boot_o_0 P ::
 PySem.W.boot_o_1 P ::
 PySem.W.boot_o_2 P ::
 PySem.W.boot_o_3 P ::
 PySem.W.boot_o_4 P ::
 PySem.W.boot_o_5 P ::
 PySem.W.boot_o_6 P ::
 PySem.W.boot_o_7 P ::
 PySem.W.boot_o_8 P ::
 PySem.W.boot_o_9 P ::
 PySem.W.boot_o_10 P ::
 kT #[] ::
 { cls := .none, data := Data.fields #[] } ::
 kC #[kS "<module>" 182, kS "<module>" 183, kS "/claim/cut.py" 184, .int 1 0, .int 0 0, .int 0 0, .int 0 0, .int 0 0, .ref 11, .bool false, .int 181 0, .ref 12, .none, .none, .none, .none, .int 185 0, .int 1 0, kS "/claim/cut.py" 186] ::
 { cls := .type "frame", slots := #[some (.ref 13), some (.ref 3), some (.ref 3), none, some (kS "__main__" 164), none, some (.ref 0)] } :: []
noncomputable def kB (w : World) (os : OsState) : PySem.W.SharedT := ⟨PySem.W.kIns (hB w.params) 0 .nil, 15, {}, #[], {}, 187, os⟩
def kenv : Env := { scope := PySem.Challenge.pw_fencegate_k26_pauses.main.scope, locals := mainNs, globals := mainNs, cells := [], code := Value.ref 13, frame := some 14 }
noncomputable def kA (w : World) (os : OsState) : Shared := ⟨Heap.mk (Array.mk (hA w.params)) {}, #[], {}, 187, os⟩
theorem zdo (w : World) (os : OsState) : PySem.W.topGo treeTable PySem.Challenge.rw_fencegate_k26_pauses.row.prog w 11 (some (Value.ref 6)) 12 ⟨PySem.W.boot_heap w.params, #[], PySem.W.boot_drawn, PySem.W.boot_toks, os⟩ (PySem.W.topStub PySem.Challenge.rw_fencegate_k26_pauses.row.prog) = some (kA w os, ⟨denote treeTable (.body (PySem.Challenge.pw_fencegate_k26_pauses.main.body ++ []) kenv), (Code.body (PySem.W.behindTheImports PySem.Challenge.pw_fencegate_k26_pauses) kenv), ⟨0, 0, 0, 0⟩, [PySem.W.topFrame ⟨0, 0, 0, 0⟩]⟩) := by kernel_rfl
theorem zdp (w : World) (os : OsState) : PySem.W.segRun treeTable PySem.Challenge.rw_fencegate_k26_pauses.row.prog w 11 (some (Value.ref 6)) 1 1 (kA w os) (PySem.W.blockOf (PySem.Challenge.pw_fencegate_k26_pauses.main.body ++ []) kenv (Code.body (PySem.W.behindTheImports PySem.Challenge.pw_fencegate_k26_pauses) kenv) ⟨0, 0, 0, 0⟩ [PySem.W.topFrame ⟨0, 0, 0, 0⟩]) = some (.next, (kB w os).abs, (Code.body (PySem.W.behindTheImports PySem.Challenge.pw_fencegate_k26_pauses) kenv), ⟨0, 0, 0, 0⟩) := by kernel_rfl
set_option maxHeartbeats 0 in
theorem zee (w : World) (os : OsState) : (PySem.W.Fast.tw10110043849684766642 PySem.W.Fast.tw14364793385576792824 PySem.Challenge.rw_fencegate_k26_pauses.row.prog w 11 (some (Value.ref 6)) 1 7317 (kB w os) (PySem.W.piecesOf PySem.Challenge.pw_fencegate_k26_pauses.main.body kenv (Code.body (PySem.W.behindTheImports PySem.Challenge.pw_fencegate_k26_pauses) kenv) ⟨0, 0, 0, 0⟩ [PySem.W.topFrame ⟨0, 0, 0, 0⟩])).map (fun r => (r.1, r.2.2.1, r.2.2.2, ((PySem.W.Fast.tw14082659384304107361 PySem.W.Fast.tw14364793385576792824 PySem.Challenge.rw_fencegate_k26_pauses.row.prog w 11 (some (Value.ref 6)) 200 r.2.1.abs (PySem.W.restOf [] kenv (Code.body (PySem.W.behindTheImports PySem.Challenge.pw_fencegate_k26_pauses) kenv) ⟨499, 0, 530, 48⟩ [PySem.W.topFrame ⟨0, 0, 0, 0⟩])).bind fun s₁ => match PySem.W.staticsOk (importedModules PySem.Challenge.rw_fencegate_k26_pauses.row.prog.main.body) (PySem.W.boot_heap w.params) s₁.heap && PySem.W.namesBound PySem.Challenge.rw_fencegate_k26_pauses.row.prog s₁.heap && PySem.W.gensDone s₁ && PySem.W.laidKept (PySem.W.boot_heap w.params) s₁.heap with
  | true => some s₁
  | false => none).map (fun s => (seen ((recsOf vw).map (·.name)) (ownsOf vw) [] { s with gens := #[] }, s.heap.bltView, s.heap.keysOk (looseW vw []) ((recsOf vw).map (·.name)) ((litsOf vw).map (·.1)) ((clssOf vw (looseW vw [])).map (·.name)) && s.heap.accountedOkI (importedModules PySem.Challenge.rw_fencegate_k26_pauses.row.prog.main.body) && s.heap.isNs mainGlobals && s.heap.isNs builtinsNs && tablesOk vw s.heap && (PySem.W.xlAt vw [] s && PySem.W.recOk (PySem.W.RowW.records (PySem.W.OpenRow.toRowW PySem.Challenge.rw_fencegate_k26_pauses.row)) s) && (if true then s.gens.size == 0 else !leftWithCleanup s.gens), tabsOk vw s)))) = some (.next, (Code.body (PySem.W.behindTheImports PySem.Challenge.pw_fencegate_k26_pauses) kenv), ⟨499, 0, 530, 48⟩, some (expectedOf vw, bltViewBooted, true, true)) := by kernel_rfl
set_option maxHeartbeats 0 in
theorem zef (w : World) (os : OsState) : (PySem.W.Fast.tw10110043849684766642 PySem.W.Fast.tw14364793385576792824 PySem.Challenge.rw_fencegate_k26_pauses.row.prog w 11 (some (Value.ref 6)) 1 7317 (kB w os) (PySem.W.piecesOf PySem.Challenge.pw_fencegate_k26_pauses.main.body kenv (Code.body (PySem.W.behindTheImports PySem.Challenge.pw_fencegate_k26_pauses) kenv) ⟨0, 0, 0, 0⟩ [PySem.W.topFrame ⟨0, 0, 0, 0⟩])).map (fun r => (r.1, r.2.2.1, r.2.2.2, ((PySem.W.Fast.tw14082659384304107361 PySem.W.Fast.tw14364793385576792824 PySem.Challenge.rw_fencegate_k26_pauses.row.prog w 11 (some (Value.ref 6)) 200 r.2.1.abs (PySem.W.restOf [] kenv (Code.body (PySem.W.behindTheImports PySem.Challenge.pw_fencegate_k26_pauses) kenv) ⟨499, 0, 530, 48⟩ [PySem.W.topFrame ⟨0, 0, 0, 0⟩])).bind fun s₁ => match PySem.W.staticsOk (importedModules PySem.Challenge.rw_fencegate_k26_pauses.row.prog.main.body) (PySem.W.boot_heap w.params) s₁.heap && PySem.W.namesBound PySem.Challenge.rw_fencegate_k26_pauses.row.prog s₁.heap && PySem.W.gensDone s₁ && PySem.W.laidKept (PySem.W.boot_heap w.params) s₁.heap with
  | true => some s₁
  | false => none).map (fun s => plainSeenE vw (looseW vw []) s))) = some (.next, (Code.body (PySem.W.behindTheImports PySem.Challenge.pw_fencegate_k26_pauses) kenv), ⟨499, 0, 530, 48⟩, some (plainGoodE vw (looseW vw []))) := by kernel_rfl
set_option maxHeartbeats 0 in
theorem zeg (w : World) (os : OsState) : (PySem.W.Fast.tw10110043849684766642 PySem.W.Fast.tw14364793385576792824 PySem.Challenge.rw_fencegate_k26_pauses.row.prog w 11 (some (Value.ref 6)) 1 7317 (kB w os) (PySem.W.piecesOf PySem.Challenge.pw_fencegate_k26_pauses.main.body kenv (Code.body (PySem.W.behindTheImports PySem.Challenge.pw_fencegate_k26_pauses) kenv) ⟨0, 0, 0, 0⟩ [PySem.W.topFrame ⟨0, 0, 0, 0⟩])).map (fun r => (r.1, r.2.2.1, r.2.2.2, ((PySem.W.Fast.tw14082659384304107361 PySem.W.Fast.tw14364793385576792824 PySem.Challenge.rw_fencegate_k26_pauses.row.prog w 11 (some (Value.ref 6)) 200 r.2.1.abs (PySem.W.restOf [] kenv (Code.body (PySem.W.behindTheImports PySem.Challenge.pw_fencegate_k26_pauses) kenv) ⟨499, 0, 530, 48⟩ [PySem.W.topFrame ⟨0, 0, 0, 0⟩])).bind fun s₁ => match PySem.W.staticsOk (importedModules PySem.Challenge.rw_fencegate_k26_pauses.row.prog.main.body) (PySem.W.boot_heap w.params) s₁.heap && PySem.W.namesBound PySem.Challenge.rw_fencegate_k26_pauses.row.prog s₁.heap && PySem.W.gensDone s₁ && PySem.W.laidKept (PySem.W.boot_heap w.params) s₁.heap with
  | true => some s₁
  | false => none).map (fun s => (pinSeenD vw (drecsOf vw) s, plainSeenD vw [] s, wideSeen vw s, clsSeenW vw [] s, (PySem.W.kHook kk ka ka_eq).obs s)))) = some (.next, (Code.body (PySem.W.behindTheImports PySem.Challenge.pw_fencegate_k26_pauses) kenv), ⟨499, 0, 530, 48⟩, some (pinGoodD (drecsOf vw), plainGoodD vw [], wideGood vw, clsGoodW vw [], (PySem.W.kHook kk ka ka_eq).val w)) := by kernel_rfl
theorem zd0 (w : World) : (((PySem.W.boot_heap w.params).isNs mainGlobals && (#[] : Array GenState).size == 0), (PySem.W.boot_heap w.params).objs.size, (PySem.W.boot_heap w.params).nsMap mainGlobals "__annotations__") = (true, 11, (some (Value.ref 6))) := by kernel_rfl
theorem left_ok : PySem.W.LeftO PySem.Challenge.rw_fencegate_k26_pauses.row.prog vw [] (fun s => PySem.W.xlAt vw [] s && PySem.W.recOk (PySem.W.RowW.records (PySem.W.OpenRow.toRowW PySem.Challenge.rw_fencegate_k26_pauses.row)) s) (PySem.W.kHook kk ka ka_eq).obs (PySem.W.kHook kk ka ka_eq).val (12 + (1 + (7317 + 200))) :=
 PySem.W.left_of (PySem.W.boot_open (p := PySem.Challenge.rw_fencegate_k26_pauses.row.prog) (N := 12 + (1 + (7317 + 200))) (by kernel_rfl) (by decide) (fun s => by kernel_rfl)) zdo zdp
  (fun w os => by
   unfold PySem.W.headSeen
   have x := z8z (z8z (zee w os) (zef w os)) (zeg w os)
   rw [← PySem.W.Fast.te10110043849684766642, ← PySem.W.Fast.te14082659384304107361, ← PySem.W.Fast.te14364793385576792824] at x
   exact zcz (fun v => ((v.1.1.1, v.1.1.2.1, v.1.1.2.2.1, v.1.1.2.2.2, v.2.1, v.1.2, v.2.2.1, v.2.2.2.1, v.2.2.2.2.1), v.2.2.2.2.2)) (fun s => rfl) x) zd0
end Fg
end
section
namespace L2
open PySem PySem.Spec PyProof.Rows
abbrev Key := Sum Int Str
def z4q : Key → Value → Bool
 | .inl k, v => Value.isInt k v
 | .inr x, v => Value.isStrOf x v
def keyH (w : World) : Key → Int
 | .inl k => hashInt k
 | .inr x => hashStr w x
theorem z18 : ∀ {k : Key} {v : Value}, z4q k v = true → (∃ i t, k = Sum.inl i ∧ v = Value.int i t) ∨ (∃ x t, k = Sum.inr x ∧ v = Value.str x t)
 | .inl i, v, h => by
  obtain ⟨t, e⟩ := Value.isInt_shape (k := i) (v := v) h
  exact .inl ⟨i, t, rfl, e⟩
 | .inr x, v, h => by
  obtain ⟨t, e⟩ := Value.isStrOf_shape (x := x) (v := v) h
  exact .inr ⟨x, t, rfl, e⟩
theorem zae (i : Int) (t : Tok) : z4q (.inl i) (.int i t) = true := by simp [z4q, Value.isInt]
theorem zaf (x : Str) (t : Tok) : z4q (.inr x) (.str x t) = true := by simp [z4q, Value.isStrOf]
theorem zdq (a b : Int) : decide ((Sum.inl a : Key) = Sum.inl b) = (a == b) := by
 by_cases e : a = b
 ·subst e; simp
 ·have h : ¬ (Sum.inl a : Key) = Sum.inl b := fun q => e (Sum.inl.inj q)
  rw [decide_eq_false h]
  exact (beq_eq_false_iff_ne.mpr e).symm
theorem zdr (a b : Str) : decide ((Sum.inr a : Key) = Sum.inr b) = decide (a = b) := by
 by_cases e : a = b
 ·subst e; simp
 ·have h : ¬ (Sum.inr a : Key) = Sum.inr b := fun q => e (Sum.inr.inj q)
  rw [decide_eq_false h, decide_eq_false e]
theorem zds (a : Int) (b : Str) : decide ((Sum.inl a : Key) = Sum.inr b) = false := decide_eq_false (fun q => nomatch q)
theorem zdt (a : Str) (b : Int) : decide ((Sum.inr a : Key) = Sum.inl b) = false := decide_eq_false (fun q => nomatch q)
def zo (prog : Program) (w : World) : PySem.KeyKind prog w Key where
 is := z4q
 hash := keyH w
 inj := fun v a b ha hb => by
  rcases z18 ha with ⟨i, t, rfl, rfl⟩ | ⟨x, t, rfl, rfl⟩
  ·rcases z18 hb with ⟨j, u, rfl, e⟩ | ⟨y, u, rfl, e⟩
   ·injection e with e1 _; rw [e1]
   ·exact nomatch e
  ·rcases z18 hb with ⟨j, u, rfl, e⟩ | ⟨y, u, rfl, e⟩
   ·exact nomatch e
   ·injection e with e1 _; rw [e1]
 byValue := fun k v h => by
  rcases z18 h with ⟨i, t, rfl, rfl⟩ | ⟨x, t, rfl, rfl⟩ <;> rfl
 pyHash := fun hv h => by
  rcases z18 hv with ⟨i, t, rfl, rfl⟩ | ⟨x, t, rfl, rfl⟩
  ·exact wpAny_pyHash_int h
  ·exact wpAny_pyHash_str h
 eqBool := fun hu hv h => by
  rcases z18 hu with ⟨i, t, rfl, rfl⟩ | ⟨x, t, rfl, rfl⟩
  ·rcases z18 hv with ⟨j, u, rfl, rfl⟩ | ⟨y, u, rfl, rfl⟩
   ·rw [zdq] at h; exact wpAny_eqBool_int h
   ·rw [zds] at h; exact SeqAt.EqAt.int_str i t y u _ _ _ _ h
  ·rcases z18 hv with ⟨j, u, rfl, rfl⟩ | ⟨y, u, rfl, rfl⟩
   ·rw [zdt] at h; exact SeqAt.EqAt.str_int x t j u _ _ _ _ h
   ·rw [zdr] at h; exact wpAny_eqBool_str h
 «strs» := fun k x t v h => by
  rcases z18 h with ⟨i, u, rfl, e⟩ | ⟨y, u, rfl, e⟩
  ·exact nomatch e
  ·injection e with e1 _
   subst e1
   cases v <;> rfl
theorem z8l (prog : Program) (w : World) (i : Int) (t : Tok) : (zo prog w).is (.inl i) (.int i t) = true := zae i t
theorem z8m (prog : Program) (w : World) (x : Str) (t : Tok) : (zo prog w).is (.inr x) (.str x t) = true := zaf x t
end L2
namespace L2
open PySem PySem.Spec PyProof.Rows
inductive V where
 | non | bl (b : Bool) | int (i : Int) | str (x : Str) | byt (b : Array UInt8) | flt (b : UInt64) | ref (a : Addr) | ty (n : String)
 deriving DecidableEq
def RelV : V → Value → Prop
 | .non, u => u = Value.none
 | .bl b, u => u = Value.bool b
 | .int i, u => ∃ t, u = Value.int i t
 | .str x, u => ∃ t, u = Value.str x t
 | .byt b, u => ∃ t, u = Value.bytes b t
 | .flt b, u => ∃ t, u = Value.float b t
 | .ref a, u => u = Value.ref a
 | .ty n, u => u = Value.type n
abbrev Vals : List V → List Value → Prop := Paired RelV
theorem Vals.length {xs : List V} {us : List Value} (r : Vals xs us) : xs.length = us.length := Paired.length r
theorem Vals.get : ∀ {xs : List V} {us : List Value} {i : Nat} {x : V}, Vals xs us → xs[i]? = some x → ∃ u, us[i]? = some u ∧ RelV x u
 | _, _, _, _, .nil, e => by simp at e
 | _, _, 0, _, .cons r _, e => by simp at e; subst e; exact ⟨_, rfl, r⟩
 | _, _, i + 1, x, .cons _ t, e => by
  obtain ⟨u, h1, h2⟩ := Vals.get (i := i) (x := x) t (by simpa using e)
  exact ⟨u, by simpa using h1, h2⟩
theorem Vals.set {x : V} {u : Value} (r : RelV x u) : ∀ {xs : List V} {us : List Value} (i : Nat), Vals xs us → Vals (xs.set i x) (us.set i u)
 | _, _, _, .nil => .nil
 | _, _, 0, .cons _ t => .cons r t
 | _, _, i + 1, .cons q t => .cons q (Vals.set r i t)
theorem Vals.append : ∀ {xs ys : List V} {us ws : List Value}, Vals xs us → Vals ys ws → Vals (xs ++ ys) (us ++ ws)
 | _, _, _, _, .nil, s => s
 | _, _, _, _, .cons r t, s => .cons r (Vals.append t s)
theorem Vals.take : ∀ {xs : List V} {us : List Value} (n : Nat), Vals xs us → Vals (xs.take n) (us.take n)
 | _, _, 0, _ => .nil
 | _, _, _ + 1, .nil => .nil
 | _, _, n + 1, .cons r t => .cons r (Vals.take n t)
theorem Vals.drop : ∀ {xs : List V} {us : List Value} (n : Nat), Vals xs us → Vals (xs.drop n) (us.drop n)
 | _, _, 0, r => r
 | _, _, _ + 1, .nil => .nil
 | _, _, n + 1, .cons _ t => Vals.drop n t
theorem Vals.none_of : ∀ {xs : List V} {us : List Value} {i : Nat}, Vals xs us → xs[i]? = none → us[i]? = none := fun {xs us i} r e => by
 have h1 := r.length
 have h2 : xs.length ≤ i := List.getElem?_eq_none_iff.mp e
 exact List.getElem?_eq_none_iff.mpr (by omega)
def RelO : Option V → Option Value → Prop
 | some v, some u => RelV v u
 | none, none => True
 | _, _ => False
def KV {κ : Type} : List (κ × V) → List (κ × Value) → Prop := Paired fun (p : κ × V) (q : κ × Value) => p.1 = q.1 ∧ RelV p.2 q.2
def kV : Key → V
 | .inl i => .int i
 | .inr x => .str x
inductive HO where
 | lst (xs : List V)
 | tup (xs : List V)
 | dK (kvs : List (Key × V)) | dT (kvs : List (List Key × V))
 | set (S : Int → Bool) (n : Nat)
 | ins (C dx : Addr) (fs : List (Str × V))
 | own (x : Addr)
 | xd (fs : List (Str × V))
 | met (f x : Addr)
 | rng (lo hi : Int)
 | frz (o : Obj) (u : HO)
 | tbl (ps : Array Value)
 | ext (φ : Heap → Prop)
abbrev Hp := Addr → Option HO
def upd (H : Hp) (a : Addr) (o : HO) : Hp := fun b => if b = a then some o else H b
theorem z5 {H : Hp} {a : Addr} {o : HO} : upd H a o a = some o := by unfold upd; rw [if_pos rfl]
theorem z7 {H : Hp} {a b : Addr} {o : HO} (h : b ≠ a) : upd H a o b = H b := by unfold upd; rw [if_neg h]
theorem z19 {H : Hp} {a b : Addr} {o u : HO} (h : H a = some o) (h' : H b = some u) (d : o ≠ u) : a ≠ b := by
 intro e; subst e; rw [h] at h'; exact d (Option.some.inj h')
theorem za {H : Hp} {a b : Addr} {o : HO} (h : H a = some o) (h' : H b = none) : a ≠ b := by
 intro e; subst e; rw [h] at h'; cases h'
section
variable (P : Program) (w : World)
def ObjOk (H : Hp) (h : Heap) (a : Addr) : HO → Prop
 | .lst xs => xs.length ≤ sizeLine ∧ ∃ (its : List Value) (n : Nat), Vals xs its ∧ h.get? a = some { cls := .type "list", data := .seq its.toArray n }
 | .tup xs => xs.length ≤ sizeLine ∧ ∃ its : List Value, Vals xs its ∧ IsTup h a its.toArray
 | .dK kvs => kvs.length ≤ sizeLine ∧ (a == sysModules) = false ∧ ∃ vs, KV kvs vs ∧ h.DictOf (zo P w) a vs
 | .dT kvs => kvs.length ≤ sizeLine ∧ (a == sysModules) = false ∧ ∃ xs : List (List Key × Addr × Value),
   Paired (fun (p : List Key × V) (q : List Key × Addr × Value) => p.1 = q.1 ∧ H q.2.1 = some (.tup (p.1.map kV)) ∧ RelV p.2 q.2.2) kvs xs ∧
   ∃ o es ep, h.get? a = some o ∧ o.ExactDict ∧ o.data = .dict es ep ∧ es.toList = xs.map (entryOfKey (tupleKind (zo P w))) ∧ (xs.map (·.1)).Nodup
 | .set S n => h.SetOf (intKind P w) a S n
 | .ins C dx fs => H dx = some (.own a) ∧ fs.length ≤ 1000 ∧ dx ≠ a ∧ h.get? a = some (PySem.W.instObj C dx) ∧
   ∃ mA, h.Ns1 dx mA ∧ (∀ f, RelO (fs.lookup f) (mA f)) ∧ PySem.Within mA (fs.map (·.1))
 | .own _ => ∃ o, h.get? a = some o
 | .xd fs => ∃ mA, h.Ns1 a mA ∧ ∀ f, RelO (fs.lookup f) (mA f)
 | .rng lo hi => ∃ t u v, h.get? a = some { cls := .type "range", data := .fields #[.int lo t, .int hi u, .int 1 v] }
 | .frz o u => h.get? a = some o ∧ ObjOk H h a u
 | .tbl ps => h.get? a = some { cls := .none, data := .fields ps }
 | .met f x => h.get? a = some (PySem.W.methodObj (.ref f) (.ref x))
 | .ext φ => φ h ∧ (∃ o, h.get? a = some o) ∧ ∀ h1 h2 : Heap, φ h1 → (∀ o, h1.get? a = some o → h2.get? a = some o) → φ h2
def HOk (H : Hp) (h : Heap) : Prop := ∀ a o, H a = some o → ObjOk P w H h a o
end
section
variable {P : Program} {w : World} {H H' : Hp} {h h' : Heap} {a : Addr} {o : HO}
theorem ObjOk.lt (x : ObjOk P w H h a o) : a < h.objs.size := by
 cases o with
 | lst xs => obtain ⟨_, _, _, _, e⟩ := x; exact Heap.lt_size e
 | tup xs => obtain ⟨_, _, _, p⟩ := x; exact p.lt
 | dK kvs => obtain ⟨_, _, _, _, o, _, _, e, _⟩ := x; exact Heap.lt_size e
 | dT kvs => obtain ⟨_, _, _, _, o, _, _, e, _⟩ := x; exact Heap.lt_size e
 | set S n => obtain ⟨o, _, _, _, e, _⟩ := x; exact Heap.lt_size e
 | ins C dx fs => obtain ⟨_, _, _, e, _⟩ := x; exact Heap.lt_size e
 | own y => obtain ⟨_, e⟩ := x; exact Heap.lt_size e
 | xd fs => obtain ⟨_, ⟨_, _, _, e, _⟩, _⟩ := x; exact Heap.lt_size e
 | rng lo hi => obtain ⟨_, _, _, e⟩ := x; exact Heap.lt_size e
 | frz ob u => obtain ⟨e, _⟩ := x; exact Heap.lt_size e
 | tbl ps => exact Heap.lt_size (show h.get? a = some _ from x)
 | met f y => exact Heap.lt_size (show h.get? a = some _ from x)
 | ext φ => obtain ⟨_, ⟨_, e⟩, _⟩ := x; exact Heap.lt_size e
theorem Paired.mapP {α β : Type} {F G : α → β → Prop} : ∀ {l₁ : List α} {l₂ : List β}, Paired F l₁ l₂ → (∀ a b, F a b → G a b) → Paired G l₁ l₂
 | _, _, .nil, _ => .nil
 | _, _, .cons r t, f => .cons (f _ _ r) (Paired.mapP t f)
theorem ObjOk.stay (x : ObjOk P w H h a o) (k : ∀ b u, (b = a ∨ H b = some (.own a)) → h.get? b = some u → h'.get? b = some u)
  (ho : ∀ b, H b = some (.own a) → H' b = some (.own a)) (ht : ∀ b xs, H b = some (.tup xs) → H' b = some (.tup xs)) : ObjOk P w H' h' a o := by
 induction o with
 | lst xs => obtain ⟨z, its, n, r, e⟩ := x; exact ⟨z, its, n, r, k _ _ (.inl rfl) e⟩
 | tup xs => obtain ⟨z, its, r, ob, e, c⟩ := x; exact ⟨z, its, r, ob, k _ _ (.inl rfl) e, c⟩
 | dK kvs => obtain ⟨z, y, vs, r, ob, es, ep, e, c⟩ := x; exact ⟨z, y, vs, r, ob, es, ep, k _ _ (.inl rfl) e, c⟩
 | dT kvs =>
  obtain ⟨z, y, xs, r, ob, es, ep, e, c⟩ := x
  exact ⟨z, y, xs, Paired.mapP r fun p q z => ⟨z.1, ht _ _ z.2.1, z.2.2⟩, ob, es, ep, k _ _ (.inl rfl) e, c⟩
 | set S n => obtain ⟨ob, es, ep, t, e, c⟩ := x; exact ⟨ob, es, ep, t, k _ _ (.inl rfl) e, c⟩
 | ins C dx fs =>
  obtain ⟨d, z, ne, e, mA, ⟨od, es, ep, e2, c⟩, r⟩ := x
  exact ⟨ho _ d, z, ne, k _ _ (.inl rfl) e, mA, ⟨od, es, ep, k _ _ (.inr d) e2, c⟩, r⟩
 | own y => obtain ⟨ob, e⟩ := x; exact ⟨ob, k _ _ (.inl rfl) e⟩
 | xd fs => obtain ⟨mA, ⟨od, es, ep, e, c⟩, r⟩ := x; exact ⟨mA, ⟨od, es, ep, k _ _ (.inl rfl) e, c⟩, r⟩
 | rng lo hi => obtain ⟨t, u, v, e⟩ := x; exact ⟨t, u, v, k _ _ (.inl rfl) e⟩
 | frz ob u ih => obtain ⟨e, q⟩ := x; exact ⟨k _ _ (.inl rfl) e, ih q⟩
 | tbl ps =>
  have e : h.get? a = some { cls := .none, data := .fields ps } := x
  show h'.get? a = some { cls := .none, data := .fields ps }
  exact k a _ (.inl rfl) e
 | met f y =>
  have e : h.get? a = some (PySem.W.methodObj (.ref f) (.ref y)) := x
  show h'.get? a = some (PySem.W.methodObj (.ref f) (.ref y))
  exact k a _ (.inl rfl) e
 | ext φ => obtain ⟨p, ⟨o, e⟩, st⟩ := x; exact ⟨st _ _ p fun o q => k _ _ (.inl rfl) q, ⟨o, k _ _ (.inl rfl) e⟩, st⟩
theorem HOk.lt (x : HOk P w H h) (e : H a = some o) : a < h.objs.size := (x a o e).lt
theorem HOk.fresh (x : HOk P w H h) (e : h.objs.size ≤ a) : H a = none := by
 cases q : H a with
 | none => rfl
 | some u => exact absurd (Nat.lt_of_lt_of_le (x.lt q) e) (Nat.lt_irrefl _)
theorem HOk.kept (x : HOk P w H h) (k : ∀ b u, h.get? b = some u → h'.get? b = some u) : HOk P w H h' := fun a o e =>
 (x a o e).stay (fun b u _ q => k b u q) (fun _ q => q) fun _ _ q => q
theorem HOk.laid (x : HOk P w H h) (k : ∀ b u, h.get? b = some u → h'.get? b = some u) (hp : h.objs.size ≤ a) (new : ObjOk P w (upd H a o) h' a o) : HOk P w (upd H a o) h' := fun b u e => by
 have hn := x.fresh hp
 by_cases hb : b = a
 ·subst hb; rw [z5] at e; cases e; exact new
 ·rw [z7 hb] at e
  exact (x b u e).stay (fun c v _ q => k c v q) (fun c q => by rw [z7 (za q hn)]; exact q) fun c xs q => by rw [z7 (za q hn)]; exact q
end
def Rd (H : Hp) (a : Addr) (u : HO) : Prop := H a = some u ∨ ∃ o, H a = some (.frz o u)
theorem Rd.of {H : Hp} {a : Addr} {u : HO} (h : H a = some u) : Rd H a u := .inl h
theorem Rd.ok {P : Program} {w : World} {H : Hp} {h : Heap} {a : Addr} {u : HO} (r : Rd H a u) (x : HOk P w H h) : ObjOk P w H h a u := by
 rcases r with r | ⟨o, r⟩
 ·exact x a u r
 ·obtain ⟨_, q⟩ := x a _ r
  exact q
def Mut : Option HO → Prop
 | some (.lst _) => True
 | some (.dK _) => True
 | some (.dT _) => True
 | some (.set _ _) => True
 | some (.ins _ _ _) => True
 | some (.ext _) => True
 | _ => False
section
variable {P : Program} {w : World} {H : Hp} {h h' : Heap} {x e : Addr} {o' : HO}
theorem HOk.write (ok : HOk P w H h) (mu : Mut (H x)) (he : e = x ∨ H e = some (.own x)) (k : ∀ b u, b ≠ e → h.get? b = some u → h'.get? b = some u) (heo : ∃ u, h'.get? e = some u)
  (new : ObjOk P w (upd H x o') h' x o') : HOk P w (upd H x o') h' := fun b u q => by
 have nown : ∀ c y, H c = some (.own y) → c ≠ x := fun c y r z => by subst z; rw [r] at mu; exact mu
 have ntup : ∀ c xs, H c = some (.tup xs) → c ≠ x := fun c xs r z => by subst z; rw [r] at mu; exact mu
 by_cases hb : b = x
 ·subst hb; rw [z5] at q; cases q; exact new
 ·rw [z7 hb] at q
  by_cases hbe : b = e
  ·have q' : H b = some (.own x) := by
    rcases he with z | z
    ·exact absurd (hbe.trans z) hb
    ·rw [hbe]; exact z
   rw [q] at q'; cases q'
   obtain ⟨v, hv⟩ := heo
   exact ⟨v, by rw [hbe]; exact hv⟩
  ·refine (ok b u q).stay (fun c v hc r => k c v ?_ r) (fun c r => by rw [z7 (nown c b r)]; exact r) fun c xs r => by rw [z7 (ntup c xs r)]; exact r
   rcases hc with rfl | hc
   ·exact hbe
   ·rintro rfl
    rcases he with z | z
    ·exact nown c b hc z
    ·rw [hc] at z; cases z; exact hb rfl
end
structure Un (fs ex : List Addr) (H H' : Hp) (h h' : Heap) : Prop where
 keep : ∀ b o, h.get? b = some o → H b = none → b ∉ fs → b ∉ ex → h'.get? b = some o
 slot : ∀ b o, h.get? b = some o → H b = none → b ∈ fs → b ∉ ex → ∃ sl, h'.get? b = some { o with slots := sl }
 free : ∀ b o, h.get? b = some o → H b = none → b ∉ ex → H' b = none
 there : ∀ b o, h.get? b = some o → b ∉ ex → ∃ o', h'.get? b = some o'
 tups : ∀ b xs, H b = some (.tup xs) → H' b = some (.tup xs)
 frzs : ∀ b o u, H b = some (.frz o u) → H' b = some (.frz o u)
 tbls : ∀ b ps, H b = some (.tbl ps) → ∃ more, H' b = some (.tbl (ps ++ more))
section
variable {fs fs' ex ex' : List Addr} {H H1 H2 : Hp} {h h1 h2 h' : Heap} {a x e : Addr} {o : HO}
theorem Un.any (u : Un fs ex H H1 h h1) {b : Addr} {ob : Obj} (q : h.get? b = some ob) (n : H b = none) (hx : b ∉ ex) : ∃ sl, h1.get? b = some { ob with slots := sl } := by
 by_cases hb : b ∈ fs
 ·exact u.slot b ob q n hb hx
 ·exact ⟨ob.slots, u.keep b ob q n hb hx⟩
theorem Un.trans (a : Un fs ex H H1 h h1) (b : Un fs ex H1 H2 h1 h2) : Un fs ex H H2 h h2 where
 keep := fun c ob q n hc hx => b.keep c ob (a.keep c ob q n hc hx) (a.free c ob q n hx) hc hx
 slot := fun c ob q n hc hx => by
  obtain ⟨sl, e1⟩ := a.slot c ob q n hc hx
  obtain ⟨sl', e2⟩ := b.slot c _ e1 (a.free c ob q n hx) hc hx
  exact ⟨sl', e2⟩
 free := fun c ob q n hx => by
  obtain ⟨o', e1⟩ := a.there c ob q hx
  exact b.free c o' e1 (a.free c ob q n hx) hx
 there := fun c ob q hx => by
  obtain ⟨o', e1⟩ := a.there c ob q hx
  exact b.there c o' e1 hx
 tups := fun c xs q => b.tups c xs (a.tups c xs q)
 frzs := fun c ob xs q => b.frzs c ob xs (a.frzs c ob xs q)
 tbls := fun c ps q => by
  obtain ⟨m1, e1⟩ := a.tbls c ps q
  obtain ⟨m2, e2⟩ := b.tbls c _ e1
  exact ⟨m1 ++ m2, by rw [e2, Array.append_assoc]⟩
theorem Un.kept (k : ∀ b u, h.get? b = some u → h'.get? b = some u) : Un fs ex H H h h' :=
 ⟨fun b ob q _ _ _ => k b ob q, fun b ob q _ _ _ => ⟨ob.slots, k b ob q⟩, fun _ _ _ n _ => n, fun b ob q _ => ⟨ob, k b ob q⟩, fun _ _ q => q, fun _ _ _ q => q, fun _ ps q => ⟨#[], by rw [q]; simp⟩⟩
theorem Un.refl : Un fs ex H H h h := Un.kept fun _ _ q => q
theorem Un.laid (k : ∀ b u, h.get? b = some u → h'.get? b = some u) (hp : h.objs.size ≤ a) (hn : H a = none) : Un fs ex H (upd H a o) h h' where
 keep := fun b u q _ _ _ => k b u q
 slot := fun b u q _ _ _ => ⟨u.slots, k b u q⟩
 free := fun b u q n _ => by rw [z7 (Nat.ne_of_lt (Nat.lt_of_lt_of_le (Heap.lt_size q) hp))]; exact n
 there := fun b u q _ => ⟨u, k b u q⟩
 tups := fun b xs q => by rw [z7 (za q hn)]; exact q
 frzs := fun b u xs q => by rw [z7 (za q hn)]; exact q
 tbls := fun b ps q => ⟨#[], by rw [z7 (za q hn), q]; simp⟩
theorem Un.write (mu : Mut (H x)) (he : e = x ∨ H e = some (.own x)) (k : ∀ b u, b ≠ e → h.get? b = some u → h'.get? b = some u) (heo : ∃ u, h'.get? e = some u) : Un fs ex H (upd H x o) h h' := by
 have hx : ∀ b, H b = none → b ≠ x := fun b n z => by subst z; rw [n] at mu; exact mu
 have hb : ∀ b, H b = none → b ≠ e := fun b n z => by
  subst z
  rcases he with r | r
  ·exact hx b n r
  ·rw [n] at r; cases r
 have hm : ∀ b u, H b = some u → ¬ Mut (some u) → b ≠ x := fun b u q nm z => by subst z; rw [q] at mu; exact nm mu
 refine ⟨fun b u q n _ _ => k b u (hb b n) q, fun b u q n _ _ => ⟨u.slots, k b u (hb b n) q⟩, fun b u q n _ => by rw [z7 (hx b n)]; exact n, fun b u q _ => ?_,
  fun b xs q => by rw [z7 (hm b _ q fun z => z)]; exact q, fun b u xs q => by rw [z7 (hm b _ q fun z => z)]; exact q, fun b ps q => ⟨#[], by rw [z7 (hm b _ q fun z => z), q]; simp⟩⟩
 by_cases hbe : b = e
 ·subst hbe; exact heo
 ·exact ⟨u, k b u hbe q⟩
theorem Un.mono (u : Un fs ex H H1 h h1) (hs : ∀ b ∈ fs, b ∈ fs') (hx : ∀ b ∈ ex, b ∈ ex') : Un fs' ex' H H1 h h1 :=
 ⟨fun b ob q n hb he => u.keep b ob q n (fun z => hb (hs b z)) fun z => he (hx b z), fun _ _ q n _ he => u.any q n fun z => he (hx _ z), fun b ob q n he => u.free b ob q n fun z => he (hx b z), fun b ob q he => u.there b ob q fun z => he (hx b z), u.tups, u.frzs, u.tbls⟩
end
def trk (h : Heap) (H : Hp) : List Addr := (List.range h.objs.size).filter fun a => (H a).isSome
def hidT (h : Heap) (H : Hp) : Heap := PySem.W.hideAll h (trk h H)
theorem zag (h : Heap) (H : Hp) : (hidT h H).objs.size = h.objs.size := PySem.W.hideAll_size _ _
theorem zbv {h : Heap} {H : Hp} {b : Addr} {o : Obj} (e : h.get? b = some o) (n : H b = none) : (hidT h H).get? b = some o :=
 PySem.W.hideAll_get _ e fun hm => by
  have q : (H b).isSome = true := (List.mem_filter.mp hm).2
  rw [n] at q; simp at q
theorem zd1 {h : Heap} {H : Hp} {b : Addr} {o : Obj} (e : (hidT h H).get? b = some o) : h.get? b = some o ∧ H b = none := by
 have e' : h.get? b = some o := PySem.W.of_hideAll (trk h H) e
 refine ⟨e', ?_⟩
 cases q : H b with
 | none => rfl
 | some x =>
  have hm : b ∈ trk h H := List.mem_filter.mpr ⟨List.mem_range.mpr (Heap.lt_size e'), by simp [q]⟩
  have z : (hidT h H).get? b = none := PySem.W.hideAll_none (trk h H) hm
  rw [z] at e; cases e
def zd2 (g h : Heap) (L : Addr) : List (Addr × Obj) := (List.range h.objs.size).filterMap fun a => if a = L ∨ (g.get? a).isSome = true then none else (h.get? a).map fun o => (a, o)
def rest (g h : Heap) (L d : Addr) : List (Addr × Obj) := (zd2 g h L).filter fun p => decide (p.1 ≠ d)
end L2
namespace L2
open PySem PySem.Spec PyProof.Rows
structure Mod (K : PySem.W.Frag) (mg : Str → Option Value) (base : Heap) : Prop where
 kin : K.In base
 glob : base.Ns mainGlobals mg
 blt : ∃ mb, base.Ns builtinsNs mb ∧ ∀ x : Str, x ≠ "__name__" → mb x = bootBuiltins x
 nolimit : base.NoLimit
structure Cx where
 prog : Program
 w : World
 K : PySem.W.Frag
 mg : Str → Option Value
 base : Heap
 A : Around
 N : List Str
 s₀ : Shared
 H₀ : Hp
 env : Env
 outer : List Env
 stack : List Env
 ex : List Addr
 fn : Str → Bool
 calm : Bool
 pn : List (Addr × Obj)
 xe : Value → Shared → Prop
def frs (l : List Env) : List Addr := l.filterMap (·.frame)
abbrev Cx.fs (X : Cx) : List Addr := frs X.outer
def Vis (sc : Scope) (x : Str) : Prop := sc.names.lookup x = some .local ∨ sc.names.lookup x = some .cell ∨ sc.names.lookup x = some .free
def Loc (sc : Scope) (x : Str) : Prop := sc.names.lookup x = some .local ∨ sc.names.lookup x = some .cell
def Look (env : Env) (h : Heap) (m : Str → Option Value) (x : Str) (u : Value) : Prop :=
 (env.kindOf x = some .local ∧ m x = some u) ∨ ((env.kindOf x = some .cell ∨ env.kindOf x = some .free) ∧ ∃ c, env.cells.lookup x = some c ∧ h.IsCell c (some u))
structure Cx.Ok (X : Cx) : Prop where
 mod : Mod X.K X.mg X.base
 kind : X.env.scope.kind = .function
 glob : X.env.globals = mainGlobals
 blt : X.env.builtins = builtinsNs
 above : X.s₀.heap.objs.size ≤ X.env.locals
 inj : ∀ x y c, X.env.cells.lookup x = some c → X.env.cells.lookup y = some c → x = y
 has : ∀ x, (X.env.kindOf x = some .cell ∨ X.env.kindOf x = some .free) → ∃ c, X.env.cells.lookup x = some c
 cab : ∀ x c, X.fn x = true → X.env.cells.lookup x = some c → X.s₀.heap.objs.size ≤ c
 hd : X.calm = true → X.A.handled = none
 frames : X.A.frames = some X.stack
 stk : X.stack = X.outer ∨ (X.stack = X.env :: X.outer ∧ X.env.frame = some X.env.locals)
 exf : ∀ b ∈ X.ex, b ≠ X.env.locals ∧ ∀ x c, X.env.cells.lookup x = some c → c ≠ b
 bs : ∀ b o, X.base.get? b = some o → X.s₀.heap.get? b = some o ∧ X.H₀ b = none
 bsz : X.base.objs.size ≤ X.s₀.heap.objs.size
 noex : ∀ b o, X.base.get? b = some o → b ∉ X.ex
 exfs : ∀ b ∈ X.ex, b ∉ X.fs
 funs : X.s₀.heap.FunFrames X.base X.outer
 frf : ∀ b ∈ X.fs, X.H₀ b = none
structure Inv (X : Cx) (pins : List (Addr × Obj)) (σ : List (Option V)) (H : Hp) (s : Shared) : Prop where
 ok : X.Ok
 os : s.os = X.s₀.os
 bare : AllBare s.gens
 base : Un X.fs X.ex X.H₀ H X.s₀.heap s.heap
 loc : ∃ m, s.heap.Ns X.env.locals m ∧ ∀ (i : Nat) (x : Str) (v : V), X.N[i]? = some x → σ[i]? = some (some v) → Vis X.env.scope x → ∃ u, RelV v u ∧ Look X.env s.heap m x u
 cell : ∀ x c, X.env.cells.lookup x = some c → ∃ v, s.heap.IsCell c v
 free : H X.env.locals = none
 freeC : ∀ x c, X.env.cells.lookup x = some c → H c = none
 pin : ∀ p ∈ X.pn ++ pins, s.heap.get? p.1 = some p.2 ∧ H p.1 = none ∧ p.1 ≠ X.env.locals ∧ p.1 ∉ X.fs ∧ ∀ v, p.2.data ≠ .cell v
 hok : HOk X.prog X.w H s.heap
 len : σ.length = X.N.length
section
variable {X : Cx} {pins : List (Addr × Obj)} {σ : List (Option V)} {H H' : Hp} {s : Shared} {h' : Heap}
theorem Cx.Ok.nofr (ok : X.Ok) {b : Addr} {o : Obj} (e : X.base.get? b = some o) : b ∉ X.fs := fun hb => by
 have := (ok.funs.mem hb).1
 rw [e] at this; cases this
theorem Inv.bs (I : Inv X pins σ H s) : ∀ b o, X.base.get? b = some o → s.heap.get? b = some o ∧ H b = none := fun b o e =>
 ⟨I.base.keep b o (I.ok.bs b o e).1 (I.ok.bs b o e).2 (I.ok.nofr e) (I.ok.noex b o e), I.base.free b o (I.ok.bs b o e).1 (I.ok.bs b o e).2 (I.ok.noex b o e)⟩
theorem Inv.bk (I : Inv X pins σ H s) : ∀ b o, X.base.get? b = some o → s.heap.get? b = some o := fun b o e => (I.bs b o e).1
theorem Inv.mod (I : Inv X pins σ H s) : Mod X.K X.mg X.base := I.ok.mod
theorem Inv.kIn (I : Inv X pins σ H s) : X.K.In s.heap := I.ok.mod.kin.keeps I.bk
theorem Inv.nolimit (I : Inv X pins σ H s) : s.heap.NoLimit := I.ok.mod.nolimit.keeps I.bk
theorem Inv.fr (I : Inv X pins σ H s) : ∃ m, Fr X.base X.env.locals s.heap m :=
 let ⟨m, hn, _⟩ := I.loc
 ⟨m, hn, I.bk, Nat.le_trans I.ok.bsz I.ok.above⟩
theorem Inv.lt (I : Inv X pins σ H s) : X.env.locals < s.heap.objs.size := let ⟨_, hn, _⟩ := I.loc; hn.lt
theorem Inv.sz (I : Inv X pins σ H s) : X.s₀.heap.objs.size ≤ s.heap.objs.size := Nat.le_trans I.ok.above (Nat.le_of_lt I.lt)
theorem Inv.nofs (I : Inv X pins σ H s) {a : Addr} (h : s.heap.objs.size ≤ a) : a ∉ X.fs := fun hb => by
 obtain ⟨_, o, ho, _⟩ := I.ok.funs.mem hb
 exact absurd (Nat.lt_of_lt_of_le (Heap.lt_size ho) (Nat.le_trans I.sz h)) (Nat.lt_irrefl _)
theorem Inv.cne (I : Inv X pins σ H s) : ∀ x c, X.env.cells.lookup x = some c → c ≠ X.env.locals := fun x c e z => by
 obtain ⟨v, o, ho, hd⟩ := I.cell x c e
 obtain ⟨m, ⟨o', es, ep, ho', hd', _⟩, _⟩ := I.loc
 rw [z, ho'] at ho; cases ho; rw [hd'] at hd; cases hd
theorem Inv.funs (I : Inv X pins σ H s) : s.heap.FunFrames X.base X.outer := by
 have all : ∀ (l : List Env), (∀ b ∈ frs l, b ∈ X.fs) → X.s₀.heap.FunFrames X.base l → s.heap.FunFrames X.base l := by
  intro l
  induction l with
  | nil => intro _ _; trivial
  | cons env r ih =>
   intro hs hl
   obtain ⟨hk, ⟨L, o, hf, hn, ho, hd⟩, hr⟩ := hl
   have hL : L ∈ X.fs := hs L (by unfold frs; rw [List.filterMap_cons, hf]; exact List.mem_cons_self)
   obtain ⟨sl, e⟩ := I.base.slot L o ho (I.ok.frf L hL) hL fun z => I.ok.exfs L z hL
   exact ⟨hk, ⟨L, _, hf, hn, e, hd⟩, ih (fun b hb => hs b (by unfold frs; rw [List.filterMap_cons, hf]; exact List.mem_cons_of_mem _ hb)) hr⟩
 exact all X.outer (fun _ hb => hb) I.ok.funs
theorem Inv.stack (I : Inv X pins σ H s) : s.heap.FunFrames X.base X.stack := by
 rcases I.ok.stk with e | ⟨e, hf⟩
 ·rw [e]; exact I.funs
 ·rw [e]
  obtain ⟨m, hn, _⟩ := I.loc
  refine .cons (by rw [I.ok.kind]; decide) hf hn ?_ I.funs
  exact Heap.get?_none_of_le (Nat.le_trans I.ok.bsz I.ok.above)
theorem Inv.stkSub (I : Inv X pins σ H s) : ∀ b ∈ frs X.stack, b ∈ X.env.locals :: X.fs := fun b hb => by
 rcases I.ok.stk with e | ⟨e, hf⟩
 ·rw [e] at hb; exact List.mem_cons_of_mem _ hb
 ·rw [e] at hb
  unfold frs at hb
  rw [List.filterMap_cons, hf] at hb
  exact hb
theorem Inv.stkFree (I : Inv X pins σ H s) : ∀ b ∈ frs X.stack, H b = none := fun b hb => by
 rcases List.mem_cons.mp (I.stkSub b hb) with e | hb
 ·rw [e]; exact I.free
 ·obtain ⟨_, o, ho, _⟩ := I.ok.funs.mem hb
  exact I.base.free b o ho (I.ok.frf b hb) fun z => I.ok.exfs b z hb
theorem Inv.step {g' : Array GenState} {t' : Nat} {d' : Drawn} {ch : List Addr} (I : Inv X pins σ H s)
  (hch : ∀ b ∈ ch, (b ∈ X.ex ∨ X.s₀.heap.objs.size ≤ b) ∧ b ≠ X.env.locals ∧ (∀ x c, X.env.cells.lookup x = some c → c ≠ b) ∧ ∀ p ∈ X.pn ++ pins, p.1 ≠ b)
  (keep : ∀ b o, b ≠ X.env.locals → b ∉ X.fs → b ∉ ch → s.heap.get? b = some o → H b = none → h'.get? b = some o)
  (slot : ∀ b o, b ≠ X.env.locals → b ∈ X.fs → b ∉ ch → s.heap.get? b = some o → H b = none → ∃ sl, h'.get? b = some { o with slots := sl }) (free : ∀ b o, b ∉ ch → s.heap.get? b = some o → H b = none → H' b = none)
  (there : ∀ b o, b ∉ ch → s.heap.get? b = some o → ∃ o', h'.get? b = some o')
  (tups : ∀ b xs, H b = some (.tup xs) → H' b = some (.tup xs)) (frzs : ∀ b o u, H b = some (.frz o u) → H' b = some (.frz o u)) (tbls : ∀ b ps, H b = some (.tbl ps) → ∃ more, H' b = some (.tbl (ps ++ more)))
  (ns : ∀ m, s.heap.Ns X.env.locals m → h'.Ns X.env.locals m) (hok : HOk X.prog X.w H' h') (hg : AllBare g') :
  Inv X pins σ H' { s with heap := h', gens := g', drawn := d', toks := t' } := by
 have neL : ∀ b o, X.s₀.heap.get? b = some o → b ≠ X.env.locals := fun b o e => Nat.ne_of_lt (Nat.lt_of_lt_of_le (Heap.lt_size e) I.ok.above)
 have neC : ∀ b o, X.s₀.heap.get? b = some o → b ∉ X.ex → b ∉ ch := fun b o e hx hb => by
  rcases (hch b hb).1 with z | z
  ·exact hx z
  ·exact absurd (Nat.lt_of_lt_of_le (Heap.lt_size e) z) (Nat.lt_irrefl _)
 have cellK : ∀ x c, X.env.cells.lookup x = some c → ∀ v, s.heap.IsCell c v → h'.IsCell c v := fun x c e v ⟨o, ho, hd⟩ => by
  have nch : c ∉ ch := fun z => (hch c z).2.2.1 x c e rfl
  by_cases hc : c ∈ X.fs
  ·obtain ⟨sl, q⟩ := slot c o (I.cne x c e) hc nch ho (I.freeC x c e)
   exact ⟨_, q, hd⟩
  ·exact ⟨o, keep c o (I.cne x c e) hc nch ho (I.freeC x c e), hd⟩
 refine ⟨I.ok, I.os, hg, ⟨fun b o e n hb hx => ?_, fun b o e n hb hx => ?_, fun b o e n hx => ?_, fun b o e hx => ?_, fun b xs e => tups b xs (I.base.tups b xs e), fun b o xs e => frzs b o xs (I.base.frzs b o xs e), fun b ps e => ?_⟩, ?_, fun x c e => ?_, ?_, fun x c e => ?_, fun p hp => ?_, hok, I.len⟩
 ·exact keep b o (neL b o e) hb (neC b o e hx) (I.base.keep b o e n hb hx) (I.base.free b o e n hx)
 ·obtain ⟨sl, e1⟩ := I.base.slot b o e n hb hx
  obtain ⟨sl', e2⟩ := slot b _ (neL b o e) hb (neC b o e hx) e1 (I.base.free b o e n hx)
  exact ⟨sl', e2⟩
 ·obtain ⟨o', e1⟩ := I.base.there b o e hx
  exact free b o' (neC b o e hx) e1 (I.base.free b o e n hx)
 ·obtain ⟨o', e1⟩ := I.base.there b o e hx
  exact there b o' (neC b o e hx) e1
 ·obtain ⟨m1, e1⟩ := I.base.tbls b ps e
  obtain ⟨m2, e2⟩ := tbls b _ e1
  exact ⟨m1 ++ m2, by rw [e2, Array.append_assoc]⟩
 ·obtain ⟨m, hn, hl⟩ := I.loc
  refine ⟨m, ns m hn, fun i x v e1 e2 e3 => ?_⟩
  obtain ⟨u, r, l⟩ := hl i x v e1 e2 e3
  refine ⟨u, r, ?_⟩
  rcases l with l | ⟨k, c, e, z⟩
  ·exact .inl l
  ·exact .inr ⟨k, c, e, cellK x c e _ z⟩
 ·obtain ⟨v, z⟩ := I.cell x c e
  exact ⟨v, cellK x c e v z⟩
 ·obtain ⟨m, ⟨o, _, _, ho, _⟩, _⟩ := I.loc
  exact free _ o (fun z => (hch _ z).2.1 rfl) ho I.free
 ·obtain ⟨v, o, ho, hd⟩ := I.cell x c e
  exact free c o (fun z => (hch c z).2.2.1 x c e rfl) ho (I.freeC x c e)
 ·obtain ⟨e, n, ne, nf, d⟩ := I.pin p hp
  have nch : p.1 ∉ ch := fun z => (hch p.1 z).2.2.2 p hp rfl
  exact ⟨keep p.1 p.2 ne nf nch e n, free p.1 p.2 nch e n, ne, nf, d⟩
theorem Inv.un {t' : Nat} (I : Inv X pins σ H s) (u : Un X.fs [] H H' s.heap h') (hok : HOk X.prog X.w H' h') : Inv X pins σ H' { s with heap := h', toks := t' } := by
 obtain ⟨m, ⟨o, es, ep, ho, r⟩, _⟩ := id I.loc
 obtain ⟨sl, hL⟩ := u.any ho I.free (by simp)
 exact I.step (g' := s.gens) (d' := s.drawn) (ch := []) (fun _ z => nomatch z) (fun b o _ hb _ e n => u.keep b o e n hb (by simp)) (fun b o _ hb _ e n => u.slot b o e n hb (by simp)) (fun b o _ e n => u.free b o e n (by simp)) (fun b o _ e => u.there b o e (by simp)) u.tups u.frzs u.tbls (fun m' hm => by
  obtain ⟨o', es', ep', ho', r'⟩ := hm
  rw [ho] at ho'; cases ho'
  exact ⟨_, es', ep', hL, r'⟩) hok I.bare
theorem Inv.call {g' : Array GenState} {t' : Nat} {d' : Drawn} {ch : List Addr} (I : Inv X pins σ H s) (u : Un (frs X.stack) ch H H' s.heap h') (hok : HOk X.prog X.w H' h') (hg : AllBare g')
  (hch : ∀ b ∈ ch, (b ∈ X.ex ∨ X.s₀.heap.objs.size ≤ b) ∧ b ≠ X.env.locals ∧ (∀ x c, X.env.cells.lookup x = some c → c ≠ b) ∧ ∀ p ∈ X.pn ++ pins, p.1 ≠ b) :
  Inv X pins σ H' { s with heap := h', gens := g', drawn := d', toks := t' } := by
 obtain ⟨m, ⟨o, es, ep, ho, r⟩, _⟩ := id I.loc
 obtain ⟨sl, hL⟩ := u.any ho I.free fun z => (hch _ z).2.1 rfl
 exact I.step (ch := ch) hch (fun b o hL hb hc e n => u.keep b o e n (fun z => (List.mem_cons.mp (I.stkSub b z)).elim hL hb) hc) (fun b o _ _ hc e n => u.any e n hc) (fun b o hc e n => u.free b o e n hc) (fun b o hc e => u.there b o e hc) u.tups u.frzs u.tbls (fun m' hm => by
  obtain ⟨o', es', ep', ho', r'⟩ := hm
  rw [ho] at ho'; cases ho'
  exact ⟨_, es', ep', hL, r'⟩) hok hg
theorem Inv.turned {t' : Nat} {it : Addr} (I : Inv X pins σ H s) (k : ∀ b o, b ≠ it → s.heap.get? b = some o → h'.get? b = some o) (hn : H it = none) (hL : it ≠ X.env.locals)
  (h1 : it ∈ X.ex ∨ X.s₀.heap.objs.size ≤ it) (h2 : ∀ x c, X.env.cells.lookup x = some c → c ≠ it) (h3 : ∀ p ∈ X.pn ++ pins, p.1 ≠ it) : Inv X pins σ H { s with heap := h', toks := t' } := by
 have nit : ∀ b u, H b = some u → b ≠ it := fun b u e z => by rw [z, hn] at e; cases e
 refine I.step (g' := s.gens) (d' := s.drawn) (ch := [it]) (fun b hb => ?_) (fun b o _ _ hc e _ => k b o (fun z => hc (by simp [z])) e) (fun b o _ _ hc e _ => ⟨o.slots, k b o (fun z => hc (by simp [z])) e⟩) (fun _ _ _ _ n => n)
  (fun b o hc e => ⟨o, k b o (fun z => hc (by simp [z])) e⟩) (fun _ _ e => e) (fun _ _ _ e => e) (fun b ps e => ⟨#[], by rw [e]; simp⟩) (fun m hm => ?_) (fun b u e => ?_) I.bare
 ·have e : b = it := by simpa using hb
  subst e
  exact ⟨h1, hL, h2, h3⟩
 ·obtain ⟨o, es, ep, ho, r⟩ := hm
  exact ⟨o, es, ep, k _ o (Ne.symm hL) ho, r⟩
 ·refine (I.hok b u e).stay (fun c v hc q => k c v ?_ q) (fun _ q => q) fun _ _ q => q
  rcases hc with z | z
  ·rw [z]; exact nit b u e
  ·exact nit c _ z
theorem Inv.tok (I : Inv X pins σ H s) (t : Nat) : Inv X pins σ H { s with toks := t } := I.un (h' := s.heap) (t' := t) Un.refl I.hok
theorem Inv.kept {t' : Nat} (I : Inv X pins σ H s) (k : ∀ b u, s.heap.get? b = some u → h'.get? b = some u) : Inv X pins σ H { s with heap := h', toks := t' } := I.un (Un.kept k) (I.hok.kept k)
theorem Inv.laid {a : Addr} {o : HO} {t' : Nat} (I : Inv X pins σ H s) (k : ∀ b u, s.heap.get? b = some u → h'.get? b = some u) (hp : s.heap.objs.size ≤ a) (new : ObjOk X.prog X.w (upd H a o) h' a o) :
  Inv X pins σ (upd H a o) { s with heap := h', toks := t' } := I.un (Un.laid k hp (I.hok.fresh hp)) (I.hok.laid k hp new)
theorem Inv.write {x e : Addr} {o : HO} {t' : Nat} (I : Inv X pins σ H s) (mu : Mut (H x)) (he : e = x ∨ H e = some (.own x)) (k : ∀ b u, b ≠ e → s.heap.get? b = some u → h'.get? b = some u) (heo : ∃ u, h'.get? e = some u)
  (new : ObjOk X.prog X.w (upd H x o) h' x o) : Inv X pins σ (upd H x o) { s with heap := h', toks := t' } := I.un (Un.write mu he k heo) (I.hok.write mu he k heo new)
theorem Inv.weak {σ' : List (Option V)} (I : Inv X pins σ H s) (hl : σ'.length = σ.length) (w : ∀ (i : Nat) v, σ'[i]? = some (some v) → σ[i]? = some (some v)) : Inv X pins σ' H s :=
 ⟨I.ok, I.os, I.bare, I.base, let ⟨m, hn, hl'⟩ := I.loc; ⟨m, hn, fun i x v e1 e2 e3 => hl' i x v e1 (w i v e2) e3⟩, I.cell, I.free, I.freeC, I.pin, I.hok, hl.trans I.len⟩
theorem Inv.pins_of {pins' : List (Addr × Obj)} (I : Inv X pins σ H s) (h : ∀ p ∈ pins', s.heap.get? p.1 = some p.2 ∧ H p.1 = none ∧ p.1 ≠ X.env.locals ∧ p.1 ∉ X.fs ∧ ∀ v, p.2.data ≠ .cell v) : Inv X pins' σ H s :=
 ⟨I.ok, I.os, I.bare, I.base, I.loc, I.cell, I.free, I.freeC, fun p hp => (List.mem_append.mp hp).elim (fun z => I.pin p (List.mem_append_left _ z)) (h p), I.hok, I.len⟩
theorem z7j {N : List Str} (hN : N.Nodup) {i j : Nat} {x : Str} (a : N[i]? = some x) (b : N[j]? = some x) : i = j := by
 obtain ⟨h1, e1⟩ := List.getElem?_eq_some_iff.mp a
 obtain ⟨h2, e2⟩ := List.getElem?_eq_some_iff.mp b
 exact (List.getElem_inj hN).mp (e1.trans e2.symm)
theorem zah {M : Model} {A : Around} {E : Value → Shared → Prop} {i : Nat} {x : Str} {v : V} {u : Value} {Q : Unit → Shared → Prop} (I : Inv X pins σ H s) (hN : X.N.Nodup) (hi : X.N[i]? = some x) (hx : Loc X.env.scope x) (r : RelV v u)
  (h : ∀ s', Inv X pins (σ.set i (some v)) H s' → (∃ a, Heap.SameBut a s.heap s'.heap ∧ (a = X.env.locals ∨ X.env.cells.lookup x = some a)) → Q () s') (hf : X.fn x = true ∨ X.env.scope.names.lookup x = some .local := by first | exact .inl rfl | exact .inr rfl | assumption) : wpAny M A (storeName X.env x u) Q E s := by
 obtain ⟨m, hn, hl⟩ := id I.loc
 have hcls : (X.env.scope.kind == .class || (X.env.scope.kind == .module && X.env.locals != X.env.globals)) = false := by rw [I.ok.kind]; rfl
 have hiσ : i < σ.length := by rw [I.len]; exact (List.getElem?_eq_some_iff.mp hi).1
 have cne := I.cne
 have tracked : ∀ {a : Addr} {h' : Heap}, (∃ o, s.heap.get? a = some o ∧ H a = none) → Heap.SameBut a s.heap h' → HOk X.prog X.w H h' := fun {a h'} ha hs b ob e => by
  obtain ⟨_, _, hfree⟩ := ha
  refine (I.hok b ob e).stay (fun c w' hc q => (hs.2 c ?_).trans q) (fun _ q => q) fun _ _ q => q
  rintro rfl
  rcases hc with rfl | hc
  ·rw [hfree] at e; cases e
  ·rw [hfree] at hc; cases hc
 rcases hx with hk | hk
 ·refine wpAny_storeName_local hk hn (fun h' hn' hs => ?_) hcls
  obtain ⟨oL, _, _, hoL, _⟩ := id hn
  refine h _ ⟨I.ok, I.os, I.bare, ⟨fun b o e n hb hx => ?_, fun b o e n hb hx => ?_, I.base.free, fun b o e hx => ?_, I.base.tups, I.base.frzs, I.base.tbls⟩, ⟨_, hn', fun j y v' e1 e2 e3 => ?_⟩, fun y c e => ?_, I.free, I.freeC, fun p hp => ?_, tracked ⟨oL, hoL, I.free⟩ hs, by simpa using I.len⟩ ⟨_, hs, .inl rfl⟩
  ·exact (hs.2 b (Nat.ne_of_lt (Nat.lt_of_lt_of_le (Heap.lt_size e) I.ok.above))).trans (I.base.keep b o e n hb hx)
  ·obtain ⟨sl, e1⟩ := I.base.slot b o e n hb hx
   exact ⟨sl, (hs.2 b (Nat.ne_of_lt (Nat.lt_of_lt_of_le (Heap.lt_size e) I.ok.above))).trans e1⟩
  ·obtain ⟨o', e1⟩ := I.base.there b o e hx
   exact ⟨o', (hs.2 b (Nat.ne_of_lt (Nat.lt_of_lt_of_le (Heap.lt_size e) I.ok.above))).trans e1⟩
  ·by_cases hj : j = i
   ·subst hj
    rw [hi] at e1; cases e1
    rw [List.getElem?_set_self hiσ] at e2
    cases e2
    exact ⟨u, r, .inl ⟨hk, by simp⟩⟩
   ·rw [List.getElem?_set_ne (Ne.symm hj)] at e2
    obtain ⟨u', r', q⟩ := hl j y v' e1 e2 e3
    refine ⟨u', r', ?_⟩
    rcases q with ⟨k, e⟩ | ⟨k, c, e, z⟩
    ·refine .inl ⟨k, ?_⟩
     have : y ≠ x := fun e => hj (z7j hN e1 (e ▸ hi))
     simp [this, e]
    ·exact .inr ⟨k, c, e, z.sameBut hs (cne y c e)⟩
  ·obtain ⟨w', z⟩ := I.cell y c e
   exact ⟨w', z.sameBut hs (cne y c e)⟩
  ·obtain ⟨e, n, ne, nf, d⟩ := I.pin p hp
   exact ⟨(hs.2 p.1 ne).trans e, n, ne, nf, d⟩
 ·have hfn : X.fn x = true := by
   rcases hf with z | z
   ·exact z
   ·rw [z] at hk; cases hk
  obtain ⟨c, hc⟩ := I.ok.has x (.inl hk)
  obtain ⟨w', z⟩ := I.cell x c hc
  refine wpAny_storeName_cell I.ok.kind hk hc z (fun h' hc' hs => ?_)
  obtain ⟨oc, hoc, hocd⟩ := id z
  refine h { s with heap := h' } ⟨I.ok, I.os, I.bare, ⟨fun b o e n hb hx => ?_, fun b o e n hb hx => ?_, I.base.free, fun b o e hx => ?_, I.base.tups, I.base.frzs, I.base.tbls⟩, ⟨m, hn.sameBut hs (Ne.symm (cne x c hc)), fun j y v' e1 e2 e3 => ?_⟩, fun y c' e => ?_, I.free, I.freeC, fun p hp => ?_, tracked ⟨oc, hoc, I.freeC x c hc⟩ hs, by simpa using I.len⟩ ⟨c, hs, .inr hc⟩
  ·exact (hs.2 b (Nat.ne_of_lt (Nat.lt_of_lt_of_le (Heap.lt_size e) (I.ok.cab x c hfn hc)))).trans (I.base.keep b o e n hb hx)
  ·obtain ⟨sl, e1⟩ := I.base.slot b o e n hb hx
   exact ⟨sl, (hs.2 b (Nat.ne_of_lt (Nat.lt_of_lt_of_le (Heap.lt_size e) (I.ok.cab x c hfn hc)))).trans e1⟩
  ·obtain ⟨o', e1⟩ := I.base.there b o e hx
   exact ⟨o', (hs.2 b (Nat.ne_of_lt (Nat.lt_of_lt_of_le (Heap.lt_size e) (I.ok.cab x c hfn hc)))).trans e1⟩
  ·by_cases hj : j = i
   ·subst hj
    rw [hi] at e1; cases e1
    rw [List.getElem?_set_self hiσ] at e2
    cases e2
    exact ⟨u, r, .inr ⟨.inl hk, c, hc, hc'⟩⟩
   ·rw [List.getElem?_set_ne (Ne.symm hj)] at e2
    obtain ⟨u', r', q⟩ := hl j y v' e1 e2 e3
    refine ⟨u', r', ?_⟩
    rcases q with q | ⟨k, c', e, z'⟩
    ·exact .inl q
    ·refine .inr ⟨k, c', e, z'.sameBut hs ?_⟩
     rintro rfl
     exact hj (z7j hN e1 (I.ok.inj _ _ _ e hc ▸ hi))
  ·by_cases hcc : c' = c
   ·subst hcc; exact ⟨_, hc'⟩
   ·obtain ⟨w2, z2⟩ := I.cell y c' e
    exact ⟨w2, z2.sameBut hs hcc⟩
  ·obtain ⟨e, n, ne, nf, d⟩ := I.pin p hp
   refine ⟨(hs.2 p.1 ?_).trans e, n, ne, nf, d⟩
   intro q
   rw [q, hoc] at e
   have q' : oc = p.2 := Option.some.inj e
   exact d w' (by rw [← q']; exact hocd)
theorem z5d {M : Model} {A : Around} {E : Value → Shared → Prop} {i : Nat} {x : Str} {v : V} {u : Value} {Q : Unit → Shared → Prop} (I : Inv X pins σ H s) (hN : X.N.Nodup) (hi : X.N[i]? = some x) (hx : Loc X.env.scope x) (r : RelV v u)
  (h : ∀ s', Inv X pins (σ.set i (some v)) H s' → Q () s') (hf : X.fn x = true ∨ X.env.scope.names.lookup x = some .local := by first | exact .inl rfl | exact .inr rfl | assumption) : wpAny M A (storeName X.env x u) Q E s :=
 zah I hN hi hx r (fun s' I' _ => h s' I') hf
theorem Inv.call' {s' : Shared} {ch : List Addr} (I : Inv X pins σ H s) (ho : s'.os = s.os) (u : Un (frs X.stack) ch H H' s.heap s'.heap) (hok : HOk X.prog X.w H' s'.heap) (hg : AllBare s'.gens)
  (hch : ∀ b ∈ ch, (b ∈ X.ex ∨ X.s₀.heap.objs.size ≤ b) ∧ b ≠ X.env.locals ∧ (∀ x c, X.env.cells.lookup x = some c → c ≠ b) ∧ ∀ p ∈ X.pn ++ pins, p.1 ≠ b) : Inv X pins σ H' s' := by
 obtain ⟨h', g', d', t', o'⟩ := s'
 have e : o' = s.os := ho
 subst e
 exact I.call (g' := g') (t' := t') (d' := d') u hok hg hch
end
abbrev XK := Value → Option Addr → Hp → Prop
abbrev St := List (Option V)
abbrev VK := V → Hp → Prop
abbrev TE := St → Hp → VK → Prop
abbrev TT := St → Hp → (Bool → Hp → Prop) → Prop
abbrev TA := St → Hp → (List V → Hp → Prop) → Prop
structure Ends where
 nx : St → Hp → Prop
 rt : VK
 bk : St → Hp → Prop := fun _ _ => False
 ct : St → Hp → Prop := fun _ _ => False
abbrev TS := Ends → St → Hp → Prop
def EP (X : Cx) (pins : List (Addr × Obj)) (σ : St) (Q : VK) (u : Value) (s' : Shared) : Prop := ∃ v H', Inv X pins σ H' s' ∧ RelV v u ∧ Q v H'
def TP (X : Cx) (pins : List (Addr × Obj)) (σ : St) (Q : Bool → Hp → Prop) (b : Bool) (s' : Shared) : Prop := ∃ H', Inv X pins σ H' s' ∧ Q b H'
def AP (X : Cx) (pins : List (Addr × Obj)) (σ : St) (Q : List V → Hp → Prop) (us : List Value) (s' : Shared) : Prop := ∃ vs H', Inv X pins σ H' s' ∧ Vals vs us ∧ Q vs H'
def SP (X : Cx) (pins : List (Addr × Obj)) (D : Ends) (f : Flow) (s' : Shared) : Prop :=
 match f with
 | .next => ∃ σ' H', Inv X pins σ' H' s' ∧ D.nx σ' H'
 | .brk => ∃ σ' H', Inv X pins σ' H' s' ∧ D.bk σ' H'
 | .cont => ∃ σ' H', Inv X pins σ' H' s' ∧ D.ct σ' H'
 | .ret u => ∃ v σ' H', Inv X pins σ' H' s' ∧ RelV v u ∧ D.rt v H'
def PE (X : Cx) (e : Expr) (t : TE) : Prop :=
 ∀ (pins : List (Addr × Obj)) (s : Shared) (σ : St) (H : Hp) (Q : VK), Inv X pins σ H s → t σ H Q → wpAny (model X.prog X.w) X.A (eval e X.env) (EP X pins σ Q) X.xe s
def PT (X : Cx) (e : Expr) (t : TT) : Prop :=
 ∀ (pins : List (Addr × Obj)) (s : Shared) (σ : St) (H : Hp) (Q : Bool → Hp → Prop), Inv X pins σ H s → t σ H Q → wpAny (model X.prog X.w) X.A (isTrue e X.env (eval e X.env)) (TP X pins σ Q) X.xe s
def PW (X : Cx) (e : Expr) (t : TT) : Prop :=
 ∀ (whole : Sem Value) (pins : List (Addr × Obj)) (s : Shared) (σ : St) (H : Hp) (Q : Bool → Hp → Prop), Inv X pins σ H s → t σ H Q → wpAny (model X.prog X.w) X.A (isTrue e X.env whole) (TP X pins σ Q) X.xe s
theorem PW.pt {X : Cx} {e : Expr} {t : TT} (h : PW X e t) : PT X e t := h _
def PA (X : Cx) (es : List Expr) (t : TA) : Prop :=
 ∀ (pos : Pos) (pins : List (Addr × Obj)) (s : Shared) (σ : St) (H : Hp) (Q : List V → Hp → Prop), Inv X pins σ H s → t σ H Q → wpAny (model X.prog X.w) X.A (spliced (backTo pos (starEach es X.env))) (AP X pins σ Q) X.xe s
def PS (X : Cx) (st : Stmt) (t : TS) : Prop :=
 ∀ (pins : List (Addr × Obj)) (s : Shared) (σ : St) (H : Hp) (D : Ends), Inv X pins σ H s → t D σ H → wpAny (model X.prog X.w) X.A (exec st X.env) (SP X pins D) X.xe s
def PSs (X : Cx) (st : List Stmt) (t : TS) : Prop :=
 ∀ (pins : List (Addr × Obj)) (s : Shared) (σ : St) (H : Hp) (D : Ends), Inv X pins σ H s → t D σ H → wpAny (model X.prog X.w) X.A (execs st X.env) (SP X pins D) X.xe s
theorem thn {α : Type} {t : Sem α} {Q Q' : α → Shared → Prop} {M : Model} {A : Around} {E : Value → Shared → Prop} {s : Shared} (h : wpAny M A t Q E s) (hQ : ∀ a s, Q a s → Q' a s) : wpAny M A t Q' E s := wpAny_mono h hQ fun _ _ x => x
end L2
namespace L2
open PySem PySem.Spec PyProof.Rows
section
variable {X : Cx}
def tVar (i : Nat) : TE := fun σ H Q => ∃ v, σ[i]? = some (some v) ∧ Q v H
def tC (v : V) : TE := fun _ H Q => Q v H
theorem zdu {i : Nat} {x : Str} {pos : Pos} (hN : X.N[i]? = some x) (hv : Vis X.env.scope x) (hd : (x == ("__debug__" : Str)) = false := by decide) (hcd : (x == ("__classdict__" : Str)) = false := by decide) : PE X (.Name x pos) (tVar i) := by
 intro pins s σ H Q I h
 obtain ⟨v, e, h⟩ := h
 obtain ⟨m, hn, hl⟩ := I.loc
 obtain ⟨u, r, l⟩ := hl i x v hN e hv
 have fin : EP X pins σ Q u s := ⟨v, H, I, r, h⟩
 rcases l with ⟨hk, hm⟩ | ⟨hk, c, hc, hcell⟩
 ·exact wpAny_Name (wpAny_loadName_local I.ok.kind hk hn hm fin) hd
 ·rcases hk with hk | hk
  ·exact wpAny_Name (wpAny_loadName_cell I.ok.kind hk hc hcell fin) hd
  ·exact wpAny_Name (wpAny_loadName_free I.ok.kind hk hc hcell fin hcd) hd
theorem zb {i j pos} : PE X (.Constant (.int i) j pos) (tC (.int i)) := fun _ _ _ H _ I h => wpAny_Constant_int ⟨.int i, H, I.tok _, ⟨_, rfl⟩, h⟩
theorem z2o {b j pos} : PE X (.Constant (.bool b) j pos) (tC (.bl b)) := fun _ _ _ H _ I h => Constant_bool ⟨.bl b, H, I, rfl, h⟩
theorem zdv {j pos} : PE X (.Constant .none j pos) (tC .non) := fun _ _ _ H _ I h => Constant_none ⟨.non, H, I, rfl, h⟩
theorem zl {x j pos} : PE X (.Constant (.str x) j pos) (tC (.str x)) := fun _ _ _ H _ I h => Calls.Constant_str ⟨.str x, H, I.tok _, ⟨_, rfl⟩, h⟩
def Gl (X : Cx) (x : Str) : Prop := X.env.kindOf x = some .globalImplicit
theorem z30 {E : Value → Shared → Prop} {pins : List (Addr × Obj)} {s : Shared} {σ : St} {H : Hp} {x : Str} {u : Value} {pos : Pos} {Q : Value → Shared → Prop} (I : Inv X pins σ H s) (hg : Gl X x) (hm : X.mg x = some u) (h : Q u s)
  (hd : (x == ("__debug__" : Str)) = false := by decide) : wpAny (model X.prog X.w) X.A (eval (.Name x pos) X.env) Q E s :=
 Calls.Name_function_global I.ok.kind hg (Calls.loadGlobal_global (by rw [I.ok.glob]; exact I.mod.glob.keeps I.bk) hm h) hd
theorem z4c {E : Value → Shared → Prop} {pins : List (Addr × Obj)} {s : Shared} {σ : St} {H : Hp} {x : Str} {u : Value} {pos : Pos} {Q : Value → Shared → Prop} (I : Inv X pins σ H s) (hg : Gl X x) (hm : X.mg x = none) (hv : bootBuiltins x = some u) (h : Q u s)
  (hn : x ≠ "__name__" := by decide) (hd : (x == ("__debug__" : Str)) = false := by decide) : wpAny (model X.prog X.w) X.A (eval (.Name x pos) X.env) Q E s := by
 obtain ⟨mb, h1, h2⟩ := I.mod.blt
 exact Calls.Name_function_global I.ok.kind hg (Calls.loadGlobal_builtin (by rw [I.ok.glob]; exact I.mod.glob.keeps I.bk) hm (by rw [I.ok.blt]; exact h1.keeps I.bk) ((h2 x hn).trans hv) h) hd
theorem z1r {x : Str} {v : V} {u : Value} {pos : Pos} (hg : Gl X x) (hm : X.mg x = some u) (r : RelV v u) (hd : (x == ("__debug__" : Str)) = false := by decide) : PE X (.Name x pos) (tC v) :=
 fun _ _ _ H _ I h => z30 I hg hm ⟨v, H, I, r, h⟩ hd
theorem zd {x : Str} {v : V} {u : Value} {pos : Pos} (hg : Gl X x) (hm : X.mg x = none) (hv : bootBuiltins x = some u) (r : RelV v u) (hn : x ≠ "__name__" := by decide) (hd : (x == ("__debug__" : Str)) = false := by decide) : PE X (.Name x pos) (tC v) :=
 fun _ _ _ H _ I h => z4c I hg hm hv ⟨v, H, I, r, h⟩ hn hd
variable {a b : Expr} {ta tb : TE} {pos : Pos}
def PC (X : Cx) (op : CmpOp) (a b : Expr) (t : TE) : Prop :=
 ∀ (pins : List (Addr × Obj)) (s : Shared) (σ : St) (H : Hp) (Q : VK), Inv X pins σ H s → t σ H Q →
  wpAny (model X.prog X.w) X.A (eval a X.env) (fun v s₁ => wpAny (model X.prog X.w) X.A (eval b X.env) (fun u s₂ => wpAny (model X.prog X.w) X.A (compareOp op v u) (EP X pins σ Q) X.xe s₂) X.xe s₁) X.xe s
theorem z11 (b : Expr) {op : CmpOp} (h : op ≠ .In) (h2 : op ≠ .NotIn) : behindInMarks op b = false := by
 have e1 : (op == CmpOp.In) = false := by cases op <;> first | rfl | exact absurd rfl h
 have e2 : (op == CmpOp.NotIn) = false := by cases op <;> first | rfl | exact absurd rfl h2
 cases b <;> simp [behindInMarks, e1, e2]
def tIsN (ta : TE) : TE := fun σ H Q => ta σ H fun x H1 => Q (.bl (decide (x = .non))) H1
theorem RelV.none_iff {x : V} {v : Value} (r : RelV x v) : (v == Value.none) = decide (x = .non) := by
 cases x with
 | non => cases r; rfl
 | bl _ => cases r; rfl
 | int _ => obtain ⟨t, rfl⟩ := r; rfl
 | str _ => obtain ⟨t, rfl⟩ := r; rfl
 | byt _ => obtain ⟨t, rfl⟩ := r; rfl
 | flt _ => obtain ⟨t, rfl⟩ := r; rfl
 | ref _ => cases r; rfl
 | ty _ => cases r; rfl
theorem z2u {j pos'} (ha : PE X a ta) : PC X .Is a (.Constant .none j pos') (tIsN ta) := by
 intro pins s σ H Q I h
 refine thn (ha pins s σ H _ I h) fun v s1 ⟨x, H1, I1, r1, q1⟩ => ?_
 exact Constant_none (is_none_gen ⟨.bl _, H1, I1, by rw [r1.none_iff]; rfl, q1⟩)
def tB (t : TE) : TT := fun σ H Q => t σ H fun x H1 => ∃ c, x = .bl c ∧ Q c H1
theorem z5l {op : CmpOp} {t : TE} (h : PC X op a b t) (h1 : behindInMarks op b = false := by first | exact z11 _ (by decide) (by decide) | rfl) : PE X (.Compare a [op] [b] pos) t := fun pins s σ H Q I hw => wpAny_Compare1 (h pins s σ H Q I hw) h1
theorem z2g {op : CmpOp} {t : TE} (h : PC X op a b t) (h1 : behindInMarks op b = false := by first | exact z11 _ (by decide) (by decide) | rfl) : PT X (.Compare a [op] [b] pos) (tB t) := by
 intro pins s σ H Q I hw
 refine wpAny_isTrue_Compare1 (thn (h pins s σ H _ I hw) fun v s1 h1 => thn h1 fun u s2 h2 => thn h2 fun c s3 ⟨x, H1, I1, r1, q1⟩ => ?_) h1
 obtain ⟨d, rfl, q⟩ := q1
 cases r1
 exact wpAny_truthy_bool ⟨H1, I1, q⟩
theorem z1u {e : Expr} {t : TE} (h : PE X e t) (he : ∀ whole, isTrue e X.env whole = (do let v ← whole; standAt e.pos; holding [v] (truthy v)) := by intro _; rfl) : PT X e (tB t) := by
 intro pins s σ H Q I hw
 refine isTrue_plain (thn (h pins s σ H _ I hw) fun v s1 ⟨x, H1, I1, r1, q1⟩ => ?_) (he _)
 obtain ⟨d, rfl, q⟩ := q1
 cases r1
 exact wpAny_truthy_bool ⟨H1, I1, q⟩
variable {tA tB' : TT} {rest : List Expr}
def tOr (t u : TT) : TT := fun σ H Q => t σ H fun c H1 => if c = true then Q true H1 else u σ H1 Q
def tNot (t : TT) : TT := fun σ H Q => t σ H fun c H1 => Q (!c) H1
theorem z4d (ha : PT X a tA) : PW X (.BoolOp .Or [a] pos) tA := by
 intro wh pins s σ H Q I h
 refine isTrue_or (thn (ha pins s σ H Q I h) fun c s1 e => ?_)
 cases c with
 | false => exact isTrue_or_nil e
 | true => exact e
theorem z5m (ha : PT X a tA) (hb : PW X (.BoolOp .Or (b :: rest) pos) tB') : PW X (.BoolOp .Or (a :: b :: rest) pos) (tOr tA tB') := by
 intro wh pins s σ H Q I h
 refine isTrue_or (thn (ha pins s σ H _ I h) fun c s1 ⟨H1, I1, q1⟩ => ?_)
 cases c with
 | true => exact ⟨H1, I1, q1⟩
 | false => exact hb wh pins s1 σ H1 Q I1 q1
theorem z5n (ha : PT X a tA) : PT X (.UnaryOp .Not a pos) (tNot tA) := by
 intro pins s σ H Q I h
 exact isTrue_not (ha pins s σ H (fun c H1 => Q (!c) H1) I h)
def zch (ta tb : TE) : TE := fun σ H Q => ta σ H fun x H1 => ∃ c, x = .bl c ∧ if c = true then tb σ H1 Q else Q (.bl false) H1
theorem z1h {op} {t : TE} (h : PE X a t) : PE X (.BoolOp op [a] pos) t := fun pins s σ H Q I hw => BoolOp_one (h pins s σ H Q I hw)
theorem z1i (ha : PE X a ta) (hb : PE X (.BoolOp .And (b :: rest) pos) tb) : PE X (.BoolOp .And (a :: b :: rest) pos) (zch ta tb) := by
 intro pins s σ H Q I h
 refine BoolOp_and (thn (ha pins s σ H _ I h) fun v s1 ⟨x, H1, I1, r1, q1⟩ => ?_)
 obtain ⟨c, rfl, q1⟩ := q1
 cases r1
 refine wpAny_truthy_bool ?_
 cases c with
 | true => exact hb pins s1 σ H1 Q I1 q1
 | false => exact ⟨.bl false, H1, I1, rfl, q1⟩
end
end L2
namespace L2
open PySem PySem.Spec PyProof.Rows
def SqL (K : PySem.W.Frag) (H : Hp) (a : Addr) (xs : List V) : Prop :=
 Rd H a (.lst xs) ∨
  ∃ (o : Obj) (its : Array Value) (n : Nat), K.lookup a = some o ∧ o.cls = .type "list" ∧ o.dict = none ∧ o.data = .seq its n ∧ its.size ≤ sizeLine ∧ Vals xs its.toList
def SqT (K : PySem.W.Frag) (H : Hp) (a : Addr) (xs : List V) : Prop :=
 Rd H a (.tup xs) ∨
  ∃ (o : Obj) (its : Array Value) (n : Nat), K.lookup a = some o ∧ o.cls = .type "tuple" ∧ o.data = .seq its n ∧ its.size ≤ sizeLine ∧ Vals xs its.toList
def absV : Value → Option V
 | .none => some .non
 | .bool b => some (.bl b)
 | .int i _ => some (.int i)
 | .str x _ => some (.str x)
 | .bytes b _ => some (.byt b)
 | .float b _ => some (.flt b)
 | .ref a => some (.ref a)
 | .type n => some (.ty n)
 | _ => none
theorem RelV.abs {x : V} {u : Value} (r : RelV x u) : absV u = some x := by
 cases x with
 | non => cases r; rfl
 | bl _ => cases r; rfl
 | int _ => obtain ⟨t, rfl⟩ := r; rfl
 | str _ => obtain ⟨t, rfl⟩ := r; rfl
 | byt _ => obtain ⟨t, rfl⟩ := r; rfl
 | flt _ => obtain ⟨t, rfl⟩ := r; rfl
 | ref _ => cases r; rfl
 | ty _ => cases r; rfl
theorem RelV.inj {x y : V} {u : Value} (r : RelV x u) (q : RelV y u) : x = y := Option.some.inj (r.abs.symm.trans q.abs)
theorem Vals.inj : ∀ {xs ys : List V} {us : List Value}, Vals xs us → Vals ys us → xs = ys
 | _, _, _, .nil, .nil => rfl
 | _, _, _, .cons r t, .cons r' t' => by rw [r.inj r', Vals.inj t t']
section
variable {X : Cx} {pins : List (Addr × Obj)} {σ : St} {H : Hp} {s : Shared} {a : Addr} {xs ys : List V}
theorem SqL.of {K : PySem.W.Frag} (h : H a = some (.lst xs)) : SqL K H a xs := .inl (.inl h)
theorem SqT.of {K : PySem.W.Frag} (h : H a = some (.tup xs)) : SqT K H a xs := .inl (.inl h)
theorem Inv.list (I : Inv X pins σ H s) (h : SqL X.K H a xs) : ∃ its : List Value, Vals xs its ∧ PlainL s.heap a its.toArray ∧ xs.length ≤ sizeLine := by
 rcases h with h | ⟨o, its, n, hk, hc, hd, hs, hz, r⟩
 ·obtain ⟨z, its, n, r, e⟩ := h.ok I.hok
  exact ⟨its, r, ⟨_, n, e, rfl, rfl, rfl⟩, z⟩
 ·refine ⟨its.toList, r, ⟨o, n, I.kIn a o hk, hc, hd, by simpa using hs⟩, ?_⟩
  have e := r.length
  simp only [Array.length_toList] at e
  omega
theorem Inv.tuple (I : Inv X pins σ H s) (h : SqT X.K H a xs) : ∃ its : List Value, Vals xs its ∧ IsTup s.heap a its.toArray ∧ xs.length ≤ sizeLine := by
 rcases h with h | ⟨o, its, n, hk, hc, hs, hz, r⟩
 ·obtain ⟨z, its, r, p⟩ := h.ok I.hok
  exact ⟨its, r, p, z⟩
 ·refine ⟨its.toList, r, ⟨o, I.kIn a o hk, hc, n, by simpa using hs⟩, ?_⟩
  have e := r.length
  simp only [Array.length_toList] at e
  omega
theorem Inv.list_inj (I : Inv X pins σ H s) (h : SqL X.K H a xs) (h' : SqL X.K H a ys) : xs = ys := by
 obtain ⟨its, r, ⟨o, n, e, _, _, d⟩, _⟩ := I.list h
 obtain ⟨its', r', ⟨o', n', e', _, _, d'⟩, _⟩ := I.list h'
 rw [e] at e'; cases e'
 rw [d] at d'
 injection d' with d1 _
 have : its = its' := by simpa using congrArg Array.toList d1
 subst this
 exact r.inj r'
end
abbrev Cx.wish (X : Cx) (E : Value → Shared → Prop) : Cx := { X with xe := E }
abbrev Cx.nox (X : Cx) : Cx := X.wish fun _ _ => False
theorem Cx.Ok.wish {X : Cx} (ok : X.Ok) (E : Value → Shared → Prop) : (X.wish E).Ok :=
 ⟨ok.mod, ok.kind, ok.glob, ok.blt, ok.above, ok.inj, ok.has, ok.cab, ok.hd, ok.frames, ok.stk, ok.exf, ok.bs, ok.bsz, ok.noex, ok.exfs, ok.funs, ok.frf⟩
theorem Cx.Ok.unwish {X : Cx} {E : Value → Shared → Prop} (ok : (X.wish E).Ok) : X.Ok :=
 ⟨ok.mod, ok.kind, ok.glob, ok.blt, ok.above, ok.inj, ok.has, ok.cab, ok.hd, ok.frames, ok.stk, ok.exf, ok.bs, ok.bsz, ok.noex, ok.exfs, ok.funs, ok.frf⟩
section
variable {X : Cx} {pins : List (Addr × Obj)} {σ : St} {H : Hp} {s : Shared} {E : Value → Shared → Prop}
theorem Inv.wish (I : Inv X pins σ H s) (E : Value → Shared → Prop) : Inv (X.wish E) pins σ H s := ⟨I.ok.wish E, I.os, I.bare, I.base, I.loc, I.cell, I.free, I.freeC, I.pin, I.hok, I.len⟩
theorem Inv.unwish (I : Inv (X.wish E) pins σ H s) : Inv X pins σ H s := ⟨I.ok.unwish, I.os, I.bare, I.base, I.loc, I.cell, I.free, I.freeC, I.pin, I.hok, I.len⟩
theorem SP.unwish {D : Ends} {f : Flow} {s' : Shared} (h : SP (X.wish E) pins D f s') : SP X pins D f s' := by
 cases f with
 | next => obtain ⟨σ', H', I, q⟩ := h; exact ⟨σ', H', I.unwish, q⟩
 | brk => obtain ⟨σ', H', I, q⟩ := h; exact ⟨σ', H', I.unwish, q⟩
 | cont => obtain ⟨σ', H', I, q⟩ := h; exact ⟨σ', H', I.unwish, q⟩
 | ret u => obtain ⟨v, σ', H', I, r, q⟩ := h; exact ⟨v, σ', H', I.unwish, r, q⟩
theorem PE.nox {e : Expr} {t : TE} (h : PE X.nox e t) : PE X e t := fun pins s σ H Q I hw =>
 wpAny_mono (h pins s σ H Q (I.wish _) hw) (fun _ _ ⟨v, H', I', r, q⟩ => ⟨v, H', I'.unwish, r, q⟩) fun _ _ z => False.elim z
theorem PT.nox {e : Expr} {t : TT} (h : PT X.nox e t) : PT X e t := fun pins s σ H Q I hw =>
 wpAny_mono (h pins s σ H Q (I.wish _) hw) (fun _ _ ⟨H', I', q⟩ => ⟨H', I'.unwish, q⟩) fun _ _ z => False.elim z
theorem PSs.nox {st : List Stmt} {t : TS} (h : PSs X.nox st t) : PSs X st t := fun pins s σ H D I hw =>
 wpAny_mono (h pins s σ H D (I.wish _) hw) (fun _ _ q => q.unwish) fun _ _ z => False.elim z
end
section
variable {X : Cx} {st : Stmt} {rest : List Stmt} {t u : TS} {e : Expr} {te : TE} {pos : Pos}
def zci : TS := fun D σ H => D.nx σ H
def tSeq (t u : TS) : TS := fun D σ H => t { D with nx := u D } σ H
theorem zf : PSs X [] zci := fun _ _ σ H _ I h => wpAny_execs_nil ⟨σ, H, I, h⟩
theorem z6 (h1 : PS X st t) (h2 : PSs X rest u) : PSs X (st :: rest) (tSeq t u) := by
 intro pins s σ H D I h
 refine wpAny_execs_cons (thn (h1 pins s σ H { D with nx := u D } I h) fun f s1 q => ?_)
 cases f with
 | next =>
  obtain ⟨σ', H', I', q⟩ := q
  exact h2 pins s1 σ' H' D I' q
 | ret v => exact q
 | brk => exact q
 | cont => exact q
theorem z9 (h1 : PS X st t) : PSs X [st] t := by
 intro pins s σ H D I h
 refine wpAny_execs_cons (thn (h1 pins s σ H D I h) fun f s1 q => ?_)
 cases f with
 | next => exact wpAny_execs_nil q
 | ret v => exact q
 | brk => exact q
 | cont => exact q
theorem Inv.quiet {pins : List (Addr × Obj)} {σ : St} {H : Hp} {s : Shared} (I : Inv X pins σ H s) : interactive X.env = false := by simp [interactive, I.ok.kind]
def zcj (te : TE) : TS := fun D σ H => te σ H fun _ H1 => D.nx σ H1
theorem z1o (he : PE X e te) (hs : swapsWith e none pos.line X.env = pure false := by rfl) : PS X (.Expr e pos) (zcj te) := by
 intro pins s σ H D I h
 exact wpAny_Expr_any (thn (he pins s σ H _ I h) fun v s1 ⟨x, H1, I1, r1, q1⟩ => ⟨σ, H1, I1, q1⟩) I.quiet hs
def tRet (te : TE) : TS := fun D σ H => te σ H D.rt
theorem zg (he : PE X e te) : PS X (.Return (some e) pos) (tRet te) := by
 intro pins s σ H D I h
 exact wpAny_Return_some (thn (he pins s σ H _ I h) fun v s1 ⟨x, H1, I1, r1, q1⟩ => ⟨x, σ, H1, I1, r1, q1⟩)
def tIfS (c : TT) (t u : TS) : TS := fun D σ H => c σ H fun b H1 => if b = true then t D σ H1 else u D σ H1
theorem zn {c : Expr} {a b : List Stmt} {tc : TT} (hc : PT X c tc) (ha : PSs X a t) (hb : PSs X b u) : PS X (.If c a b pos) (tIfS tc t u) := by
 intro pins s σ H D I h
 refine wpAny_If (thn (hc pins s σ H _ I h) fun d s1 ⟨H1, I1, q1⟩ => ?_)
 cases d with
 | true => exact ha pins s1 σ H1 D I1 q1
 | false => exact hb pins s1 σ H1 D I1 q1
def zai : TS := fun _ _ _ => False
theorem z7k : PS X st zai := fun _ _ _ _ _ _ h => h.elim
end
abbrev TG := V → St → Hp → (St → Hp → Prop) → Prop
abbrev TGs := List V → St → Hp → (St → Hp → Prop) → Prop
def PG (X : Cx) (target : Expr) (t : TG) : Prop :=
 ∀ (pins : List (Addr × Obj)) (s : Shared) (σ : St) (H : Hp) (v : V) (u : Value) (Q : St → Hp → Prop), Inv X pins σ H s → RelV v u → t v σ H Q →
  wpAny (model X.prog X.w) X.A (assign target X.env u) (fun _ s' => ∃ σ' H', Inv X pins σ' H' s' ∧ Q σ' H') X.xe s
def PGs (X : Cx) (ts : List Expr) (t : TGs) : Prop :=
 ∀ (pins : List (Addr × Obj)) (s : Shared) (σ : St) (H : Hp) (vs : List V) (us : List Value) (Q : St → Hp → Prop), Inv X pins σ H s → Vals vs us → t vs σ H Q →
  wpAny (model X.prog X.w) X.A (assignInOrder ((assignEach ts X.env).map (·.2)) us) (fun _ s' => ∃ σ' H', Inv X pins σ' H' s' ∧ Q σ' H') X.xe s
section
variable {X : Cx} {pos : Pos}
def z9n (i : Nat) : TG := fun v σ H Q => Q (σ.set i (some v)) H
theorem z2b {i : Nat} {x : Str} (hN : X.N.Nodup) (hi : X.N[i]? = some x) (hx : Loc X.env.scope x) (hf : X.fn x = true ∨ X.env.scope.names.lookup x = some .local := by first | exact .inl rfl | exact .inr rfl | assumption) : PG X (.Name x pos) (z9n i) := by
 intro pins s σ H v u Q I r h
 exact wpAny_assign_Name (z5d I hN hi hx r (fun s' I' => ⟨_, H, I', h⟩) hf)
def gNil : TGs := fun vs σ H Q => vs = [] ∧ Q σ H
def zck (t : TG) (u : TGs) : TGs := fun vs σ H Q => ∃ v r, vs = v :: r ∧ t v σ H fun σ' H' => u r σ' H' Q
theorem z90 : PGs X [] gNil := by
 intro pins s σ H vs us Q I r h
 obtain ⟨e, h⟩ := h
 subst e
 cases r
 exact assignInOrder_nil ⟨σ, H, I, h⟩
theorem z3w {e : Expr} {es : List Expr} {t : TG} {u : TGs} (h1 : PG X e t) (h2 : PGs X es u)
  (hs : (assignEach (e :: es) X.env).map (·.2) = assign e X.env :: (assignEach es X.env).map (·.2) := by rfl) : PGs X (e :: es) (zck t u) := by
 intro pins s σ H vs us Q I r h
 obtain ⟨v, vr, e1, h⟩ := h
 subst e1
 cases r with
 | cons r rr =>
  rw [hs]
  refine assignInOrder_cons (thn (h1 pins s σ H _ _ _ I r h) fun _ s1 ⟨σ1, H1, I1, q1⟩ => ?_)
  exact h2 pins s1 σ1 H1 _ _ Q I1 rr q1
def gTup (K : PySem.W.Frag) (n : Nat) (t : TGs) : TG := fun v σ H Q => ∃ a xs, v = .ref a ∧ SqT K H a xs ∧ xs.length = n ∧ t xs σ H Q
theorem zaj {es : List Expr} {k : Nat} {t : TGs} {n : Nat} (hc : X.calm = true) (h : PGs X es t)
  (hn : (assignEach es X.env).length = n := by rfl) (hst : (assignEach es X.env).findIdx? (·.1) = none := by rfl) : PG X (.Tuple es k pos) (gTup X.K n t) := by
 intro pins s σ H v u Q I r hw
 obtain ⟨a, xs, e1, hq, hl, hw⟩ := hw
 subst e1
 cases r
 obtain ⟨its, rv, ht, hz⟩ := I.tuple hq
 refine assign_Tuple_tuple (I.ok.hd hc) ht (by simp [hn, ← hl, rv.length]) hst fun h' hx => ?_
 have I1 : Inv X pins σ H { s with heap := h' } := I.kept (t' := s.toks) fun b o e => hx b o (Nat.ne_of_lt (Heap.lt_size e)) e
 exact h pins _ σ H xs _ Q I1 (by simpa using rv) hw
def tAsg (te : TE) (g : TG) : TS := fun D σ H => te σ H fun x H1 => g x σ H1 D.nx
theorem zm {i : Nat} {x : Str} {e : Expr} {te : TE} {pos' : Pos} (hN : X.N.Nodup) (hi : X.N[i]? = some x) (hx : Loc X.env.scope x) (he : PE X e te) (hs : swapsWith e (some (.Name x pos')) pos.line X.env = pure false := by rfl) (hf : X.fn x = true ∨ X.env.scope.names.lookup x = some .local := by first | exact .inl rfl | exact .inr rfl | assumption) :
  PS X (.Assign [.Name x pos'] e pos) (tAsg te (z9n i)) := by
 intro pins s σ H D I h
 refine wpAny_Assign_Name (thn (he pins s σ H _ I h) fun v s1 ⟨y, H1, I1, r1, q1⟩ => ?_) hs
 exact z5d I1 hN hi hx r1 (fun s2 I2 => ⟨_, H1, I2, q1⟩) hf
end
section
variable {X : Cx} {pos : Pos}
end
structure It where
 go : Nat → Hp → Prop
 yld : Nat → Hp → V → Hp → Prop
 stop : Nat → Hp → Prop
def FpOk (X : Cx) (pins : List (Addr × Obj)) (H : Hp) (b : Addr) : Prop :=
 H b = none ∧ b ≠ X.env.locals ∧ b ∉ X.fs ∧ (b ∈ X.ex ∨ X.s₀.heap.objs.size ≤ b) ∧ (∀ x c, X.env.cells.lookup x = some c → c ≠ b) ∧ ∀ p ∈ X.pn ++ pins, p.1 ≠ b
theorem Inv.fpOk {X : Cx} {pins : List (Addr × Obj)} {σ : St} {H H' : Hp} {s : Shared} {b : Addr} (I : Inv X pins σ H s) (hb : s.heap.objs.size ≤ b) (hn : H' b = none) : FpOk X pins H' b := by
 refine ⟨hn, Nat.ne_of_gt (Nat.lt_of_lt_of_le I.lt hb), I.nofs hb, .inr (Nat.le_trans I.sz hb), fun x c e z => ?_, fun p hp z => ?_⟩
 ·obtain ⟨v, q⟩ := I.cell x c e
  exact absurd (Nat.lt_of_lt_of_le q.lt (by rw [z]; exact hb)) (Nat.lt_irrefl _)
 ·exact absurd (Nat.lt_of_lt_of_le (Heap.lt_size (I.pin p hp).1) (by rw [z]; exact hb)) (Nat.lt_irrefl _)
structure Turn (P : Program) (w : World) (K : PySem.W.Frag) (tg : Expr) (J : It) (fp : List Addr) (it : Addr) (tn : Nat → Heap → Prop) : Prop where
 mem : it ∈ fp
 obj : ∀ i h, tn i h → ∀ b ∈ fp, ∃ o, h.get? b = some o ∧ ∀ v, o.data ≠ .cell v
 keep : ∀ i h h', tn i h → (∀ b ∈ fp, ∀ o, h.get? b = some o → h'.get? b = some o) → tn i h'
 item : ∀ (X : Cx), X.prog = P → X.w = w → X.K = K → X.calm = true → ∀ (i : Nat) (pins : List (Addr × Obj)) (s : Shared) (σ : St) (H : Hp) (E : Value → Shared → Prop), Inv X pins σ H s → (∀ b ∈ fp, FpOk X pins H b) → tn i s.heap → J.go i H →
  wpAny (model P w) X.A (pyNext (.ref it)) (fun r s1 => ∃ u, r = some u ∧
   wpAny (model P w) X.A (letOwnedTupleGo tg (.ref it) u) (fun _ s2 => ∃ x H', Inv X pins σ H' s2 ∧ RelV x u ∧ J.yld i H x H' ∧ tn (i + 1) s2.heap ∧ ∀ b ∈ fp, H' b = none) E s1) E s
 done : ∀ (X : Cx), X.prog = P → X.w = w → X.K = K → X.calm = true → ∀ (i : Nat) (pins : List (Addr × Obj)) (s : Shared) (σ : St) (H : Hp) (E : Value → Shared → Prop), Inv X pins σ H s → (∀ b ∈ fp, FpOk X pins H b) → tn i s.heap → J.stop i H →
  wpAny (model P w) X.A (pyNext (.ref it)) (fun r s1 => r = none ∧ Inv X pins σ H s1) E s
 self : ∀ (A : Around) (i : Nat) (s : Shared) (Q : Value → Shared → Prop) (E : Value → Shared → Prop), tn i s.heap → Q (.ref it) s → wpAny (model P w) A (pyIter (.ref it)) Q E s
abbrev TI := St → Hp → (It → Hp → Prop) → Prop
def PIE (X : Cx) (pins : List (Addr × Obj)) (σ : St) (tg : Expr) (R : It → Hp → Prop) (itv : Value) (s2 : Shared) : Prop :=
 ∃ (it : Addr) (fp : List Addr) (tn : Nat → Heap → Prop) (J : It) (H' : Hp), itv = .ref it ∧ Inv X pins σ H' s2 ∧ Turn X.prog X.w X.K tg J fp it tn ∧ tn 0 s2.heap ∧ (∀ b ∈ fp, FpOk X pins H' b) ∧ R J H'
def PI (X : Cx) (tg iter : Expr) (wi : TI) : Prop :=
 ∀ (pins : List (Addr × Obj)) (s : Shared) (σ : St) (H : Hp) (R : It → Hp → Prop), Inv X pins σ H s → wi σ H R →
  wpAny (model X.prog X.w) X.A (eval iter X.env) (fun v s1 => wpAny (model X.prog X.w) X.A (pyIter v) (PIE X pins σ tg R) X.xe s1) X.xe s
theorem z7g {M : Model} {A : Around} {E : Value → Shared → Prop} {s : Shared} {tg : Expr} {it : Addr} {u : Value} {o : Obj} {n : String} {vs : Array Value} {Q : Unit → Shared → Prop} (ho : s.heap.get? it = some o) (hc : o.cls = .type n) (hd : o.data = .fields vs)
    (hn : ["enumerate", "zip", "dict_itemiterator", "dict_reverseitemiterator", "odict_iterator", "itertools.zip_longest", "itertools.pairwise"].contains n = false) (hQ : Q () s) : wpAny M A (letOwnedTupleGo tg (.ref it) u) Q E s := by
  unfold letOwnedTupleGo
  cases tg <;> first
    | exact wpAny_pure hQ
    | (cases u <;> first
        | exact wpAny_pure hQ
        | (refine wpAny_bind (wpAny_load ho ?_)
           rw [hc, hd]
           show wpAny M A (if (["enumerate", "zip", "dict_itemiterator", "dict_reverseitemiterator", "odict_iterator", "itertools.zip_longest", "itertools.pairwise"].contains n && vs[0]? == some (rawInt _)) = true then _ else _) Q E s
           rw [if_neg (by intro h; rw [hn, Bool.false_and] at h; cases h)]
           exact wpAny_pure hQ))
def Itl (K : PySem.W.Frag) (a : Addr) : It :=
 ⟨fun i H => ∃ xs x, SqL K H a xs ∧ xs[i]? = some x, fun i H x H' => H' = H ∧ ∀ xs, SqL K H a xs → xs[i]? = some x, fun i H => ∃ xs, SqL K H a xs ∧ xs.length ≤ i⟩
def Itr (lo : Int) (n : Nat) : It := ⟨fun i _ => i < n, fun i H x H' => H' = H ∧ x = .int (lo + i), fun i _ => n ≤ i⟩
theorem zak {P : Program} {w : World} {K : PySem.W.Frag} {tg : Expr} (a it : Addr) : Turn P w K tg (Itl K a) [it] it (fun i h => h.IsListIter it a i) where
 mem := by simp
 obj := fun i h st b hb => by
  have e : b = it := by simpa using hb
  subst e
  obtain ⟨o, e, c, d⟩ := st
  exact ⟨o, e, fun v z => by rw [d] at z; cases z⟩
 keep := fun i h h' st k => st.at fun o e => k it (by simp) o e
 item := by
  intro X hP hw hK hc i pins s σ H E I hf st hg
  subst hP hw hK
  obtain ⟨xs, x, hq, hx⟩ := hg
  obtain ⟨its, rv, p, hz⟩ := I.list hq
  obtain ⟨u, hu, ru⟩ := rv.get hx
  obtain ⟨f0, f1, f2, f3, f4, f5⟩ := hf it (by simp)
  refine wpAny_pyNext_list_item st p.isList (x := u) (by simpa using hu) fun h' st' sb => ?_
  have I1 : Inv X pins σ H { s with heap := h' } := I.turned (t' := s.toks) (fun b o hb e => (sb.2 b hb).trans e) f0 f1 f3 f4 f5
  obtain ⟨o, e, c, d⟩ := id st'
  exact ⟨u, rfl, z7g (s := { s with heap := h' }) e c d (by decide) ⟨x, H, I1, ru, ⟨rfl, fun ys hy => by rw [I.list_inj hy hq]; exact hx⟩, st', fun b hb => (hf b hb).1⟩⟩
 done := by
  intro X hP hw hK hc i pins s σ H E I hf st hg
  subst hP hw hK
  obtain ⟨xs, hq, hx⟩ := hg
  obtain ⟨its, rv, p, hz⟩ := I.list hq
  obtain ⟨f0, f1, f2, f3, f4, f5⟩ := hf it (by simp)
  have hl := rv.length
  exact wpAny_pyNext_list_end (I.ok.hd hc) st p.isList (by simp; omega) fun h' eb => ⟨rfl, I.turned (t' := s.toks) (fun b o hb e => eb b o hb e) f0 f1 f3 f4 f5⟩
 self := fun _ _ _ _ _ st h => wpAny_pyIter_listiter st h
theorem z9o {P : Program} {w : World} {K : PySem.W.Frag} {tg : Expr} (it : Addr) (lo : Int) (n : Nat) : Turn P w K tg (Itr lo n) [it] it (fun i h => IsRangeIter h it (lo + (i : Nat) * 1) ((n : Int) - (i : Nat)) 1) where
 mem := by simp
 obj := fun i h st b hb => by
  have e : b = it := by simpa using hb
  subst e
  exact ⟨_, st, fun v z => by
   have z' : Data.fields _ = Data.cell v := z
   cases z'⟩
 keep := fun i h h' st k => k it (by simp) _ st
 item := by
  intro X hP hw hK hc i pins s σ H E I hf st hg
  subst hP hw hK
  obtain ⟨f0, f1, f2, f3, f4, f5⟩ := hf it (by simp)
  have W := Walks.range (prog := X.prog) (w := X.w) (I.ok.hd hc) it lo 1 n
  refine W.item i s _ _ hg st fun v h' tk hv st' kk => ?_
  obtain ⟨t, rfl⟩ := hv
  have I1 : Inv X pins σ H { s with heap := h', toks := tk } := I.turned (fun b o hb e => kk b o (by simpa using hb) e) f0 f1 f3 f4 f5
  refine ⟨_, rfl, z7g (s := { s with heap := h', toks := tk }) (n := "range_iterator") st' rfl rfl (by decide) ⟨.int (lo + i), H, I1, ⟨t, ?_⟩, ⟨rfl, rfl⟩, st', fun b hb => (hf b hb).1⟩⟩
  rw [Int.mul_one]
 done := by
  intro X hP hw hK hc i pins s σ H E I hf st hg
  subst hP hw hK
  obtain ⟨f0, f1, f2, f3, f4, f5⟩ := hf it (by simp)
  exact wpAny_pyNext_range_end (I.ok.hd hc) st (by have : n ≤ i := hg; omega) fun h' eb => ⟨rfl, I.turned (t' := s.toks) (fun b o hb e => eb b o hb e) f0 f1 f3 f4 f5⟩
 self := fun _ _ _ _ _ st h => wpAny_pyIter_rangeiter st h
end L2
namespace L2
open PySem PySem.Spec PyProof.Rows
section
variable {X : Cx} {tg : Expr}
def zcl (K : PySem.W.Frag) (tl : TE) : TI := fun σ H R => tl σ H fun x H1 => ∃ a, x = .ref a ∧ (∃ xs, SqL K H1 a xs) ∧ R (Itl K a) H1
theorem z2c {l : Expr} {tl : TE} (hl : PE X l tl) : PI X tg l (zcl X.K tl) := by
 intro pins s σ H R I h
 refine thn (hl pins s σ H _ I h) fun v s1 ⟨x, H1, I1, r1, q1⟩ => ?_
 obtain ⟨a, e, ⟨xs, hq⟩, q⟩ := q1
 subst e
 cases r1
 obtain ⟨its, rv, p, hz⟩ := I1.list hq
 refine wpAny_pyIter_list p.isList ?_
 refine ⟨s1.heap.objs.size, [s1.heap.objs.size], _, _, H1, rfl, I1.kept (t' := s1.toks) fun b o e => Heap.get?_push_of_some _ e, zak a _, ⟨_, Heap.get?_push_size _ rfl, rfl, rfl⟩, fun b hb => ?_, q⟩
 have e : b = s1.heap.objs.size := by simpa using hb
 subst e
 exact I1.fpOk (Nat.le_refl _) (I1.hok.fresh (Nat.le_refl _))
theorem z7l {pins : List (Addr × Obj)} {σ : St} {H : Hp} {s : Shared} {R : It → Hp → Prop} {E : Value → Shared → Prop} {lo hi : Int} {t u v : Tok} {tk : Nat} (I : Inv X pins σ H s) (h1 : -(2 ^ 62) ≤ lo) (h2 : lo < 2 ^ 62) (h3 : -(2 ^ 62) ≤ hi) (h4 : hi < 2 ^ 62)
  (q : R (Itr lo (hi - lo).toNat) H) : wpAny (model X.prog X.w) X.A (pyIter (.ref s.heap.objs.size)) (PIE X pins σ tg R) E { s with heap := s.heap.push { cls := .type "range", data := .fields #[.int lo t, .int hi u, .int 1 v] }, toks := tk } := by
 refine wpAny_pyIter_range (IsRange.new ..) (small_one h1 h2 h3 h4) ?_
 have I1 : Inv X pins σ H { s with heap := s.heap.push { cls := .type "range", data := .fields #[.int lo t, .int hi u, .int 1 v] }, toks := tk } := I.kept fun b o e => Heap.get?_push_of_some _ e
 refine ⟨(s.heap.push { cls := .type "range", data := .fields #[.int lo t, .int hi u, .int 1 v] }).objs.size, [(s.heap.push { cls := .type "range", data := .fields #[.int lo t, .int hi u, .int 1 v] }).objs.size], _, _, H, rfl,
  I1.kept (t' := tk) fun b o e => Heap.get?_push_of_some _ e, z9o _ lo (hi - lo).toNat, ?_, fun b hb => ?_, q⟩
 ·have e1 : lo + ((0 : Nat) : Int) * 1 = lo := by simp
  have e2 : (((hi - lo).toNat : Nat) : Int) - ((0 : Nat) : Int) = Builtin.Range.rangeSize lo hi 1 := by rw [rangeSize_one]; split <;> omega
  show IsRangeIter _ _ (lo + ((0 : Nat) : Int) * 1) ((((hi - lo).toNat : Nat) : Int) - ((0 : Nat) : Int)) 1
  rw [e1, e2]
  exact Heap.get?_push_size _ rfl
 ·have e : b = (s.heap.push { cls := .type "range", data := .fields #[.int lo t, .int hi u, .int 1 v] }).objs.size := by simpa using hb
  subst e
  exact I1.fpOk (Nat.le_refl _) (I1.hok.fresh (Nat.le_refl _))
def z9p (ta : TA) : TI := fun σ H R => ta σ H fun vs H1 => ∃ j : Int, vs = [.int j] ∧ -(2 ^ 62) ≤ j ∧ j < 2 ^ 62 ∧ R (Itr 0 j.toNat) H1
def zcm (ta : TA) : TI := fun σ H R => ta σ H fun vs H1 => ∃ i j : Int, vs = [.int i, .int j] ∧ (-(2 ^ 62) ≤ i ∧ i < 2 ^ 62 ∧ -(2 ^ 62) ≤ j ∧ j < 2 ^ 62) ∧ R (Itr i (j - i).toNat) H1
theorem z1l {a : Expr} {ta : TA} {p pos : Pos} (hg : Gl X "range") (hm : X.mg "range" = none) (ha : PA X [a] ta) (hs : starEach [a] X.env = [(false, eval a X.env)] := by rfl) : PI X tg (.Call (.Name "range" p) [a] [] pos) (z9p ta) := by
 intro pins s σ H R I h
 refine Call_ (z4c I hg hm boot_range (PyProof.Rows.callWith_type1 (thn (ha pos pins s σ H _ I h) fun us s1 ⟨vs, H1, I1, r1, q1⟩ => ?_) hs rfl))
 obtain ⟨j, e, q1, q2, q⟩ := q1
 subst e
 cases r1 with
 | cons r rr =>
  cases rr
  obtain ⟨t, rfl⟩ := r
  exact call_range_1 (z7l I1 (by omega) (by omega) q1 q2 (by simpa using q))
theorem zal {a b : Expr} {ta : TA} {p pos : Pos} (hg : Gl X "range") (hm : X.mg "range" = none) (ha : PA X [a, b] ta) (hs : starEach [a, b] X.env = [(false, eval a X.env), (false, eval b X.env)] := by rfl) (hs2 : starEach [b] X.env = [(false, eval b X.env)] := by rfl) :
  PI X tg (.Call (.Name "range" p) [a, b] [] pos) (zcm ta) := by
 intro pins s σ H R I h
 refine Call_ (z4c I hg hm boot_range (PyProof.Rows.callWith_type1 (thn (ha pos pins s σ H _ I h) fun us s1 ⟨vs, H1, I1, r1, q1⟩ => ?_) (by rw [hs, hs2]) (by rw [hs2]; rfl)))
 obtain ⟨i, j, e, ⟨q1, q2, q3, q4⟩, q⟩ := q1
 subst e
 cases r1 with
 | cons r rr =>
  cases rr with
  | cons r' rr =>
   cases rr
   obtain ⟨t, rfl⟩ := r
   obtain ⟨t', rfl⟩ := r'
   exact call_range_2 (z7l I1 q1 q2 q3 q4 q)
def tFor (wi : TI) (g : TG) (tb : TS) : TS := fun D σ H => wi σ H fun J H1 => ∃ W : Nat → Nat → St → Hp → Prop, (∃ m, W 0 m σ H1) ∧ ∀ i m σ H, W i m σ H →
 (J.stop i H ∧ D.nx σ H) ∨ (J.go i H ∧ ∃ N : St → Hp → Prop, (∀ σ' H', N σ' H' → ∃ m', m' < m ∧ W (i + 1) m' σ' H') ∧ ∀ x H', J.yld i H x H' → g x σ H' fun σ2 H2 => tb { D with nx := N, ct := N, bk := D.nx } σ2 H2)
def z33 (fp : List Addr) (h : Heap) : List (Addr × Obj) := fp.filterMap fun b => (h.get? b).map fun o => (b, o)
theorem z21 {fp : List Addr} {h : Heap} {b : Addr} {o : Obj} (hb : b ∈ fp) (e : h.get? b = some o) : (b, o) ∈ z33 fp h := List.mem_filterMap.mpr ⟨b, hb, by rw [e]; rfl⟩
theorem zam {fp : List Addr} {h : Heap} {p : Addr × Obj} (hp : p ∈ z33 fp h) : p.1 ∈ fp ∧ h.get? p.1 = some p.2 := by
 obtain ⟨b, hb, e⟩ := List.mem_filterMap.mp hp
 cases q : h.get? b with
 | none => rw [q] at e; cases e
 | some o =>
  rw [q] at e
  have e' : (b, o) = p := Option.some.inj e
  subst e'
  exact ⟨hb, q⟩
theorem Inv.pinned {pins : List (Addr × Obj)} {σ : St} {H : Hp} {s : Shared} {fp : List Addr} (I : Inv X pins σ H s) (hf : ∀ b ∈ fp, FpOk X pins H b) (ho : ∀ b ∈ fp, ∃ o, s.heap.get? b = some o ∧ ∀ v, o.data ≠ .cell v) : Inv X (pins ++ z33 fp s.heap) σ H s :=
 I.pins_of fun p hp => (List.mem_append.mp hp).elim (fun z => I.pin p (List.mem_append_right _ z)) fun z => by
  obtain ⟨hb, e⟩ := zam z
  obtain ⟨f0, f1, f2, _⟩ := hf p.1 hb
  obtain ⟨o, e', d⟩ := ho p.1 hb
  rw [e] at e'; cases e'
  exact ⟨e, f0, f1, f2, d⟩
theorem Inv.unpinned {pins pl : List (Addr × Obj)} {σ : St} {H : Hp} {s : Shared} (I : Inv X (pins ++ pl) σ H s) : Inv X pins σ H s := I.pins_of fun p hp => I.pin p (List.mem_append_right _ (List.mem_append_left _ hp))
theorem z4e {iter : Expr} {body : List Stmt} {wi : TI} {g : TG} {tb : TS} {pos : Pos} (hp : PassesOwn (model X.prog X.w) X.A X.env X.xe) (hc : X.calm = true) (hi : PI X tg iter wi) (hg : PG X tg g) (hb : PSs X body tb)
  (hs : ∀ x, foldedSetIterable iter X.env x = pure x := by intro _; rfl) : PS X (.For tg iter body [] pos) (tFor wi g tb) := by
 intro pins s σ H D I h
 refine wpAny_For (thn (hi pins s σ H _ I h) fun v s1 h1 => thn h1 fun itv s2 h2 => ?_) hs
 obtain ⟨it, fp, tn, J, H2, e, I2, T, st2, f2, W, ⟨m0, w0⟩, turn⟩ := h2
 subst e
 have stat : ∀ {H' : Hp}, (∀ b ∈ fp, H' b = none) → ∀ b ∈ fp, FpOk X pins H' b := fun hn b hb => ⟨hn b hb, (f2 b hb).2⟩
 refine codeAny_forLoop_any (fun n s' => ∃ i σ' H', Inv X pins σ' H' s' ∧ tn i s'.heap ∧ (∀ b ∈ fp, H' b = none) ∧ W i n σ' H') ?_ m0 ⟨0, σ, H2, I2, st2, fun b hb => (f2 b hb).1, w0⟩
 rintro n s3 ⟨i, σ3, H3, I3, st3, fr3, w3⟩
 rcases turn i n σ3 H3 w3 with ⟨stop, qn⟩ | ⟨go, N, hN, step⟩
 ·refine wpAny_passesOwn hp (thn (T.done X rfl rfl rfl hc i pins s3 σ3 H3 X.xe I3 (stat fr3) st3 stop) fun r s4 ⟨hr, I4⟩ => ?_)
  subst hr
  exact wpAny_execs_nil ⟨σ3, H3, I4, qn⟩
 ·refine wpAny_passesOwn hp (thn (T.item X rfl rfl rfl hc i pins s3 σ3 H3 X.xe I3 (stat fr3) st3 go) fun r s4 ⟨u, hr, h4⟩ => ?_)
  subst hr
  refine wpAny_passesOwn hp (thn h4 fun _ s5 ⟨x, H5, I5, r5, y5, st5, fr5⟩ => ?_)
  have I5' := I5.pinned (stat fr5) (T.obj _ _ st5)
  refine wpAny_passesOwn hp (thn (hg _ s5 σ3 H5 x u _ I5' r5 (step x H5 y5)) fun _ s6 ⟨σ6, H6, I6, q6⟩ => ?_)
  refine wpAny_passesOwn hp (thn (hb _ s6 σ6 H6 _ I6 q6) fun f s7 q7 => ?_)
  have again : ∀ {σ7 : St} {H7 : Hp}, Inv X (pins ++ z33 fp s5.heap) σ7 H7 s7 → N σ7 H7 → ∃ m, m < n ∧ ∃ i σ' H', Inv X pins σ' H' s7 ∧ tn i s7.heap ∧ (∀ b ∈ fp, H' b = none) ∧ W i m σ' H' := fun {σ7 H7} I7 n7 => by
   obtain ⟨m', hm, w7⟩ := hN σ7 H7 n7
   refine ⟨m', hm, i + 1, σ7, H7, I7.unpinned, T.keep _ _ _ st5 fun b hb o e => (I7.pin (b, o) (List.mem_append_right _ (List.mem_append_right _ (z21 hb e)))).1, fun b hb => ?_, w7⟩
   obtain ⟨o, e, d⟩ := T.obj _ _ st5 b hb
   exact (I7.pin (b, o) (List.mem_append_right _ (List.mem_append_right _ (z21 hb e)))).2.1
  cases f with
  | next => obtain ⟨σ7, H7, I7, n7⟩ := q7; exact again I7 n7
  | cont => obtain ⟨σ7, H7, I7, n7⟩ := q7; exact again I7 n7
  | brk => obtain ⟨σ7, H7, I7, q7⟩ := q7; exact ⟨σ7, H7, I7.unpinned, q7⟩
  | ret v => obtain ⟨x7, σ7, H7, I7, r7, q7⟩ := q7; exact ⟨x7, σ7, H7, I7.unpinned, r7, q7⟩
end
theorem zbw {K : PySem.W.Frag} {a : Addr} {xs : List V} {g : TG} {tb : TS} {D : Ends} {σ : St} {H : Hp} (Pv : Nat → St → Hp → Prop) (h0 : Pv 0 σ H) (hl : ∀ i σ H, i ≤ xs.length → Pv i σ H → SqL K H a xs)
  (hs : ∀ i x σ H, xs[i]? = some x → Pv i σ H → g x σ H fun σ2 H2 => tb { D with nx := Pv (i + 1), ct := Pv (i + 1), bk := D.nx } σ2 H2) (hd : ∀ σ H, Pv xs.length σ H → D.nx σ H) :
  ∃ W : Nat → Nat → St → Hp → Prop, (∃ m, W 0 m σ H) ∧ ∀ i m σ H, W i m σ H →
   ((Itl K a).stop i H ∧ D.nx σ H) ∨ ((Itl K a).go i H ∧ ∃ N : St → Hp → Prop, (∀ σ' H', N σ' H' → ∃ m', m' < m ∧ W (i + 1) m' σ' H') ∧ ∀ x H', (Itl K a).yld i H x H' → g x σ H' fun σ2 H2 => tb { D with nx := N, ct := N, bk := D.nx } σ2 H2) := by
 refine ⟨fun i m σ H => m = xs.length - i ∧ i ≤ xs.length ∧ Pv i σ H, ⟨xs.length, by simp, Nat.zero_le _, h0⟩, ?_⟩
 rintro i m σ H ⟨rfl, hi, p⟩
 have q := hl i σ H hi p
 by_cases hlt : i < xs.length
 ·refine .inr ⟨⟨xs, xs[i], q, by simp [hlt]⟩, Pv (i + 1), fun σ' H' p' => ⟨xs.length - (i + 1), by omega, rfl, hlt, p'⟩, fun x H' y => ?_⟩
  obtain ⟨e, y⟩ := y
  subst e
  exact hs i x σ _ (y xs q) p
 ·have e : i = xs.length := by omega
  subst e
  exact .inl ⟨⟨xs, q, Nat.le_refl _⟩, hd σ H p⟩
theorem zan {lo : Int} {n : Nat} {g : TG} {tb : TS} {D : Ends} {σ : St} {H : Hp} (Pv : Nat → St → Hp → Prop) (h0 : Pv 0 σ H)
  (hs : ∀ i σ H, i < n → Pv i σ H → g (.int (lo + i)) σ H fun σ2 H2 => tb { D with nx := Pv (i + 1), ct := Pv (i + 1), bk := D.nx } σ2 H2) (hd : ∀ σ H, Pv n σ H → D.nx σ H) :
  ∃ W : Nat → Nat → St → Hp → Prop, (∃ m, W 0 m σ H) ∧ ∀ i m σ H, W i m σ H →
   ((Itr lo n).stop i H ∧ D.nx σ H) ∨ ((Itr lo n).go i H ∧ ∃ N : St → Hp → Prop, (∀ σ' H', N σ' H' → ∃ m', m' < m ∧ W (i + 1) m' σ' H') ∧ ∀ x H', (Itr lo n).yld i H x H' → g x σ H' fun σ2 H2 => tb { D with nx := N, ct := N, bk := D.nx } σ2 H2) := by
 refine ⟨fun i m σ H => m = n - i ∧ i ≤ n ∧ Pv i σ H, ⟨n, by simp, Nat.zero_le _, h0⟩, ?_⟩
 rintro i m σ H ⟨rfl, hi, p⟩
 by_cases hlt : i < n
 ·refine .inr ⟨hlt, Pv (i + 1), fun σ' H' p' => ⟨n - (i + 1), by omega, rfl, hlt, p'⟩, fun x H' y => ?_⟩
  obtain ⟨e, y⟩ := y
  subst e y
  exact hs i σ _ hlt p
 ·have e : i = n := by omega
  subst e
  exact .inl ⟨Nat.le_refl _, hd σ H p⟩
end L2
namespace L2
open PySem PySem.Spec PyProof.Rows
abbrev R2 := V → V → Hp → VK → Prop
def OpR (X : Cx) (f : Value → Value → Sem Value) (r : R2) : Prop :=
 ∀ (pins : List (Addr × Obj)) (s : Shared) (σ : St) (H : Hp) (x y : V) (v u : Value) (Q : VK), Inv X pins σ H s → RelV x v → RelV y u → r x y H Q →
  wpAny (model X.prog X.w) X.A (f v u) (EP X pins σ Q) X.xe s
def CallR (X : Cx) (f : Value) (r : List V → Hp → VK → Prop) : Prop :=
 ∀ (pins : List (Addr × Obj)) (s : Shared) (σ : St) (H : Hp) (xs : List V) (us : List Value) (Q : VK), Inv X pins σ H s → Vals xs us → r xs H Q →
  wpAny (model X.prog X.w) X.A (call f us) (EP X pins σ Q) X.xe s
def tOp (r : R2) (ta tb : TE) : TE := fun σ H Q => ta σ H fun x H1 => tb σ H1 fun y H2 => r x y H2 Q
def rI (C : Int → Int → Prop) (g : Int → Int → V) : R2 := fun x y H Q => ∃ i j, x = .int i ∧ y = .int j ∧ C i j ∧ Q (g i j) H
def rI0 (g : Int → Int → V) : R2 := fun x y H Q => ∃ i j, x = .int i ∧ y = .int j ∧ Q (g i j) H
section
variable {X : Cx} {a b c : Expr} {ta tb tc : TE} {pos : Pos}
theorem binT (ha : PE X a ta) (hb : PE X b tb) {pins : List (Addr × Obj)} {s : Shared} {σ : St} {H : Hp} {R : V → V → Hp → Prop} (I : Inv X pins σ H s)
  (h : ta σ H fun x H1 => tb σ H1 fun y H2 => R x y H2) {Q : Value → Shared → Prop} {f : Value → Value → Sem Value}
  (hf : ∀ v u s2 x y H2, Inv X pins σ H2 s2 → RelV x v → RelV y u → R x y H2 → wpAny (model X.prog X.w) X.A (f v u) Q X.xe s2) :
  wpAny (model X.prog X.w) X.A (eval a X.env) (fun v s₁ => wpAny (model X.prog X.w) X.A (eval b X.env) (fun u s₂ => wpAny (model X.prog X.w) X.A (f v u) Q X.xe s₂) X.xe s₁) X.xe s := by
 refine thn (ha pins s σ H _ I h) fun v s1 ⟨x, H1, I1, r1, q1⟩ => ?_
 refine thn (hb pins s1 σ H1 _ I1 q1) fun u s2 ⟨y, H2, I2, r2, q2⟩ => ?_
 exact hf v u s2 x y H2 I2 r1 r2 q2
theorem zi {op : Operator} {r : R2} (ho : OpR X (binaryOp op) r) (ha : PE X a ta) (hb : PE X b tb) : PE X (.BinOp a op b pos) (tOp r ta tb) := by
 intro pins s σ H Q I h
 exact wpAny_BinOp (binT ha hb I h fun v u s2 x y H2 I2 rx ry q => ho pins s2 σ H2 x y v u Q I2 rx ry q)
theorem opI {f : Value → Value → Sem Value} {C : Int → Int → Prop} {g : Int → Int → Int}
  (rule : ∀ (i j : Int) (t u : Tok) (s : Shared) (Q : Value → Shared → Prop) (E : Value → Shared → Prop), C i j → Q (.int (g i j) s.toks) { s with toks := s.toks + 1 } → wpAny (model X.prog X.w) X.A (f (.int i t) (.int j u)) Q E s) :
  OpR X f (rI C fun i j => .int (g i j)) := by
 intro pins s σ H x y v u Q I rx ry h
 obtain ⟨i, j, rfl, rfl, hc, q⟩ := h
 obtain ⟨t, rfl⟩ := rx
 obtain ⟨t', rfl⟩ := ry
 exact rule i j t t' s _ _ hc ⟨.int (g i j), H, I.tok _, ⟨_, rfl⟩, q⟩
theorem opI0 {f : Value → Value → Sem Value} {g : Int → Int → Int}
  (rule : ∀ (i j : Int) (t u : Tok) (s : Shared) (Q : Value → Shared → Prop) (E : Value → Shared → Prop), Q (.int (g i j) s.toks) { s with toks := s.toks + 1 } → wpAny (model X.prog X.w) X.A (f (.int i t) (.int j u)) Q E s) :
  OpR X f (rI0 fun i j => .int (g i j)) := by
 intro pins s σ H x y v u Q I rx ry h
 obtain ⟨i, j, rfl, rfl, q⟩ := h
 obtain ⟨t, rfl⟩ := rx
 obtain ⟨t', rfl⟩ := ry
 exact rule i j t t' s _ _ ⟨.int (g i j), H, I.tok _, ⟨_, rfl⟩, q⟩
theorem opB0 {f : Value → Value → Sem Value} {g : Int → Int → Bool}
  (rule : ∀ (i j : Int) (t u : Tok) (s : Shared) (Q : Value → Shared → Prop) (E : Value → Shared → Prop), Q (.bool (g i j)) s → wpAny (model X.prog X.w) X.A (f (.int i t) (.int j u)) Q E s) :
  OpR X f (rI0 fun i j => .bl (g i j)) := by
 intro pins s σ H x y v u Q I rx ry h
 obtain ⟨i, j, rfl, rfl, q⟩ := h
 obtain ⟨t, rfl⟩ := rx
 obtain ⟨t', rfl⟩ := ry
 exact rule i j t t' s _ _ ⟨.bl (g i j), H, I, rfl, q⟩
def CDiv (i j : Int) : Prop := 0 < j ∧ j < 1073741824
def CMul (i j : Int) : Prop := (-(2 ^ 64) < i ∧ i < 2 ^ 64) ∨ (-(2 ^ 64) < j ∧ j < 2 ^ 64)
theorem CMul.ok {i j : Int} (h : CMul i j) : IntMulOk i j := by
 rcases h with ⟨h1, h2⟩ | ⟨h1, h2⟩
 ·exact .of_left (intBits_le_64 h1 h2)
 ·exact .of_right (intBits_le_64 h1 h2)
theorem z1j : OpR X (binaryOp .Add) (rI0 fun i j => .int (i + j)) := opI0 fun _ _ _ _ _ _ _ q => add_int q
theorem z5o : OpR X (binaryOp .Mult) (rI CMul fun i j => .int (i * j)) := opI fun _ _ _ _ _ _ _ hc q => mul_int q hc.ok
theorem z22 : OpR X (binaryOp .FloorDiv) (rI CDiv fun i j => .int (i / j)) := opI fun i j _ _ _ _ _ hc q => by
 have h1 : (0 : Int) < j := hc.1
 have h2 : j < 1073741824 := hc.2
 exact floordiv_int (by omega) (by rw [Int.fdiv_eq_ediv_of_nonneg i (by omega)]; exact q) (.inl (PyProof.noPylong_small (by omega)))
theorem z1g : OpR X (binaryOp .Mod) (rI (fun _ j => 0 < j) fun i j => .int (i % j)) := opI fun i j _ _ _ _ _ hc q => by
 have h1 : (0 : Int) < j := hc
 exact mod_int' (by omega) (by rw [Int.fmod_eq_emod_of_nonneg i (by omega)]; exact q)
end
def scal : V → V → Bool
 | .non, .non => true | .non, .int _ => true | .int _, .non => true | .non, .bl _ => true | .bl _, .non => true | .non, .str _ => true | .str _, .non => true
 | .int _, .int _ => true | .bl _, .bl _ => true | .str _, .str _ => true | .byt _, .byt _ => true
 | .int _, .str _ => true | .str _, .int _ => true | .bl _, .str _ => true | .str _, .bl _ => true
 | _, _ => false
def rEq : R2 := fun x y H Q => scal x y = true ∧ Q (.bl (decide (x = y))) H
def rNe : R2 := fun x y H Q => scal x y = true ∧ Q (.bl (!decide (x = y))) H
theorem z91 {i j : Int} : decide (V.int i = V.int j) = (i == j) := by
 rw [Bool.eq_iff_iff]
 simp
theorem zao {i j : Bool} : decide (V.bl i = V.bl j) = (i == j) := by
 rw [Bool.eq_iff_iff]
 simp
theorem z92 {i j : Str} : decide (V.str i = V.str j) = (i == j) := by
 rw [Bool.eq_iff_iff]
 simp
theorem z93 {i j : Array UInt8} : decide (V.byt i = V.byt j) = (i.toList == j.toList) := by
 rw [Bool.eq_iff_iff]
 cases i
 cases j
 simp
section
variable {X : Cx} {a b c : Expr} {ta tb tc : TE} {pos : Pos}
theorem zp {pins : List (Addr × Obj)} {σ : St} {H : Hp} {s : Shared} {Q : VK} {k k' : Bool} (I : Inv X pins σ H s) (q : Q (.bl k) H) (e : k = k') : EP X pins σ Q (.bool k') s := by
 subst e
 exact ⟨.bl k, H, I, rfl, q⟩
theorem z12 : OpR X (compareOp .Eq) rEq := by
 intro pins s σ H x y v u Q I rx ry h
 obtain ⟨hs, q⟩ := h
 cases x with
 | non =>
  cases rx
  cases y with
  | non => cases ry; exact PySem.EqNone.eq_none_none (zp I q (by simp))
  | bl j => cases ry; exact PySem.EqNone.eq_none_bool (zp I q (by simp))
  | int j => obtain ⟨t', rfl⟩ := ry; exact PySem.EqNone.eq_none_int (zp I q (by simp))
  | str j => obtain ⟨t', rfl⟩ := ry; exact PySem.EqNone.eq_none_str (zp I q (by simp))
  | _ => exact absurd (show false = true from hs) Bool.false_ne_true
 | bl i =>
  cases rx
  cases y with
  | non => cases ry; exact PySem.EqNone.eq_bool_none (zp I q (by simp))
  | bl j => cases ry; exact eq_bool (zp I q zao)
  | str j => obtain ⟨t', rfl⟩ := ry; exact PySem.EqMixed.eq_bool_str (zp I q (by simp))
  | _ => exact absurd (show false = true from hs) Bool.false_ne_true
 | int i =>
  obtain ⟨t, rfl⟩ := rx
  cases y with
  | non => cases ry; exact PySem.EqNone.eq_int_none (zp I q (by simp))
  | int j => obtain ⟨t', rfl⟩ := ry; exact eq_int (zp I q z91)
  | str j => obtain ⟨t', rfl⟩ := ry; exact PySem.EqMixed.eq_int_str (zp I q (by simp))
  | _ => exact absurd (show false = true from hs) Bool.false_ne_true
 | str i =>
  obtain ⟨t, rfl⟩ := rx
  cases y with
  | non => cases ry; exact PySem.EqNone.eq_str_none (zp I q (by simp))
  | bl j => cases ry; exact PySem.EqMixed.eq_str_bool (zp I q (by simp))
  | int j => obtain ⟨t', rfl⟩ := ry; exact PySem.EqMixed.eq_str_int (zp I q (by simp))
  | str j => obtain ⟨t', rfl⟩ := ry; exact eq_str (zp I q z92)
  | _ => exact absurd (show false = true from hs) Bool.false_ne_true
 | byt i =>
  obtain ⟨t, rfl⟩ := rx
  cases y with
  | byt j => obtain ⟨t', rfl⟩ := ry; exact PySem.W.eq_bytes (zp I q z93)
  | _ => exact absurd (show false = true from hs) Bool.false_ne_true
 | _ => cases y <;> exact absurd (show false = true from hs) Bool.false_ne_true
theorem z26 : OpR X (compareOp .NotEq) rNe := by
 intro pins s σ H x y v u Q I rx ry h
 obtain ⟨hs, q⟩ := h
 cases x with
 | non =>
  cases rx
  cases y with
  | non => cases ry; exact PySem.EqNone.ne_none_none (zp I q (by simp))
  | bl j => cases ry; exact PySem.EqNone.ne_none_bool (zp I q (by simp))
  | int j => obtain ⟨t', rfl⟩ := ry; exact PySem.EqNone.ne_none_int (zp I q (by simp))
  | str j => obtain ⟨t', rfl⟩ := ry; exact PySem.EqNone.ne_none_str (zp I q (by simp))
  | _ => exact absurd (show false = true from hs) Bool.false_ne_true
 | bl i =>
  cases rx
  cases y with
  | non => cases ry; exact PySem.EqNone.ne_bool_none (zp I q (by simp))
  | bl j => cases ry; exact ne_bool (zp I q (congrArg not zao))
  | str j => obtain ⟨t', rfl⟩ := ry; exact PySem.EqMixed.ne_bool_str (zp I q (by simp))
  | _ => exact absurd (show false = true from hs) Bool.false_ne_true
 | int i =>
  obtain ⟨t, rfl⟩ := rx
  cases y with
  | non => cases ry; exact PySem.EqNone.ne_int_none (zp I q (by simp))
  | int j => obtain ⟨t', rfl⟩ := ry; exact ne_int (zp I q (congrArg not z91))
  | str j => obtain ⟨t', rfl⟩ := ry; exact PySem.EqMixed.ne_int_str (zp I q (by simp))
  | _ => exact absurd (show false = true from hs) Bool.false_ne_true
 | str i =>
  obtain ⟨t, rfl⟩ := rx
  cases y with
  | non => cases ry; exact PySem.EqNone.ne_str_none (zp I q (by simp))
  | bl j => cases ry; exact PySem.EqMixed.ne_str_bool (zp I q (by simp))
  | int j => obtain ⟨t', rfl⟩ := ry; exact PySem.EqMixed.ne_str_int (zp I q (by simp))
  | str j => obtain ⟨t', rfl⟩ := ry; exact ne_str (zp I q (congrArg not z92))
  | _ => exact absurd (show false = true from hs) Bool.false_ne_true
 | byt i =>
  obtain ⟨t, rfl⟩ := rx
  cases y with
  | byt j => obtain ⟨t', rfl⟩ := ry; exact PySem.W.ne_bytes (zp I q (congrArg not z93))
  | _ => exact absurd (show false = true from hs) Bool.false_ne_true
 | _ => cases y <;> exact absurd (show false = true from hs) Bool.false_ne_true
theorem zeh : OpR X (compareOp .Lt) (rI0 fun i j => .bl (decide (i < j))) := opB0 fun _ _ _ _ _ _ _ q => lt_int q
theorem z2z : OpR X (compareOp .LtE) (rI0 fun i j => .bl (decide (i ≤ j))) := opB0 fun _ _ _ _ _ _ _ q => le_int q
theorem zcn : OpR X (compareOp .GtE) (rI0 fun i j => .bl (decide (j ≤ i))) := opB0 fun _ _ _ _ _ _ _ q => ge_int q
theorem zap : OpR X (compareOp .In) (fun x y H Q => ∃ i j, x = .str i ∧ y = .str j ∧ Q (.bl (!(Builtin.Str.occurrences j i 0 j.length 1).isEmpty)) H) := by
 intro pins s σ H x y v u Q I rx ry h
 obtain ⟨i, j, rfl, rfl, q⟩ := h
 obtain ⟨t, rfl⟩ := rx
 obtain ⟨t', rfl⟩ := ry
 exact in_str (zp I q rfl)
theorem OpR.or {f : Value → Value → Sem Value} {r r' : R2} (h : OpR X f r) (h' : OpR X f r') : OpR X f (fun x y H Q => r x y H Q ∨ r' x y H Q) := by
 intro pins s σ H x y v u Q I rx ry q
 rcases q with q | q
 ·exact h pins s σ H x y v u Q I rx ry q
 ·exact h' pins s σ H x y v u Q I rx ry q
theorem zj (b : Expr) {op : CmpOp} (h : op ≠ .In := by decide) (h2 : op ≠ .NotIn := by decide) : behindInMarks op b = false := by
 have e1 : (op == CmpOp.In) = false := by cases op <;> first | rfl | exact absurd rfl h
 have e2 : (op == CmpOp.NotIn) = false := by cases op <;> first | rfl | exact absurd rfl h2
 cases b <;> simp [behindInMarks, e1, e2]
theorem z14 {op : CmpOp} {r : R2} (ho : OpR X (compareOp op) r) (ha : PE X a ta) (hb : PE X b tb) (hm : behindInMarks op b = false) : PE X (.Compare a [op] [b] pos) (tOp r ta tb) := by
 intro pins s σ H Q I h
 exact wpAny_Compare1 (binT ha hb I h fun v u s2 x y H2 I2 rx ry q => ho pins s2 σ H2 x y v u Q I2 rx ry q) hm
def z9q (t : TE) : TT := fun σ H Q => t σ H fun x H' => ∃ k, x = .bl k ∧ Q k H'
theorem zt {op : CmpOp} {r : R2} (ho : OpR X (compareOp op) r) (ha : PE X a ta) (hb : PE X b tb) (hm : behindInMarks op b = false) : PT X (.Compare a [op] [b] pos) (z9q (tOp r ta tb)) := by
 intro pins s σ H Q I h
 refine wpAny_isTrue_Compare1 (thn (ha pins s σ H _ I h) fun v s1 ⟨x, H1, I1, r1, q1⟩ => thn (hb pins s1 σ H1 _ I1 q1) fun u s2 ⟨y, H2, I2, r2, q2⟩ =>
  thn (ho pins s2 σ H2 x y v u _ I2 r1 r2 q2) fun c s3 ⟨z, H3, I3, r3, k, e, q3⟩ => ?_) hm
 subst e
 cases r3
 exact wpAny_truthy_bool ⟨H3, I3, q3⟩
def z7m (r r' : R2) (ta tb tc : TE) : TE := fun σ H Q => ta σ H fun x H1 => tb σ H1 fun y H2 => r x y H2 fun z H3 => ∃ k, z = .bl k ∧
 (if k = true then tc σ H3 fun w' H4 => r' y w' H4 Q else Q (.bl false) H3)
theorem z5e {op op' : CmpOp} {r r' : R2} (ho : OpR X (compareOp op) r) (ho' : OpR X (compareOp op') r') (ha : PE X a ta) (hb : PE X b tb) (hc : PE X c tc)
  (hm : lastMarks [op, op'] [b, c] = false := by with_unfolding_all rfl) : PE X (.Compare a [op, op'] [b, c] pos) (z7m r r' ta tb tc) := by
 intro pins s σ H Q I h
 refine Compare_chain (thn (ha pins s σ H _ I h) fun v s1 ⟨x, H1, I1, r1, q1⟩ => chain_link (thn (hb pins s1 σ H1 _ I1 q1) fun u s2 ⟨y, H2, I2, r2, q2⟩ =>
  thn (ho pins s2 σ H2 x y v u _ I2 r1 r2 q2) fun d s3 ⟨z, H3, I3, r3, k, e, q3⟩ => ?_)) hm
 subst e
 cases r3
 refine wpAny_truthy_bool ?_
 cases k with
 | false => exact ite_ff ⟨.bl false, H3, I3, rfl, q3⟩
 | true => exact ite_tt (chain_last (thn (hc pins s3 σ H3 _ I3 q3) fun w' s4 ⟨z', H4, I4, r4, q4⟩ => ho' pins s4 σ H4 y z' u w' Q I4 r2 r4 q4))
theorem zbx {op op' : CmpOp} {r r' : R2} (ho : OpR X (compareOp op) r) (ho' : OpR X (compareOp op') r') (ha : PE X a ta) (hb : PE X b tb) (hc : PE X c tc)
  (hm : lastMarks [op, op'] [b, c] = false := by with_unfolding_all rfl) : PT X (.Compare a [op, op'] [b, c] pos) (z9q (z7m r r' ta tb tc)) := by
 intro pins s σ H Q I h
 refine isTrue_chain (thn (ha pins s σ H _ I h) fun v s1 ⟨x, H1, I1, r1, q1⟩ => test_link (thn (hb pins s1 σ H1 _ I1 q1) fun u s2 ⟨y, H2, I2, r2, q2⟩ =>
  thn (ho pins s2 σ H2 x y v u _ I2 r1 r2 q2) fun d s3 ⟨z, H3, I3, r3, k, e, q3⟩ => ?_)) hm
 subst e
 cases r3
 refine wpAny_truthy_bool ?_
 cases k with
 | false =>
  obtain ⟨k', e', q'⟩ := q3
  cases e'
  exact ite_ff ⟨H3, I3, q'⟩
 | true =>
  refine ite_tt (test_last (thn (hc pins s3 σ H3 _ I3 q3) fun w' s4 ⟨z', H4, I4, r4, q4⟩ => thn (ho' pins s4 σ H4 y z' u w' _ I4 r2 r4 q4) fun d' s5 ⟨z2, H5, I5, r5, k2, e2, q5⟩ => ?_))
  subst e2
  cases r5
  exact wpAny_truthy_bool ⟨H5, I5, q5⟩
theorem z4f : (sizeLine : Nat) < 2 ^ 63 := by rw [sizeLine_eq]; decide
theorem z5p : OpR X (binaryOp .Add) (fun x y H Q => ∃ i j, x = .str i ∧ y = .str j ∧ i.length + j.length ≤ sizeLine ∧ Q (.str (i ++ j)) H) := by
 intro pins s σ H x y v u Q I rx ry h
 obtain ⟨i, j, rfl, rfl, hz, q⟩ := h
 obtain ⟨t, rfl⟩ := rx
 obtain ⟨t', rfl⟩ := ry
 exact add_str (fun t' tk => ⟨.str (i ++ j), H, I.tok _, ⟨_, rfl⟩, q⟩) hz
theorem z2p {x : V} {us : List Value} (r : Vals [x] us) : ∃ u, us = [u] ∧ RelV x u := by
 cases r with
 | cons r1 r2 => cases r2; exact ⟨_, rfl, r1⟩
theorem zco {x y : V} {us : List Value} (r : Vals [x, y] us) : ∃ u w', us = [u, w'] ∧ RelV x u ∧ RelV y w' := by
 cases r with
 | cons r1 r2 =>
  cases r2 with
  | cons r3 r4 => cases r4; exact ⟨_, _, rfl, r1, r3⟩
end
end L2
namespace L2
open PySem PySem.Spec PyProof.Rows
structure ObjM (h : Heap) (x dx C : Addr) (mA : Str → Option Value) : Prop where
 obj : h.get? x = some (PySem.W.instObj C dx)
 ns : h.Ns1 dx mA
 ne : dx ≠ x
theorem zaq {h : Heap} {dx : Addr} {mA : Str → Option Value} (n : h.Ns1 dx mA) : ∃ od, h.get? dx = some od ∧ ∀ name, PySem.W.lookIn name od = some (mA name) := by
 obtain ⟨o, es, ep, ho, hd, hk, _, hm⟩ := n
 refine ⟨o, ho, fun name => ?_⟩
 have e := hm name
 unfold nsFind findBy at e
 rw [← Array.find?_toList] at e
 unfold PySem.W.lookIn
 rw [hd]
 dsimp only
 split
 ·rename_i y q
  rw [q] at e
  exact congrArg some e
 ·rename_i q
  rw [q] at e
  have a : es.toList.any (·.refKey) = false := by
   rw [List.any_eq_false]
   intro y hy
   obtain ⟨z, t, hkey⟩ := hk y (Array.mem_toList_iff.mp hy)
   simp [DictEntry.refKey, hkey]
  have a' : ¬ es.toList.any (·.refKey) = true := by rw [a]; exact Bool.false_ne_true
  rw [if_neg a']
  exact congrArg some e
theorem ObjM.look {h : Heap} {x dx C : Addr} {mA : Str → Option Value} (I : ObjM h x dx C mA) : ∃ od, PySem.W.InstAt h x (PySem.W.instObj C dx) C (some od) ∧ ∀ name, PySem.W.lookIn name od = some (mA name) :=
 let ⟨od, ho, hl⟩ := zaq I.ns
 ⟨od, ⟨I.obj, rfl, rfl, ho⟩, hl⟩
section
variable {prog : Program} {w : World} {A : Around} {E : Value → Shared → Prop} {s : Shared} {K : PySem.W.Frag} {x dx C f : Addr} {mA : Str → Option Value} {name : Str} {v : Value}
theorem zd3 {expr : Bool} {Q : Value → Shared → Prop} (X : K.In s.heap) (I : ObjM s.heap x dx C mA) (hg : PySem.W.plainGet K C name = true) (hh : PySem.W.hasDictIn K C = true)
  (ha : PySem.W.findIn K (.ref C) name = some none) (hv : mA name = some v) (hv' : PySem.W.handedIn v = true) (h : Q v { s with toks := s.toks + 1 }) :
  wpAny (model prog w) A (getAttr (.ref x) name expr) Q E s := by
 obtain ⟨od, J, hl⟩ := I.look
 exact PySem.W.get_value X J (PySem.W.plainGet_of hg).1 (PySem.W.findObj_own hh ha rfl (by rw [hl, hv])) hv' h
theorem zby {pl : Sem Bool} {Q : Value × List Value → Shared → Prop} (X : K.In s.heap) (I : ObjM s.heap x dx C mA) (hg : PySem.W.plainGet K C name = true)
  (hf : PySem.W.findIn K (.ref C) name = some (some (.ref f))) (ht : PySem.W.isFn K (.ref f) = true) (hv : mA name = none) (h : Q (.ref f, [.ref x]) s) :
  wpAny (model prog w) A (getMethod (.ref x) name pl) Q E s := by
 obtain ⟨od, J, hl⟩ := I.look
 exact PySem.W.method_fn X J (PySem.W.plainGet_of hg).1 (PySem.W.plainGet_of hg).2 hf (beq_iff_eq.mp ht) (by show (PySem.W.lookIn name od).map (·.isSome) = some false; rw [hl, hv]; rfl) h
theorem zd4 {ns : List Str} {Q : Unit → Shared → Prop} (X : K.In s.heap) (I : ObjM s.heap x dx C mA)
  (hs : PySem.W.findIn K (.ref C) "__setattr__" = some (some (.builtin "object.__setattr__"))) (hp : PySem.W.plainOver K C = true) (ht : PySem.W.takerIn K C name = some none) (hh : PySem.W.hasDictIn K C = true)
  (hw : PySem.Within mA ns) (hsz : ns.length ≤ sizeLine)
  (h : ∀ h', ObjM h' x dx C (fun y => if y = name then some v else mA y) → Heap.SameBut dx s.heap h' → Q () { s with heap := h', toks := s.toks + 2 }) :
  wpAny (model prog w) A (setAttr (.ref x) name v) Q E s := by
 obtain ⟨od, J, hl⟩ := I.look
 refine PySem.W.set_plain X J hs (PySem.W.osa_open (s := { s with toks := s.toks + 1 }) (r := none) X J hp ht fun b => ?_)
 obtain ⟨cd, hc, hd'⟩ := PySem.W.any_some hh
 have hx : s.heap.get? x = some ⟨.ref C, some dx, .plain, #[]⟩ := I.obj
 refine wpAny_bind (wpAny_pure (wpAny_bind (wpAny_bind (wpAny_loadPart hx (wpAny_bind (PySem.W.Looks.here (s := { s with toks := s.toks + 1 }) (PySem.W.looks_clsIn X hc) ?_))))))
 rw [hd']
 refine wpAny_pure (a := some dx) (wpAny_bind (wpAny_pure (wpAny_bind ?_)))
 refine wpAny_nsSet1 (s := { s with toks := s.toks + 1 }) I.ns fun h' hn2 hs2 => ?_
 obtain ⟨oD, esD, epD, hoD, hdD, hcD⟩ := hn2.count (PySem.Within.cons name v hw)
 refine wpAny_bind (wpAny_lookBehind hoD (by rw [hdD]; exact pastItsLine_dict (Nat.le_trans hcD (by rw [List.length_cons]; omega))) ?_)
 exact wpAny_pure (h _ ⟨(hs2.2 _ (Ne.symm I.ne)).trans I.obj, hn2, I.ne⟩ hs2)
theorem zbz {R : Result → Shared → Prop} {vs : List Value} {kw : List (Str × Value)} (X : K.In s.heap) (hm : PySem.W.makesIn K C = true)
  (hi : PySem.W.findIn K (.ref C) "__init__" = some (some (.ref f))) (hf : PySem.W.typeIn K (.ref f) = some (.type "function"))
  (h : codeAny (model prog w) (A.under (.builtin "type.__call__" ⟨.ref C :: vs, kw⟩)) (.call (.ref f) ⟨.ref (s.heap.objs.size + 1) :: vs, kw⟩) (PySem.W.InitBack (s.heap.objs.size + 1) R)
   { s with heap := (s.heap.push PySem.W.emptyDict).push (PySem.W.instObj C s.heap.objs.size) }) :
  codeAny (model prog w) A (.call (.ref C) ⟨vs, kw⟩) R s := by
 obtain ⟨hh, g, d, t, os⟩ := s
 exact PySem.W.make_core (PySem.W.makes_of X hm) (PySem.W.looks_findIn X hi) (fun self => PySem.W.bind_fn X self hf) (.inl rfl) h
end
def putF (f : Str) (v : V) : List (Str × V) → List (Str × V)
 | [] => [(f, v)]
 | (g, x) :: r => if g = f then (g, v) :: r else (g, x) :: putF f v r
theorem z57 (f g : Str) (v : V) : ∀ fs : List (Str × V), (putF f v fs).lookup g = if g = f then some v else fs.lookup g
 | [] => by
  show List.lookup g [(f, v)] = _
  by_cases h : g = f
  ·have hb : (g == f) = true := beq_iff_eq.mpr h
   simp only [List.lookup, hb, if_pos h]
  ·have hb : (g == f) = false := beq_eq_false_iff_ne.mpr h
   simp only [List.lookup, hb, if_neg h]
 | (k, x) :: r => by
  have ih := z57 f g v r
  rw [show putF f v ((k, x) :: r) = (if k = f then (k, v) :: r else (k, x) :: putF f v r) from rfl]
  by_cases hk : k = f
  ·rw [if_pos hk]
   by_cases h : g = k
   ·have hb : (g == k) = true := beq_iff_eq.mpr h
    simp only [List.lookup, hb, if_pos (h.trans hk)]
   ·have hb : (g == k) = false := beq_eq_false_iff_ne.mpr h
    simp only [List.lookup, hb, if_neg (fun e : g = f => h (e.trans hk.symm))]
  ·rw [if_neg hk]
   by_cases h : g = k
   ·have hb : (g == k) = true := beq_iff_eq.mpr h
    simp only [List.lookup, hb, if_neg (fun e : g = f => hk (h.symm.trans e))]
   ·have hb : (g == k) = false := beq_eq_false_iff_ne.mpr h
    simp only [List.lookup, hb]
    exact ih
theorem z4g (f : Str) (v : V) : ∀ fs : List (Str × V), f ∈ (putF f v fs).map (·.1) ∧ ∀ g, g ∈ fs.map (·.1) → g ∈ (putF f v fs).map (·.1)
 | [] => ⟨by simp [putF], fun g h => by simp at h⟩
 | (k, x) :: r => by
  obtain ⟨i1, i2⟩ := z4g f v r
  rw [show putF f v ((k, x) :: r) = (if k = f then (k, v) :: r else (k, x) :: putF f v r) from rfl]
  by_cases hk : k = f
  ·rw [if_pos hk]
   subst hk
   exact ⟨by simp, fun g h => by simpa using h⟩
  ·rw [if_neg hk]
   refine ⟨?_, fun g h => ?_⟩
   ·rw [List.map_cons]
    exact List.mem_cons_of_mem _ i1
   ·rw [List.map_cons] at h ⊢
    rcases List.mem_cons.mp h with e | e
    ·exact List.mem_cons.mpr (.inl e)
    ·exact List.mem_cons_of_mem _ (i2 g e)
theorem z3h (f : Str) (v : V) : ∀ fs : List (Str × V), (putF f v fs).length ≤ fs.length + 1
 | [] => by simp [putF]
 | (k, x) :: r => by
  have ih := z3h f v r
  rw [show putF f v ((k, x) :: r) = (if k = f then (k, v) :: r else (k, x) :: putF f v r) from rfl]
  by_cases hk : k = f
  ·rw [if_pos hk, List.length_cons, List.length_cons]; omega
  ·rw [if_neg hk, List.length_cons, List.length_cons]; omega
theorem RelO.some_of {v : V} {o : Option Value} (r : RelO (some v) o) : ∃ u, o = some u ∧ RelV v u := by
 cases o with
 | none => exact (show False from r).elim
 | some u => exact ⟨u, rfl, r⟩
theorem RelO.none_of {o : Option Value} (r : RelO none o) : o = none := by
 cases o with
 | none => rfl
 | some u => exact (show False from r).elim
theorem zar {v : V} {u : Value} (r : RelV v u) : PySem.W.handedIn u = true := by
 cases v with
 | non => cases (show u = Value.none from r); rfl
 | bl b => cases (show u = Value.bool b from r); rfl
 | int i => obtain ⟨t, e⟩ := (show ∃ t, u = Value.int i t from r); cases e; rfl
 | str x => obtain ⟨t, e⟩ := (show ∃ t, u = Value.str x t from r); cases e; rfl
 | byt b => obtain ⟨t, e⟩ := (show ∃ t, u = Value.bytes b t from r); cases e; rfl
 | flt b => obtain ⟨t, e⟩ := (show ∃ t, u = Value.float b t from r); cases e; rfl
 | ref a => cases (show u = Value.ref a from r); rfl
 | ty n => cases (show u = Value.type n from r); rfl
section
variable {P : Program} {w : World} {H H' : Hp} {h h' : Heap} {a C dx : Addr} {fs fs' : List (Str × V)}
theorem z3o (hok : HOk P w H h) (e : H a = some (.ins C dx fs)) : ∃ mA, ObjM h a dx C mA ∧ (∀ f, RelO (fs.lookup f) (mA f)) ∧ PySem.Within mA (fs.map (·.1)) ∧ fs.length ≤ 1000 ∧ H dx = some (.own a) := by
 obtain ⟨d, z, ne, ob, mA, n, r, q⟩ := (show ObjOk P w H h a (.ins C dx fs) from hok a _ e)
 exact ⟨mA, ⟨ob, n, ne⟩, r, q, z, d⟩
end
structure Cls (K : PySem.W.Frag) (C : Addr) : Prop where
 pg : PySem.W.plainGet K C Str.empty = true
 hd : PySem.W.hasDictIn K C = true
 po : PySem.W.plainOver K C = true
 sa : PySem.W.findIn K (.ref C) "__setattr__" = some (some (.builtin "object.__setattr__"))
theorem Cls.get {K : PySem.W.Frag} {C : Addr} (c : Cls K C) (f : Str) : PySem.W.plainGet K C f = true := c.pg
def NoAttr (K : PySem.W.Frag) (C : Addr) (f : Str) : Prop := PySem.W.findIn K (.ref C) f = some none
theorem NoAttr.taker {K : PySem.W.Frag} {C : Addr} {f : Str} (n : NoAttr K C f) : PySem.W.takerIn K C f = some none := by
 unfold PySem.W.takerIn
 rw [show PySem.W.findIn K (.ref C) f = some none from n]
 rfl
structure Con (K : PySem.W.Frag) (C : Addr) (f : Str) (v : V) (u : Value) : Prop where
 at_ : PySem.W.findIn K (.ref C) f = some (some u)
 rel : RelV v u
 get : PySem.W.specialIn K u "__get__" = some none
 cp : PySem.W.copiedNames.contains f = false
structure Meth (K : PySem.W.Frag) (C : Addr) (m : Str) (f : Addr) : Prop where
 at_ : PySem.W.findIn K (.ref C) m = some (some (.ref f))
 fn : PySem.W.isFn K (.ref f) = true
 kp : PySem.W.keepIn K (.ref f) = true
section
variable {X : Cx} {pins : List (Addr × Obj)} {σ : St} {H : Hp} {s : Shared} {a C dx : Addr} {fs : List (Str × V)} {f : Str} {v : V} {A : Around} {E : Value → Shared → Prop}
theorem z5q {b : Bool} {Q : Value → Shared → Prop} (I : Inv X pins σ H s) (e : H a = some (.ins C dx fs)) (c : Cls X.K C) (n : NoAttr X.K C f) (l : fs.lookup f = some v)
  (h : ∀ u s', Inv X pins σ H s' → RelV v u → Q u s') : wpAny (model X.prog X.w) A (getAttr (.ref a) f b) Q E s := by
 obtain ⟨mA, O, r, _, _, _⟩ := z3o I.hok e
 obtain ⟨u, hu, ru⟩ := RelO.some_of (v := v) (o := mA f) (by rw [← l]; exact r f)
 exact zd3 I.kIn O (c.get f) c.hd n hu (zar ru) (h u _ (I.tok _) ru)
theorem z3x {m : Str} {g : Addr} {pl : Sem Bool} {Q : Value × List Value → Shared → Prop} (I : Inv X pins σ H s) (e : H a = some (.ins C dx fs)) (c : Cls X.K C) (k : Meth X.K C m g) (l : fs.lookup m = none)
  (h : Q (.ref g, [.ref a]) s) : wpAny (model X.prog X.w) A (getMethod (.ref a) m pl) Q E s := by
 obtain ⟨mA, O, r, _, _, _⟩ := z3o I.hok e
 have hn : mA m = none := RelO.none_of (by rw [← l]; exact r m)
 exact zby I.kIn O (c.get m) k.at_ k.fn hn h
theorem z5r {y : V} {u : Value} {Q : Unit → Shared → Prop} (I : Inv X pins σ H s) (e : H a = some (.ins C dx fs)) (c : Cls X.K C) (n : NoAttr X.K C f) (hl : fs.length < 1000) (ry : RelV y u)
  (h : ∀ s', Inv X pins σ (upd H a (.ins C dx (putF f y fs))) s' → Q () s') : wpAny (model X.prog X.w) A (setAttr (.ref a) f u) Q E s := by
 obtain ⟨mA, O, r, wi, _, ho⟩ := z3o I.hok e
 have hz : (fs.map (·.1)).length ≤ sizeLine := by rw [List.length_map, sizeLine_eq]; omega
 refine zd4 I.kIn O c.sa c.po n.taker c.hd wi hz fun h' O' sb => h _ ?_
 have hd : ∃ o, h'.get? dx = some o := let ⟨o, _, _, e', _⟩ := O'.ns; ⟨o, e'⟩
 refine I.write (x := a) (e := dx) (by rw [e]; exact True.intro) (.inr ho) (fun b q hb z => (sb.2 b hb).trans z) hd ?_
 refine ⟨by rw [z7 O.ne]; exact ho, ?_, O.ne, O'.obj, _, O'.ns, fun g => ?_, fun g hg => ?_⟩
 ·have := z3h f y fs; omega
 ·show RelO ((putF f y fs).lookup g) (if g = f then some u else mA g)
  rw [z57]
  by_cases q : g = f
  ·rw [if_pos q, if_pos q]; exact ry
  ·rw [if_neg q, if_neg q]; exact r g
 ·by_cases q : g = f
  ·rw [q]; exact (z4g f y fs).1
  ·refine (z4g f y fs).2 g (wi g fun z => hg ?_)
   show (if g = f then some u else mA g) = none
   rw [if_neg q]; exact z
theorem Inv.made (I : Inv X pins σ H s) : Inv X pins σ (upd (upd H s.heap.objs.size (.own (s.heap.objs.size + 1))) (s.heap.objs.size + 1) (.ins C s.heap.objs.size []))
  { s with heap := (s.heap.push PySem.W.emptyDict).push (PySem.W.instObj C s.heap.objs.size) } := by
 have e1 : (s.heap.push PySem.W.emptyDict).get? s.heap.objs.size = some PySem.W.emptyDict := Heap.get?_push_size s.heap rfl
 have e2 : ((s.heap.push PySem.W.emptyDict).push (PySem.W.instObj C s.heap.objs.size)).get? (s.heap.objs.size + 1) = some (PySem.W.instObj C s.heap.objs.size) := by
  have := Heap.get?_push_size (s.heap.push PySem.W.emptyDict) (o := PySem.W.instObj C s.heap.objs.size) rfl
  rwa [Heap.size_push] at this
 have e3 : (s.heap.push PySem.W.emptyDict).Ns s.heap.objs.size (fun _ => none) := ⟨PySem.W.emptyDict, #[], _, e1, rfl, (fun e he => absurd he (by simp)), fun _ => rfl⟩
 have I1 := I.laid (a := s.heap.objs.size) (o := .own (s.heap.objs.size + 1)) (h' := s.heap.push PySem.W.emptyDict) (t' := s.toks) (fun b u q => Heap.get?_push_of_some _ q) (Nat.le_refl _) ⟨_, e1⟩
 refine I1.laid (a := s.heap.objs.size + 1) (o := .ins C s.heap.objs.size []) (t' := s.toks) (fun b u q => Heap.get?_push_of_some _ q) (Nat.le_of_eq (Heap.size_push _ _)) ?_
 have ne : s.heap.objs.size ≠ s.heap.objs.size + 1 := Nat.ne_of_lt (Nat.lt_succ_self _)
 refine ⟨by rw [z7 ne, z5], Nat.zero_le _, ne, e2, fun _ => none, (Heap.Ns1.of_empty e3).at fun o q => Heap.get?_push_of_some _ q, fun _ => True.intro, fun y hy => absurd rfl hy⟩
theorem zd5 {prog : Program} {w : World} {env : Env} {e : Expr} {f : Str} {pos : Pos} {s : Shared} {Q : Value → Shared → Prop} (hb : attributeBase e f env (eval e env) = eval e env)
  (h : wpAny (model prog w) A (eval e env) (fun o s₁ => wpAny (model prog w) A (getAttr o f true) Q E s₁) E s) : wpAny (model prog w) A (eval (.Attribute e f pos) env) Q E s :=
 Attribute_any_ h (by rw [arm_eval_Attribute, hb])
end
def tFld (K : PySem.W.Frag) (ta : TE) (f : Str) : TE := fun σ H Q => ta σ H fun x H1 => ∃ a C dx fs v, x = .ref a ∧ H1 a = some (.ins C dx fs) ∧ Cls K C ∧ NoAttr K C f ∧ fs.lookup f = some v ∧ Q v H1
def sFld (K : PySem.W.Frag) (ta tv : TE) (f : Str) : TS := fun D σ H => tv σ H fun y H1 => ta σ H1 fun x H2 => ∃ a C dx fs, x = .ref a ∧ H2 a = some (.ins C dx fs) ∧ Cls K C ∧ NoAttr K C f ∧ fs.length < 1000 ∧
 D.nx σ (upd H2 a (.ins C dx (putF f y fs)))
def InOp (X : Cx) (op : Operator) (rd : V → V → Hp → VK → Prop) : Prop :=
 ∀ (pins : List (Addr × Obj)) (s : Shared) (σ : St) (H : Hp) (x y : V) (u v : Value) (Q : VK), Inv X pins σ H s → RelV x u → RelV y v → rd x y H Q → wpAny (model X.prog X.w) X.A (inplaceOp op u v) (EP X pins σ Q) X.xe s
def z94 (K : PySem.W.Frag) (ta tv : TE) (rd : V → V → Hp → VK → Prop) (f : Str) : TS := fun D σ H => ta σ H fun x H1 => ∃ a C dx fs v, x = .ref a ∧ H1 a = some (.ins C dx fs) ∧ Cls K C ∧ NoAttr K C f ∧ fs.lookup f = some v ∧
 tv σ H1 fun y H2 => rd v y H2 fun z H3 => ∃ dx' fs', H3 a = some (.ins C dx' fs') ∧ fs'.length < 1000 ∧ D.nx σ (upd H3 a (.ins C dx' (putF f z fs')))
section
variable {X : Cx} {o e value : Expr} {f : Str} {pos pos' tpos : Pos} {ta tv : TE}
theorem z16 (he : PE X e ta) (hb : attributeBase e f X.env (eval e X.env) = eval e X.env) : PE X (.Attribute e f pos) (tFld X.K ta f) := by
 intro pins s σ H Q I h
 refine zd5 hb (thn (he pins s σ H _ I h) fun u s1 ⟨x, H1, I1, rx, a, C, dx, fs, v, ex, ea, c, n, l, q⟩ => ?_)
 subst ex
 obtain rfl : u = Value.ref a := rx
 exact z5q I1 ea c n l fun u' s2 I2 ru => ⟨v, H1, I2, ru, q⟩
theorem z13 (ha : PE X o ta) (hv : PE X value tv) (hs : swapsWith value (some (.Attribute o f pos')) pos.line X.env = pure false) : PS X (.Assign [.Attribute o f pos'] value pos) (sFld X.K ta tv f) := by
 intro pins s σ H D I h
 refine plainObj_wpAny_Assign_Attribute (thn (hv pins s σ H _ I h) fun u s1 ⟨y, H1, I1, ry, q⟩ => thn (ha pins s1 σ H1 _ I1 q) fun ov s2 ⟨x, H2, I2, rx, a, C, dx, fs, ex, ea, c, n, l, q2⟩ => ?_) hs
 subst ex
 obtain rfl : ov = Value.ref a := rx
 exact z5r I2 ea c n l ry fun s3 I3 => ⟨σ, _, I3, q2⟩
theorem z6n {op : Operator} {rd : V → V → Hp → VK → Prop} (ha : PE X o ta) (hv : PE X value tv) (hop : InOp X op rd) : PS X (.AugAssign (.Attribute o f tpos) op value pos) (z94 X.K ta tv rd f) := by
 intro pins s σ H D I h
 refine wpAny_AugAssign_AttributeAny (thn (ha pins s σ H _ I h) fun ov s1 ⟨x, H1, I1, rx, a, C, dx, fs, v, ex, ea, c, n, l, q⟩ => ?_)
 subst ex
 obtain rfl : ov = Value.ref a := rx
 refine z5q I1 ea c n l fun u s2 I2 ru => thn (hv pins s2 σ H1 _ I2 q) fun w3 s3 ⟨y, H2, I3, ry, q3⟩ => thn (hop pins s3 σ H2 v y u w3 _ I3 ru ry q3) fun w4 s4 ⟨z, H3, I4, rz, dx', fs', ea', l', q4⟩ => ?_
 exact z5r I4 ea' c n l' rz fun s5 I5 => ⟨σ, _, I5, q4⟩
def rAdd : V → V → Hp → VK → Prop := fun x y H Q => ∃ i j, x = .int i ∧ y = .int j ∧ Q (.int (i + j)) H
theorem zas : InOp X .Add rAdd := by
 rintro pins s σ H x y u v Q I rx ry ⟨i, j, rfl, rfl, q⟩
 obtain ⟨t, rfl⟩ := (show ∃ t, u = Value.int i t from rx)
 obtain ⟨t', rfl⟩ := (show ∃ t', v = Value.int j t' from ry)
 exact PyProof.Rows.iadd_int ⟨.int (i + j), H, I.tok _, ⟨_, rfl⟩, q⟩
end
section
variable {X : Cx} {pins : List (Addr × Obj)} {σ : St} {H : Hp} {s : Shared} {A : Around} {E : Value → Shared → Prop} {Q : Value → Shared → Prop} {c : Value} {b : Bool}
inductive TyOf (K : PySem.W.Frag) (H : Hp) : V → Value → Prop where
 | non : TyOf K H .non (.type "NoneType")
 | bl (x : Bool) : TyOf K H (.bl x) (.type "bool")
 | int (i : Int) : TyOf K H (.int i) (.type "int")
 | str (x : Str) : TyOf K H (.str x) (.type "str")
 | flt (x : UInt64) : TyOf K H (.flt x) (.type "float")
 | lst {a : Addr} {xs : List V} (e : H a = some (.lst xs)) : TyOf K H (.ref a) (.type "list")
 | frz {a : Addr} {o : Obj} {xs : List V} (e : H a = some (.frz o (.lst xs))) : TyOf K H (.ref a) (.type "list")
 | tup {a : Addr} {xs : List V} (e : H a = some (.tup xs)) : TyOf K H (.ref a) (.type "tuple")
 | dK {a : Addr} {kvs : List (Key × V)} (e : H a = some (.dK kvs)) : TyOf K H (.ref a) (.type "dict")
 | dT {a : Addr} {kvs : List (List Key × V)} (e : H a = some (.dT kvs)) : TyOf K H (.ref a) (.type "dict")
 | ins {a C dx : Addr} {fs : List (Str × V)} (e : H a = some (.ins C dx fs)) (cl : Cls K C) (ha : PySem.W.findIn K (.ref C) "__class__" = some (some (.builtin "object.__class__")))
   (hn : PySem.W.specialIn K (.builtin "object.__class__") "__get__" = some (some (.builtin "getset_descriptor.__get__"))) (htk : PySem.W.takesIn K (.builtin "object.__class__") = some true)
   (hm : PySem.W.mroIn K C (.type "object") = some true) : TyOf K H (.ref a) (.ref C)
theorem zat {x : V} {u t : Value} (I : Inv X pins σ H s) (rx : RelV x u) (ty : TyOf X.K H x t) (e : PySem.W.kitOne X.K t c = some b) (h : ∀ tk, Q (.bool b) { s with toks := tk }) :
  wpAny (model X.prog X.w) A (call (.builtin "isinstance") [u, c]) Q E s := by
 cases ty with
 | non => cases (show u = Value.none from rx); exact PySem.W.kia_one PySem.W.kitx_none I.kIn True.intro e (fun z => nomatch z) h
 | bl y => cases (show u = Value.bool y from rx); exact PySem.W.kia_one PySem.W.kitx_bool I.kIn True.intro e (fun z => nomatch z) h
 | int i => obtain ⟨t, q⟩ := (show ∃ t, u = Value.int i t from rx); cases q; exact PySem.W.kia_one PySem.W.kitx_int I.kIn True.intro e (fun z => nomatch z) h
 | str y => obtain ⟨t, q⟩ := (show ∃ t, u = Value.str y t from rx); cases q; exact PySem.W.kia_one PySem.W.kitx_str I.kIn True.intro e (fun z => nomatch z) h
 | flt y => obtain ⟨t, q⟩ := (show ∃ t, u = Value.float y t from rx); cases q; exact PySem.W.kia_one PySem.W.kitx_float I.kIn True.intro e (fun z => nomatch z) h
 | @lst a xs ea =>
  cases (show u = Value.ref a from rx)
  obtain ⟨_, _, n, _, h1⟩ := (show ObjOk X.prog X.w H s.heap a (.lst xs) from I.hok a _ ea)
  exact PySem.W.kia_one PySem.W.kitx_list I.kIn ⟨_, h1, rfl⟩ e (fun z => nomatch z) h
 | @frz a ob xs ea =>
  cases (show u = Value.ref a from rx)
  obtain ⟨_, _, _, n, _, h1⟩ := (show ObjOk X.prog X.w H s.heap a (.frz ob (.lst xs)) from I.hok a _ ea)
  exact PySem.W.kia_one PySem.W.kitx_list I.kIn ⟨_, h1, rfl⟩ e (fun z => nomatch z) h
 | @tup a xs ea =>
  cases (show u = Value.ref a from rx)
  obtain ⟨_, _, _, p⟩ := (show ObjOk X.prog X.w H s.heap a (.tup xs) from I.hok a _ ea)
  obtain ⟨o, h1, h2, _⟩ := p
  exact PySem.W.kia_one PySem.W.kitx_tuple I.kIn ⟨o, h1, h2⟩ e (fun z => nomatch z) h
 | @dK a kvs ea =>
  cases (show u = Value.ref a from rx)
  obtain ⟨_, _, vs, _, p⟩ := (show ObjOk X.prog X.w H s.heap a (.dK kvs) from I.hok a _ ea)
  obtain ⟨o, es, ep, h1, h2, _⟩ := p
  exact PySem.W.kia_one PySem.W.kitx_dict I.kIn ⟨o, h1, h2.1⟩ e (fun z => nomatch z) h
 | @dT a kvs ea =>
  cases (show u = Value.ref a from rx)
  obtain ⟨_, _, xs, _, o, es, ep, h1, h2, _⟩ := (show ObjOk X.prog X.w H s.heap a (.dT kvs) from I.hok a _ ea)
  exact PySem.W.kia_one PySem.W.kitx_dict I.kIn ⟨o, h1, h2.1⟩ e (fun z => nomatch z) h
 | @ins a C dx fs ea cl ha hn htk hm =>
  cases (show u = Value.ref a from rx)
  obtain ⟨mA, O, _⟩ := z3o I.hok ea
  obtain ⟨od, J, _⟩ := O.look
  exact PySem.W.kia_one (PySem.W.kitx_own (cl.get _) cl.hd ha hn htk hm) I.kIn J e (fun z => nomatch z) h
end
end L2
namespace L2
open PySem PySem.Spec PyProof.Rows
structure Room (k : Nat) (A : Around) : Prop where
 hd : A.handled = none
 dp : A.depth + 3 * k + 5 < recursionLimit
 un : A.units + 16 * k + 200 < cLine
theorem Room.mono {j k : Nat} {A : Around} (r : Room k A) (h : j ≤ k) : Room j A := ⟨r.hd, by have := r.dp; omega, by have := r.un; omega⟩
theorem Room.deeper {k : Nat} {A : Around} (r : Room (k + 1) A) (env : Env) : Room k (A.deeper env) :=
 ⟨r.hd, by have := r.dp; show A.depth + 1 + 3 * k + 5 < _; omega, by have := r.un; show A.units + 3 + 16 * k + 200 < _; omega⟩
theorem Room.in1 {k : Nat} {A : Around} (r : Room (k + 1) A) : Room k A.in1 :=
 ⟨r.hd, by have := r.dp; show A.depth + 3 * k + 5 < _; omega, by have := r.un; show A.units + 1 + 16 * k + 200 < _; omega⟩
theorem z9r {A : Around} {C : Addr} {us : List Value} {kw : List (Str × Value)} : (A.under (.builtin "type.__call__" ⟨.ref C :: us, kw⟩)).depth = A.depth + 1 := by
 first | rfl | simp [Around.under, Code.weight, Code.isCreation, Code.isGuard, Code.isCaller, Code.frames, Code.isFrame, guardIds]
theorem z9s {A : Around} {C : Addr} {us : List Value} {kw : List (Str × Value)} : (A.under (.builtin "type.__call__" ⟨.ref C :: us, kw⟩)).units = A.units + 1 := by
 first | rfl | simp [Around.under, Code.cUnits, Code.frames, Code.isFrame]
theorem Room.make {k : Nat} {A : Around} (r : Room (k + 1) A) (C : Addr) (us : List Value) (kw : List (Str × Value)) : Room k (A.under (.builtin "type.__call__" ⟨.ref C :: us, kw⟩)) :=
 ⟨r.hd, by have := r.dp; rw [z9r]; omega, by have := r.un; rw [z9s]; omega⟩
theorem Room.depth {k : Nat} {A : Around} (r : Room k A) : A.depth < recursionLimit := by have := r.dp; omega
theorem Room.units {k : Nat} {A : Around} (r : Room k A) : A.units + 64 < cLine := by have := r.un; omega
theorem Room.units0 {k : Nat} {A : Around} (r : Room k A) : A.units < cLine := by have := r.un; omega
def tNil : TA := fun _ H Q => Q [] H
def zcp (ta : TE) (tr : TA) : TA := fun σ H Q => ta σ H fun x H1 => tr σ H1 fun xs H2 => Q (x :: xs) H2
section
variable {X : Cx} {e : Expr} {es : List Expr} {te : TE} {t : TA} {pos : Pos}
theorem z4 : PA X [] tNil := fun _ _ _ _ H Q I h => Calls.spliced_nil ⟨[], H, I, .nil, h⟩
theorem z0 (ha : PE X e te) (hr : PA X es t) (hs : starEach (e :: es) X.env = (false, eval e X.env) :: starEach es X.env := by rfl) : PA X (e :: es) (zcp te t) := by
 intro pos pins s σ H Q I h
 rw [hs]
 show wpAny _ _ (spliced ((false, eval e X.env) :: backTo pos (starEach es X.env))) _ _ s
 refine Calls.spliced_cons (thn (ha pins s σ H _ I h) fun u s1 ⟨x, H1, I1, r1, q1⟩ => ?_)
 exact thn (hr pos pins s1 σ H1 _ I1 q1) fun us s2 ⟨xs, H2, I2, r2, q2⟩ => ⟨x :: xs, H2, I2, .cons r1 r2, q2⟩
def tTup (t : TA) : TE := fun σ H Q => t σ H fun xs H1 => xs.length ≤ sizeLine ∧ ∀ p, H1 p = none → Q (.ref p) (upd H1 p (.tup xs))
def tLst (t : TA) : TE := fun σ H Q => t σ H fun xs H1 => xs.length ≤ sizeLine ∧ ∀ p, H1 p = none → Q (.ref p) (upd H1 p (.lst xs))
theorem z17 {x1} (h : PA X es t) : PE X (.Tuple es x1 pos) (tTup t) := by
 intro pins s σ H Q I hq
 refine wpAny_Tuple_spliced (thn (h pos pins s σ H _ I hq) fun us s1 ⟨xs, H1, I1, r, z, q⟩ => ⟨by rw [← r.length]; exact z, ?_⟩)
 have hf : H1 s1.heap.objs.size = none := I1.hok.fresh (Nat.le_refl _)
 refine ⟨.ref s1.heap.objs.size, upd H1 s1.heap.objs.size (.tup xs), I1.laid (t' := s1.toks) (fun b u e => Heap.get?_push_of_some _ e) (Nat.le_refl _) ?_, rfl, q _ hf⟩
 exact ⟨z, us, r, ⟨_, Heap.get?_push_size _ rfl, rfl, _, rfl⟩⟩
theorem z1m (h : PA X es t) : PE X (.List es pos) (tLst t) := by
 intro pins s σ H Q I hq
 refine wpAny_List_spliced (thn (h pos pins s σ H _ I hq) fun us s1 ⟨xs, H1, I1, r, z, q⟩ => ⟨by rw [← r.length]; exact z, ?_⟩)
 have hf : H1 s1.heap.objs.size = none := I1.hok.fresh (Nat.le_refl _)
 refine ⟨.ref s1.heap.objs.size, upd H1 s1.heap.objs.size (.lst xs), I1.laid (t' := s1.toks) (fun b u e => Heap.get?_push_of_some _ e) (Nat.le_refl _) ?_, rfl, q _ hf⟩
 exact ⟨z, us, 0, r, Heap.get?_push_size _ rfl⟩
end
abbrev Sp := List V → Hp → VK → XK → Prop
abbrev CXT := List Env → Hp → Shared → XK → Value → Shared → Prop
structure Env0 (P : Program) (w : World) (K : PySem.W.Frag) (mg : Str → Option Value) (base : Heap) (A : Around) (outer : List Env) (s : Shared) (H : Hp) : Prop where
 frames : A.frames = some outer
 mod : Mod K mg base
 bs : ∀ b o, base.get? b = some o → s.heap.get? b = some o ∧ H b = none
 bsz : base.objs.size ≤ s.heap.objs.size
 funs : s.heap.FunFrames base outer
 frf : ∀ b ∈ frs outer, H b = none
 hok : HOk P w H s.heap
 bare : AllBare s.gens
def CE (outer : List Env) (P : Program) (w : World) (H : Hp) (s : Shared) (Q : VK) (u : Value) (s' : Shared) : Prop :=
 ∃ v H', s'.os = s.os ∧ AllBare s'.gens ∧ Un (frs outer) [] H H' s.heap s'.heap ∧ HOk P w H' s'.heap ∧ RelV v u ∧ Q v H'
def CR (CX : CXT) (outer : List Env) (P : Program) (w : World) (H : Hp) (s : Shared) (Q : VK) (E : XK) (r : Result) (s' : Shared) : Prop :=
 match r with
 | .ok (.ret u) => CE outer P w H s Q u s'
 | .ok _ => False
 | .error e => CX outer H s E e s'
structure FnOk (P : Program) (w : World) (K : PySem.W.Frag) (mg : Str → Option Value) (base : Heap) (CX : CXT) (k : Nat) (f : Addr) (fd : FuncData) (ps : List Str) (sp : Sp) : Prop where
 len : ∀ vs H Q E, sp vs H Q E → vs.length = ps.length
 run : ∀ (A : Around) (outer : List Env) (s : Shared) (H : Hp) (args : Args) (us : List Value) (vs : List V) (Q : VK) (E : XK), Room k A → Env0 P w K mg base A outer s H → BindsTo s fd args (ps.zip us) → Vals vs us → sp vs H Q E →
  codeAny (model P w) A (.call (.ref f) args) (CR CX outer P w H s Q E) s
theorem FnOk.mono {P : Program} {w : World} {K : PySem.W.Frag} {mg : Str → Option Value} {base : Heap} {CX : CXT} {j k : Nat} {f : Addr} {fd : FuncData} {ps : List Str} {sp : Sp} (F : FnOk P w K mg base CX j f fd ps sp) (h : j ≤ k) :
  FnOk P w K mg base CX k f fd ps sp := ⟨F.len, fun A outer s H args us vs Q E hr => F.run A outer s H args us vs Q E (hr.mono h)⟩
theorem Env0.make {P : Program} {w : World} {K : PySem.W.Frag} {mg : Str → Option Value} {base : Heap} {A : Around} {outer : List Env} {s : Shared} {H : Hp} (e : Env0 P w K mg base A outer s H) (C : Addr) (us : List Value) (kw : List (Str × Value)) :
  Env0 P w K mg base (A.under (.builtin "type.__call__" ⟨.ref C :: us, kw⟩)) outer s H := ⟨by first | exact e.frames | (simpa [Around.under, Code.envs, Code.isFrame, pushEnvs] using e.frames), e.mod, e.bs, e.bsz, e.funs, e.frf, e.hok, e.bare⟩
theorem Env0.in1 {P : Program} {w : World} {K : PySem.W.Frag} {mg : Str → Option Value} {base : Heap} {A : Around} {outer : List Env} {s : Shared} {H : Hp} (e : Env0 P w K mg base A outer s H) :
  Env0 P w K mg base A.in1 outer s H := ⟨e.frames, e.mod, e.bs, e.bsz, e.funs, e.frf, e.hok, e.bare⟩
section
variable {X : Cx} {pins : List (Addr × Obj)} {σ : St} {H : Hp} {s s' : Shared}
theorem Inv.env0 (I : Inv X pins σ H s) : Env0 X.prog X.w X.K X.mg X.base X.A X.stack s H :=
 ⟨I.ok.frames, I.ok.mod, I.bs, Nat.le_trans I.ok.bsz I.sz, I.stack, I.stkFree, I.hok, I.bare⟩
theorem Inv.after {Q : VK} {u : Value} (I : Inv X pins σ H s) (h : CE X.stack X.prog X.w H s Q u s') : EP X pins σ Q u s' := by
 obtain ⟨v, H', os, bare, un, hok, r, q⟩ := h
 obtain ⟨hh, g, d, t, os'⟩ := s'
 obtain rfl : os' = s.os := os
 exact ⟨v, H', I.call (h' := hh) (g' := g) (d' := d) (t' := t) (ch := []) un hok bare (fun b z => absurd z (by simp)), r, q⟩
end
def z9t (sp : Sp) (dvs : List V) (E : XK) (t : TA) : TE := fun σ H Q => t σ H fun vs H1 => sp (vs ++ dvs) H1 Q E
def z4r (C : Addr) (m : Str) (sp : Sp) (dvs : List V) (E : XK) (ta : TE) (t : TA) : TE := fun σ H Q => ta σ H fun x H1 => ∃ a dx fs, x = .ref a ∧ H1 a = some (.ins C dx fs) ∧ fs.lookup m = none ∧
 t σ H1 fun vs H2 => sp (x :: (vs ++ dvs)) H2 Q E
def z5s (C : Addr) (sp : Sp) (dvs : List V) (E : XK) (t : TA) : TE := fun σ H Q => t σ H fun vs H1 => ∀ x dx, H1 x = none → H1 dx = none → dx ≠ x →
 sp (.ref x :: (vs ++ dvs)) (upd (upd H1 dx (.own x)) x (.ins C dx [])) (fun v H2 => v = .non ∧ Q (.ref x) H2) E
def Binds (K : PySem.W.Frag) (fd : FuncData) (ps : List Str) (ds : List Value) : Prop :=
 ∀ (s : Shared) (us : List Value), K.In s.heap → (us ++ ds).length = ps.length → BindsTo s fd ⟨us, []⟩ (ps.zip (us ++ ds))
theorem Binds.all {K : PySem.W.Frag} {fd : FuncData} {ps : List Str} (h : ∀ us : List Value, us.length = ps.length → bindArgs fd ⟨us, []⟩ = pure (ps.zip us)) : Binds K fd ps [] := fun s us _ hl => by
 rw [List.append_nil] at hl ⊢
 exact .of_eq (h us hl)
def z25 (CX : CXT) (X : Cx) (E : XK) : Prop := ∀ (pins : List (Addr × Obj)) (σ : St) (H : Hp) (s : Shared) (e : Value) (s' : Shared), Inv X pins σ H s → CX X.stack H s E e s' → X.xe e s'
section
variable {X : Cx} {CX : CXT} {k : Nat} {f C : Addr} {fd : FuncData} {ps : List Str} {sp : Sp} {dvs : List V} {ds : List Value} {E : XK} {x m : Str} {p pos apos : Pos} {e o : Expr} {es : List Expr} {ta : TE} {t : TA}
theorem z7n {pins : List (Addr × Obj)} {σ : St} {H : Hp} {s : Shared} {Q : VK} {us : List Value} {vs : List V} (F : FnOk X.prog X.w X.K X.mg X.base CX k f fd ps sp) (hr : Room k X.A) (hb : Binds X.K fd ps ds) (hd : Vals dvs ds) (hx : z25 CX X E)
  (I : Inv X pins σ H s) (r : Vals vs us) (h : sp (vs ++ dvs) H Q E) : wpAny (model X.prog X.w) X.A (call (.ref f) us) (EP X pins σ Q) X.xe s := by
 have r2 : Vals (vs ++ dvs) (us ++ ds) := r.append hd
 have hl : (us ++ ds).length = ps.length := by rw [← r2.length]; exact F.len _ _ _ _ h
 refine wpAny_call (codeAny_mono (F.run X.A X.stack s H ⟨us, []⟩ (us ++ ds) (vs ++ dvs) Q E hr I.env0 (hb s us I.kIn hl) r2 h) fun r s' hq => ?_)
 cases r with
 | error e => exact hx pins σ H s e s' I hq
 | ok fl =>
  cases fl with
  | ret u => exact I.after hq
  | next => exact False.elim hq
  | brk => exact False.elim hq
  | cont => exact False.elim hq
theorem zd6 (F : FnOk X.prog X.w X.K X.mg X.base CX k f fd ps sp) (hr : Room k X.A) (hg : Gl X x) (hm : X.mg x = some (.ref f)) (hk : PySem.W.keepIn X.K (.ref f) = true) (hb : Binds X.K fd ps ds) (hd : Vals dvs ds) (hx : z25 CX X E)
  (ha : PA X (e :: es) t) (hdb : (x == ("__debug__" : Str)) = false := by decide) (he : starEach (e :: es) X.env = (false, eval e X.env) :: starEach es X.env := by rfl) (hpl : (backTo pos (starEach es X.env)).any (·.1) = false := by rfl) :
  PE X (.Call (.Name x p) (e :: es) [] pos) (z9t sp dvs E t) := by
 intro pins s σ H Q I h
 refine wpAny_Call_Name_kw (z30 I hg hm ?_ hdb)
 refine PySem.W.callWith_K (h₀ := X.base) I.ok.mod.kin hk (thn (ha pos pins s σ H _ I h) fun us s1 ⟨vs, H1, I1, r, q⟩ => ⟨I1.kIn, ?_⟩) he hpl
 exact z7n F hr hb hd hx I1 r q
theorem z95 {pl : Sem Bool} (he : PE X o ta) (c : Cls X.K C) (hm : Meth X.K C m f) (F : FnOk X.prog X.w X.K X.mg X.base CX k f fd ps sp) (hr : Room k X.A) (hb : Binds X.K fd ps ds) (hd : Vals dvs ds) (hx : z25 CX X E) (ha : PA X (e :: es) t)
  (hst : starEach (e :: es) X.env = (false, eval e X.env) :: starEach es X.env := by rfl) (hpl : (backTo pos (starEach es X.env)).any (·.1) = false := by rfl)
  (ht : eval (.Call (.Attribute o m apos) (e :: es) [] pos) X.env = (do
   let ov ← eval o X.env
   standAt apos.atName
   let (f, first) ← holding [ov] (getMethod ov m pl)
   callWith pos f first (backTo pos (starEach (e :: es) X.env)) (backToKw pos (keywordEach [] X.env))) := by rfl) :
  PE X (.Call (.Attribute o m apos) (e :: es) [] pos) (z4r C m sp dvs E ta t) := by
 intro pins s σ H Q I h
 refine PySem.W.methodCall_KW (pl := pl) (thn (he pins s σ H _ I h) fun u s1 ⟨x, H1, I1, rx, a, dx, fs, ex, ea, l, q⟩ => ?_) ht
 subst ex
 obtain rfl : u = Value.ref a := rx
 refine z3x I1 ea c hm l ?_
 refine PySem.W.callWith_K (first := [.ref a]) (h₀ := X.base) I.ok.mod.kin hm.kp (thn (ha pos pins s1 σ H1 _ I1 q) fun us s2 ⟨vs, H2, I2, r, q2⟩ => ⟨I2.kIn, ?_⟩) hst hpl
 exact z7n (us := .ref a :: us) (vs := .ref a :: vs) F hr hb hd hx I2 (.cons rfl r) q2
theorem zc0 {pl : Sem Bool} (he : PE X o ta) (c : Cls X.K C) (hm : Meth X.K C m f) (F : FnOk X.prog X.w X.K X.mg X.base CX k f fd ps sp) (hr : Room k X.A) (hb : Binds X.K fd ps ds) (hd : Vals dvs ds) (hx : z25 CX X E)
  (ht : eval (.Call (.Attribute o m apos) [] [] pos) X.env = (do
   let ov ← eval o X.env
   standAt apos.atName
   let (f, first) ← holding [ov] (getMethod ov m pl)
   callWith pos f first (backTo pos (starEach [] X.env)) (backToKw pos (keywordEach [] X.env))) := by rfl) :
  PE X (.Call (.Attribute o m apos) [] [] pos) (z4r C m sp dvs E ta tNil) := by
 intro pins s σ H Q I h
 refine PySem.W.methodCall_KW (pl := pl) (thn (he pins s σ H _ I h) fun u s1 ⟨x, H1, I1, rx, a, dx, fs, ex, ea, l, q⟩ => ?_) ht
 subst ex
 obtain rfl : u = Value.ref a := rx
 refine z3x I1 ea c hm l ?_
 exact PySem.W.callWith_K0 (first := [.ref a]) I1.kIn hm.kp (z7n (us := [.ref a]) (vs := [.ref a]) F hr hb hd hx I1 (.cons rfl .nil) q)
structure Mk (K : PySem.W.Frag) (C f : Addr) : Prop where
 makes : PySem.W.makesIn K C = true
 init : PySem.W.findIn K (.ref C) "__init__" = some (some (.ref f))
 fn : PySem.W.isFn K (.ref f) = true
 kp : PySem.W.keepIn K (.ref C) = true
theorem z7o {pins : List (Addr × Obj)} {σ : St} {H : Hp} {s : Shared} {Q : VK} {us : List Value} {vs : List V} (M : Mk X.K C f) (F : FnOk X.prog X.w X.K X.mg X.base CX k f fd ps sp) (hr : Room (k + 1) X.A) (hb : Binds X.K fd ps ds) (hd : Vals dvs ds)
  (hx : z25 CX X E) (I : Inv X pins σ H s) (r : Vals vs us)
  (h : ∀ x dx, H x = none → H dx = none → dx ≠ x → sp (.ref x :: (vs ++ dvs)) (upd (upd H dx (.own x)) x (.ins C dx [])) (fun v H2 => v = .non ∧ Q (.ref x) H2) E) :
  wpAny (model X.prog X.w) X.A (call (.ref C) us) (EP X pins σ Q) X.xe s := by
 have hq := h (s.heap.objs.size + 1) s.heap.objs.size (I.hok.fresh (Nat.le_succ _)) (I.hok.fresh (Nat.le_refl _)) (Nat.ne_of_lt (Nat.lt_succ_self _))
 have I2 := Inv.made (C := C) I
 have r2 : Vals (V.ref (s.heap.objs.size + 1) :: (vs ++ dvs)) (Value.ref (s.heap.objs.size + 1) :: (us ++ ds)) := .cons rfl (r.append hd)
 have hl : (Value.ref (s.heap.objs.size + 1) :: us ++ ds).length = ps.length := by
  have e := r2.length
  rw [F.len _ _ _ _ hq] at e
  exact e.symm
 refine wpAny_call (zbz (f := f) I.kIn M.makes M.init (beq_iff_eq.mp M.fn) (codeAny_mono (F.run _ X.stack _ _ ⟨Value.ref (s.heap.objs.size + 1) :: us, []⟩ (Value.ref (s.heap.objs.size + 1) :: (us ++ ds)) _ _ E (hr.make C us [])
  (I2.env0.make C us []) (hb _ (Value.ref (s.heap.objs.size + 1) :: us) I2.kIn hl) r2 hq) fun r s' hq' => ?_))
 cases r with
 | error e => exact hx pins σ _ _ e s' I2 hq'
 | ok fl =>
  cases fl with
  | ret u =>
   obtain ⟨v, H', I3, rv, ev, q3⟩ := I2.after hq'
   subst ev
   exact ⟨rv, ⟨V.ref (s.heap.objs.size + 1), H', I3, rfl, q3⟩⟩
  | next => exact False.elim hq'
  | brk => exact False.elim hq'
  | cont => exact False.elim hq'
theorem zd7 (M : Mk X.K C f) (F : FnOk X.prog X.w X.K X.mg X.base CX k f fd ps sp) (hr : Room (k + 1) X.A) (hg : Gl X x) (hm : X.mg x = some (.ref C)) (hb : Binds X.K fd ps ds) (hd : Vals dvs ds) (hx : z25 CX X E)
  (ha : PA X (e :: es) t) (hdb : (x == ("__debug__" : Str)) = false := by decide) (he : starEach (e :: es) X.env = (false, eval e X.env) :: starEach es X.env := by rfl) (hpl : (backTo pos (starEach es X.env)).any (·.1) = false := by rfl) :
  PE X (.Call (.Name x p) (e :: es) [] pos) (z5s C sp dvs E t) := by
 intro pins s σ H Q I h
 refine wpAny_Call_Name_kw (z30 I hg hm ?_ hdb)
 refine PySem.W.callWith_K (h₀ := X.base) I.ok.mod.kin M.kp (thn (ha pos pins s σ H _ I h) fun us s1 ⟨vs, H1, I1, r, q⟩ => ⟨I1.kIn, ?_⟩) he hpl
 exact z7o M F hr hb hd hx I1 r q
theorem zc1 (M : Mk X.K C f) (F : FnOk X.prog X.w X.K X.mg X.base CX k f fd ps sp) (hr : Room (k + 1) X.A) (hg : Gl X x) (hm : X.mg x = some (.ref C)) (hb : Binds X.K fd ps ds) (hd : Vals dvs ds) (hx : z25 CX X E)
  (hdb : (x == ("__debug__" : Str)) = false := by decide) : PE X (.Call (.Name x p) [] [] pos) (z5s C sp dvs E tNil) := by
 intro pins s σ H Q I h
 refine wpAny_Call_Name_kw (z30 I hg hm ?_ hdb)
 exact PySem.W.callWith_K0 I.kIn M.kp (z7o (us := []) M F hr hb hd hx I .nil h)
end
section
variable {X : Cx} {CX : CXT} {k : Nat} {f C : Addr} {fd : FuncData} {ps ks : List Str} {sp : Sp} {E : XK} {x m : Str} {p pos apos kpos : Pos} {e o : Expr} {es : List Expr} {kws : List Keyword} {te ta : TE} {t tk : TA} {nm : Option Str}
structure KBinds (K : PySem.W.Frag) (fd : FuncData) (ps ks : List Str) (g : List Value → List Value → List Value) (gV : List V → List V → List V) : Prop where
 to : ∀ (s : Shared) (us ws : List Value), K.In s.heap → (g us ws).length = ps.length → BindsTo s fd ⟨us, ks.zip ws⟩ (ps.zip (g us ws))
 rel : ∀ {vs : List V} {us : List Value} {zs : List V} {ws : List Value}, Vals vs us → Vals zs ws → Vals (gV vs zs) (g us ws)
variable {g : List Value → List Value → List Value} {gV : List V → List V → List V}
end
structure FnScope (N P : List Str) (sc : Scope) : Prop where
 kind : sc.kind = .function
 co : sc.isCoroutine = false
 gen : sc.isGenerator = false
 nd : N.Nodup
 pre : N.take P.length = P
 par : ∀ x ∈ P, sc.names.lookup x = some .local ∨ sc.names.lookup x = some .cell
 nofree : ∀ y ∈ sc.names, y.2 ≠ .free
theorem z6o {kindOf : Str → Option NameKind} {x : Str} : ∀ {binds : List (Str × Value)} {m : Str → Option Value}, (∀ v, (x, v) ∉ binds) → bindL kindOf binds m x = m x
 | [], _, _ => rfl
 | (n, v) :: r, m, h => by
  unfold bindL
  rw [z6o fun w hw => h w (List.mem_cons_of_mem _ hw)]
  split
  ·have : x ≠ n := by rintro rfl; exact h v List.mem_cons_self
   simp [this]
  ·rfl
theorem z6p {kindOf : Str → Option NameKind} {x : Str} : ∀ {binds : List (Str × Value)} {m : Str → Option Value}, (∀ v, (x, v) ∉ binds) → bindC kindOf binds m x = m x
 | [], _, _ => rfl
 | (n, v) :: r, m, h => by
  unfold bindC
  rw [z6p fun w hw => h w (List.mem_cons_of_mem _ hw)]
  split
  ·rfl
  ·have : x ≠ n := by rintro rfl; exact h v List.mem_cons_self
   simp [this]
theorem z6q {kindOf : Str → Option NameKind} {x : Str} {v : Value} : ∀ {P : List Str} {vs : List Value} {i : Nat} {m : Str → Option Value}, P.Nodup → P[i]? = some x → vs[i]? = some v → kindOf x = some .local →
  bindL kindOf (P.zip vs) m x = some v
 | [], _, _, _, _, h, _, _ => by simp at h
 | _ :: _, [], _, _, _, _, h, _ => by simp at h
 | p :: P, w :: vs, 0, m, nd, h1, h2, hk => by
  simp at h1 h2; subst h1; subst h2
  show bindL kindOf ((p, w) :: P.zip vs) m p = _
  unfold bindL
  rw [z6o fun v hv => (List.nodup_cons.mp nd).1 (List.of_mem_zip hv).1, if_pos hk]
  simp
 | p :: P, w :: vs, i + 1, m, nd, h1, h2, hk => by
  show bindL kindOf ((p, w) :: P.zip vs) m x = _
  unfold bindL
  exact z6q (i := i) (List.nodup_cons.mp nd).2 (by simpa using h1) (by simpa using h2) hk
theorem z6r {kindOf : Str → Option NameKind} {x : Str} {v : Value} : ∀ {P : List Str} {vs : List Value} {i : Nat} {m : Str → Option Value}, P.Nodup → P[i]? = some x → vs[i]? = some v → kindOf x ≠ some .local →
  bindC kindOf (P.zip vs) m x = some v
 | [], _, _, _, _, h, _, _ => by simp at h
 | _ :: _, [], _, _, _, _, h, _ => by simp at h
 | p :: P, w :: vs, 0, m, nd, h1, h2, hk => by
  simp at h1 h2; subst h1; subst h2
  show bindC kindOf ((p, w) :: P.zip vs) m p = _
  unfold bindC
  rw [z6p fun v hv => (List.nodup_cons.mp nd).1 (List.of_mem_zip hv).1, if_neg hk]
  simp
 | p :: P, w :: vs, i + 1, m, nd, h1, h2, hk => by
  show bindC kindOf ((p, w) :: P.zip vs) m x = _
  unfold bindC
  exact z6r (i := i) (List.nodup_cons.mp nd).2 (by simpa using h1) (by simpa using h2) hk
def start (N : List Str) (vs : List V) : St := vs.map some ++ List.replicate (N.length - vs.length) none
def cxOf (CX : CXT) (P : Program) (w : World) (K : PySem.W.Frag) (mg : Str → Option Value) (base : Heap) (N : List Str) (qual : Str) (scope : Scope) (f : Addr) (cd : Value) (A : Around) (outer : List Env) (s : Shared) (H : Hp) (E : XK) : Cx where
 prog := P
 w := w
 K := K
 mg := mg
 base := base
 A := A.deeper (envOfC qual scope s.heap.objs.size f cd)
 N := N
 s₀ := s
 H₀ := H
 env := envOfC qual scope s.heap.objs.size f cd
 outer := outer
 stack := envOfC qual scope s.heap.objs.size f cd :: outer
 ex := []
 calm := true
 fn := fun _ => true
 pn := []
 xe := fun e s' => wpAny (model P w) (A.deeper (envOfC qual scope s.heap.objs.size f cd)) (leaving (envOfC qual scope s.heap.objs.size f cd) e) (fun _ s'' => CX outer H s E e s'') (fun e' s'' => CX outer H s E e' s'') s'
theorem z7p {sc : Scope} {n : Nat} {x : Str} (h : sc.names.lookup x = some .cell) : ∃ c, (cellsFrom n sc.names []).lookup x = some c := by
 have q := PySem.W.cellsFrom_some sc.names n [] (.inl h)
 exact Option.isSome_iff_exists.mp q
theorem zau {CX : CXT} {P : Program} {w : World} {K : PySem.W.Frag} {mg : Str → Option Value} {base : Heap} {N ps : List Str} {qual : Str} {scope : Scope} {f : Addr} {cd : Value} {A : Around} {outer : List Env} {s s1 : Shared} {H : Hp} {E : XK} {us : List Value} {vs : List V}
  (S : FnScope N ps scope) (hd : A.handled = none) (e0 : Env0 P w K mg base A outer s H) (hl : vs.length = ps.length) (r : Vals vs us)
  (x : InCallC s s.heap.objs.size (bindL (envOfC qual scope s.heap.objs.size f cd).kindOf (ps.zip us) fun _ => none) (cellsFrom (s.heap.objs.size + 1) scope.names []) (bindC (envOfC qual scope s.heap.objs.size f cd).kindOf (ps.zip us) fun _ => none) s1) :
  Inv (cxOf CX P w K mg base N qual scope f cd A outer s H E) [] (start N vs) H s1 := by
 have hpl : ps.length ≤ N.length := by have := congrArg List.length S.pre; rw [List.length_take] at this; omega
 obtain ⟨h1, tk, rfl, hk⟩ := x.done
 have noA : ∀ b : Addr, b ∉ (cxOf CX P w K mg base N qual scope f cd A outer s H E).ex := fun b z => absurd (show b ∈ ([] : List Addr) from z) (by simp)
 refine ⟨⟨e0.mod, S.kind, rfl, rfl, Nat.le_refl _, fun y z c h1 h2 => ?_, fun y hy => ?_, fun y c _ h => ?_, fun _ => hd, Around.frames_deeper e0.frames, .inr ⟨rfl, rfl⟩, fun b z => absurd z (noA b), e0.bs, e0.bsz, fun b _ _ => noA b, fun b z => absurd z (noA b), e0.funs, e0.frf⟩,
  rfl, e0.bare, Un.kept hk, ⟨_, x.toInCall.ns, fun i y v h1 h2 h3 => ?_⟩, fun y c h => ⟨_, x.cell y c h⟩, e0.hok.fresh (Nat.le_refl _), fun y c h => ?_, fun p hp => absurd (show p ∈ ([] : List (Addr × Obj)) from hp) (by simp), e0.hok.kept hk, ?_⟩
 ·exact name_of_addr x.apart (PySem.mem_of_lookup h1) (PySem.mem_of_lookup h2)
 ·have hy : scope.names.lookup y = some .cell ∨ scope.names.lookup y = some .free := hy
  rcases hy with hy | hy
  ·exact z7p hy
  ·exact absurd rfl (S.nofree _ (PySem.mem_of_lookup hy))
 ·exact Nat.le_of_lt (x.above y c (PySem.mem_of_lookup h))
 ·have hi : i < vs.length := by
   unfold start at h2
   by_cases hi : i < vs.length
   ·exact hi
   ·rw [List.getElem?_append_right (by simpa using hi)] at h2
    rw [List.getElem?_replicate] at h2
    split at h2 <;> cases h2
  have ha : vs[i]? = some v := by
   unfold start at h2
   rw [List.getElem?_append_left (by simpa using hi), List.getElem?_map] at h2
   cases e : vs[i]? with
   | none => rw [e] at h2; cases h2
   | some a => rw [e] at h2; cases h2; rfl
  obtain ⟨u, hu, rv⟩ := r.get ha
  have hp : ps[i]? = some y := by
   rw [← S.pre, List.getElem?_take_of_lt (by omega)]; exact h1
  have ndP : ps.Nodup := by rw [← S.pre]; exact S.nd.sublist (List.take_sublist _ _)
  refine ⟨u, rv, ?_⟩
  rcases S.par y (List.mem_of_getElem? hp) with k | k
  ·exact .inl ⟨k, z6q ndP hp hu k⟩
  ·obtain ⟨c, e⟩ := z7p (n := s.heap.objs.size + 1) k
   refine .inr ⟨.inl k, c, e, ?_⟩
   have q := x.cell y c e
   rw [z6r ndP hp hu (by show scope.names.lookup y ≠ _; rw [k]; decide)] at q
   exact q
 ·exact e0.hok.fresh (Nat.le_of_lt (x.above y c (PySem.mem_of_lookup h)))
 ·unfold start
  show _ = N.length
  rw [List.length_append, List.length_map, List.length_replicate]
  omega
theorem zcq {CX : CXT} {P : Program} {w : World} {K : PySem.W.Frag} {mg : Str → Option Value} {base : Heap} {k : Nat} {f : Addr} {name qual : Str} {params : Arguments} {body : List Stmt} {scope : Scope} {dV kV doc pm cdv ct oc : Value} {an od : Option Addr}
  {osl : Array (Option Value)} {N ps : List Str} {sp : Sp} (lk : K.lookup f = some ⟨oc, od, .func (PySem.W.fnOf name qual params body scope dV kV doc pm an cdv ct), osl⟩) (hcd : PySem.W.codeIn K cdv qual = true) (S : FnScope N ps scope)
  (len : ∀ vs H Q E, sp vs H Q E → vs.length = ps.length)
  (hbody : ∀ (A : Around) (outer : List Env) (s : Shared) (H : Hp) (vs : List V) (Q : VK) (E : XK), Room k (A.deeper (envOfC qual scope s.heap.objs.size f cdv)) → sp vs H Q E →
   ∃ t, PSs (cxOf CX P w K mg base N qual scope f cdv A outer s H E) body t ∧ t { nx := fun _ H' => Q .non H', rt := Q } (start N vs) H) :
  FnOk P w K mg base CX (k + 1) f (PySem.W.fnOf name qual params body scope dV kV doc pm an cdv ct) ps sp := by
 refine ⟨len, fun A outer s H args us vs Q E hr e0 hb r hsp => ?_⟩
 have hl := len _ _ _ _ hsp
 have KX : K.In s.heap := e0.mod.kin.keeps fun b o e => (e0.bs b o e).1
 have lim : s.heap.NoLimit := e0.mod.nolimit.keeps fun b o e => (e0.bs b o e).1
 have hkind : ∀ y ∈ ps.zip us, scope.names.lookup y.1 = some .local ∨ (scope.names.lookup y.1 = some .cell ∧ ((cellsFrom (s.heap.objs.size + 1) scope.names []).lookup y.1).isSome = true) := fun ⟨n, v⟩ hy => by
  rcases S.par n (List.of_mem_zip hy).1 with q | q
  ·exact .inl q
  ·exact .inr ⟨q, PySem.W.cellsFrom_some _ _ _ (.inl q)⟩
 refine codeAny_call_function hr.depth (KX _ _ lk) rfl S.co S.gen rfl (PySem.W.codeRec_of KX hcd) (hb _ _ _ _ ?_)
 refine wpAny_newFunctionEnv_cells S.kind hkind fun env he s1 x => ?_
 subst he
 refine ⟨lim.keeps x.toInCall.keep, codeAny_func ?_⟩
 obtain ⟨t, ht, hq⟩ := hbody A outer s H vs Q E (hr.deeper _) hsp
 have I : Inv (cxOf CX P w K mg base N qual scope f cdv A outer s H E) [] (start N vs) H s1 := zau S hr.hd e0 hl r x
 refine wpAny_mono (ht [] s1 (start N vs) H _ I hq) (fun fl s' hs => ?_) fun e s' hs => hs
 have fin : ∀ {σ' : St} {H' : Hp} {v : V} {u : Value}, Inv (cxOf CX P w K mg base N qual scope f cdv A outer s H E) [] σ' H' s' → RelV v u → Q v H' → CE outer P w H s Q u s' :=
  fun {σ' H' v u} J rv q => ⟨v, H', J.os, J.bare, J.base, J.hok, rv, q⟩
 cases fl with
 | ret u =>
  obtain ⟨v, σ', H', J, rv, q⟩ := hs
  exact fin J rv q
 | next =>
  obtain ⟨σ', H', J, q⟩ := hs
  exact fin (v := V.non) (u := Value.none) J rfl q
 | brk =>
  obtain ⟨_, _, _, q⟩ := hs
  exact False.elim q
 | cont =>
  obtain ⟨_, _, _, q⟩ := hs
  exact False.elim q
end L2
namespace L2
open PySem PySem.Spec PyProof.Rows
section
variable {X : Cx} {x : Str} {p pos : Pos} {e : Expr} {es : List Expr} {t : TA} {id T : String} {r : List V → Hp → VK → Prop}
def tCB (r : List V → Hp → VK → Prop) (t : TA) : TE := fun σ H Q => t σ H fun vs H1 => r vs H1 Q
theorem z8 (hc : CallR X (.builtin id) r) (hg : Gl X x) (hm : X.mg x = none) (hv : bootBuiltins x = some (.builtin id)) (ha : PA X (e :: es) t) (hn : x ≠ "__name__" := by decide) (hdb : (x == ("__debug__" : Str)) = false := by decide)
  (he : starEach (e :: es) X.env = (false, eval e X.env) :: starEach es X.env := by rfl) (hpl : (backTo pos (starEach es X.env)).any (·.1) = false := by rfl) : PE X (.Call (.Name x p) (e :: es) [] pos) (tCB r t) := by
 intro pins s σ H Q I h
 refine wpAny_Call_Name_kw (z4c I hg hm hv ?_ hn hdb)
 exact PyProof.Rows.callWith_builtin1 (thn (ha pos pins s σ H _ I h) fun us s1 ⟨vs, H1, I1, r1, q1⟩ => hc pins s1 σ H1 vs us Q I1 r1 q1) he hpl
theorem z1p (hc : CallR X (.type T) r) (hg : Gl X x) (hm : X.mg x = none) (hv : bootBuiltins x = some (.type T)) (ha : PA X (e :: es) t) (hn : x ≠ "__name__" := by decide) (hdb : (x == ("__debug__" : Str)) = false := by decide)
  (he : starEach (e :: es) X.env = (false, eval e X.env) :: starEach es X.env := by rfl) (hpl : (backTo pos (starEach es X.env)).any (·.1) = false := by rfl) : PE X (.Call (.Name x p) (e :: es) [] pos) (tCB r t) := by
 intro pins s σ H Q I h
 refine wpAny_Call_Name_kw (z4c I hg hm hv ?_ hn hdb)
 exact PyProof.Rows.callWith_type1 (thn (ha pos pins s σ H _ I h) fun us s1 ⟨vs, H1, I1, r1, q1⟩ => hc pins s1 σ H1 vs us Q I1 r1 q1) he hpl
end
end L2
namespace HT
open PySem PyProof.Rows
section
open PySem.SeqAt
open PySem.AutoSeq1 (wpAny_loadPart')
open PySem.MeetsSeq PySem.MeetsSeq2 PySem.MeetsSeq3
end
section
variable {prog : Program} {w : World} {A : Around} {E : Value → Shared → Prop} {s : Shared}
def sIx (n d : Nat) : Option Int → Nat
 | none => d
 | some v => if v < 0 then (v + (n : Int)).toNat else min v.toNat n
end
end HT
namespace L2
open PySem PySem.Spec PyProof.Rows
abbrev TO := St → Hp → (Option Int → Hp → Prop) → Prop
def PO (X : Cx) (e : Option Expr) (t : TO) : Prop :=
 ∀ (pins : List (Addr × Obj)) (s : Shared) (σ : St) (H : Hp) (Q : Option Int → Hp → Prop), Inv X pins σ H s → t σ H Q →
  wpAny (model X.prog X.w) X.A (evalPart e X.env) (fun u s' => ∃ o H', Inv X pins σ H' s' ∧ IsPart u o ∧ Q o H') X.xe s
def z96 : TO := fun _ H Q => Q none H
def zcr (t : TE) : TO := fun σ H Q => t σ H fun x H1 => ∃ i, x = .int i ∧ Q (some i) H1
section
variable {X : Cx} {e : Expr} {te : TE} {lo hi : Option Expr} {tl th : TO} {pos p2 : Pos}
theorem z97 : PO X none z96 := by
 intro pins s σ H Q I h
 rw [evalPart_none]
 exact wpAny_pure ⟨none, H, I, .none, h⟩
theorem z98 (h : PE X e te) : PO X (some e) (zcr te) := by
 intro pins s σ H Q I hw
 rw [evalPart_some]
 refine thn (h pins s σ H _ I hw) fun u s1 ⟨x, H1, I1, r1, q1⟩ => ?_
 obtain ⟨i, rfl, q⟩ := q1
 obtain ⟨t, rfl⟩ := r1
 exact ⟨some i, H1, I1, .int i t, q⟩
def SlR (X : Cx) (r : V → Option Int → Option Int → Hp → VK → Prop) : Prop :=
 ∀ (pins : List (Addr × Obj)) (s : Shared) (σ : St) (H : Hp) (x : V) (v vl vu : Value) (lo hi : Option Int) (sl : Addr) (Q : VK), Inv X pins σ H s → RelV x v → s.heap.IsSliceOf sl vl vu .none → IsPart vl lo → IsPart vu hi → r x lo hi H Q →
  ∃ T id, typeLookup (.type T) "__getitem__" = pure (some (.builtin id)) ∧ s.TypeIs v T ∧ wpAny (model X.prog X.w) X.A (getItem v (.ref sl)) (EP X pins σ Q) X.xe s
theorem SlR.or {r r' : V → Option Int → Option Int → Hp → VK → Prop} (h : SlR X r) (h' : SlR X r') : SlR X (fun x lo hi H Q => r x lo hi H Q ∨ r' x lo hi H Q) := by
 intro pins s σ H x v vl vu lo hi sl Q I rx hs pl pu q
 rcases q with q | q
 ·exact h pins s σ H x v vl vu lo hi sl Q I rx hs pl pu q
 ·exact h' pins s σ H x v vl vu lo hi sl Q I rx hs pl pu q
def tSl (r : V → Option Int → Option Int → Hp → VK → Prop) (te : TE) (tl th : TO) : TE := fun σ H Q => te σ H fun x H1 => tl σ H1 fun l H2 => th σ H2 fun u H3 => r x l u H3 Q
theorem z7q {r : V → Option Int → Option Int → Hp → VK → Prop} (hr : SlR X r) (he : PE X e te) (hl : PO X lo tl) (hu : PO X hi th) : PE X (.Subscript e (.Slice lo hi none p2) pos) (tSl r te tl th) := by
 intro pins s σ H Q I h
 refine Subscript_ (thn (he pins s σ H _ I h) fun v s1 ⟨x, H1, I1, r1, q1⟩ => ?_)
 refine wpAny_Slice (thn (hl pins s1 σ H1 _ I1 q1) fun vl s2 ⟨l, H2, I2, pl, q2⟩ => thn (hu pins s2 σ H2 _ I2 q2) fun vu s3 ⟨u, H3, I3, pu, q3⟩ => ?_)
 rw [evalPart_none]
 refine wpAny_pure ?_
 have I4 : Inv X pins σ H3 { s3 with heap := s3.heap.push { cls := .type "slice", data := .fields #[vl, vu, .none] } } := I3.kept (t' := s3.toks) fun b ob q => Heap.get?_push_of_some _ q
 obtain ⟨T, id, hT, ht, hg⟩ := hr pins { s3 with heap := s3.heap.push { cls := .type "slice", data := .fields #[vl, vu, .none] } } σ H3 x v vl vu l u s3.heap.objs.size Q I4 r1 (Heap.IsSliceOf.new ..) pl pu q3
 show wpAny (model X.prog X.w) X.A (subscriptTail e (.Slice lo hi none p2) v (.ref s3.heap.objs.size)) (EP X pins σ Q) X.xe { s3 with heap := s3.heap.push { cls := .type "slice", data := .fields #[vl, vu, .none] } }
 exact tail_any (ops := [.ref s3.heap.objs.size, v]) ht hT hg (by with_unfolding_all rfl)
def cutV (xs : List V) (lo hi : Option Int) : List V := (xs.drop (HT.sIx xs.length 0 lo)).take (HT.sIx xs.length xs.length hi - HT.sIx xs.length 0 lo)
theorem z8n (xs : List V) (lo hi : Option Int) : (cutV xs lo hi).length ≤ xs.length := by
 unfold cutV
 rw [List.length_take, List.length_drop]
 omega
end
end L2
namespace L2
open PySem PySem.Spec PyProof.Rows
def ixN (n : Nat) (i : Int) : Option Nat := if 0 ≤ i then (if i < n then some i.toNat else none) else if -(n : Int) ≤ i then some (i + n).toNat else none
def atI {α : Type} (xs : List α) (i : Int) : Option α := (ixN xs.length i).bind fun j => xs[j]?
theorem zd8 {n : Nat} {i : Int} {j : Nat} (h : ixN n i = some j) : seqIndex? i n = some j ∧ j < n ∧ -(n : Int) ≤ i ∧ i < n := by
 unfold ixN at h
 by_cases h0 : 0 ≤ i
 ·rw [if_pos h0] at h
  by_cases h1 : i < n
  ·rw [if_pos h1] at h
   have e : i.toNat = j := Option.some.inj h
   exact ⟨by rw [seqIndex_of h0 h1, e], by omega, by omega, h1⟩
  ·rw [if_neg h1] at h; cases h
 ·rw [if_neg h0] at h
  by_cases h1 : -(n : Int) ≤ i
  ·rw [if_pos h1] at h
   have e : (i + n).toNat = j := Option.some.inj h
   exact ⟨by rw [seqIndex_neg (by omega) h1, e], by omega, h1, by omega⟩
  ·rw [if_neg h1] at h; cases h
theorem z68 {α : Type} {xs : List α} {i : Int} {v : α} (h : atI xs i = some v) : ∃ j, seqIndex? i xs.length = some j ∧ xs[j]? = some v ∧ j < xs.length ∧ -(xs.length : Int) ≤ i ∧ i < xs.length := by
 unfold atI at h
 cases e : ixN xs.length i with
 | none => rw [e] at h; cases h
 | some j =>
  rw [e] at h
  obtain ⟨h1, h2, h3, h4⟩ := zd8 e
  exact ⟨j, h1, h, h2, h3, h4⟩
theorem z23 {α : Type} {xs : List α} {j : Nat} {v : α} (h : xs[j]? = some v) : atI xs (j : Int) = some v := by
 have hj : j < xs.length := (List.getElem?_eq_some_iff.mp h).1
 have e : ixN xs.length (j : Int) = some j := by
  unfold ixN
  rw [if_pos (by omega), if_pos (by omega)]; simp
 unfold atI; rw [e]; exact h
def zd9 (b : Expr) : Prop := ∀ o i, subscripted b false o i = operate [o, i] (getItem o i)
def IxR (X : Cx) (r : R2) : Prop :=
 ∀ (value slice : Expr) (pins : List (Addr × Obj)) (s : Shared) (σ : St) (H : Hp) (x y : V) (v u : Value) (Q : VK), Inv X pins σ H s → RelV x v → RelV y u → r x y H Q →
  subscripted slice false v u = operate [v, u] (getItem v u) → wpAny (model X.prog X.w) X.A (subscriptTail value slice v u) (EP X pins σ Q) X.xe s
def MtR (X : Cx) (id : String) (r : V → List V → Hp → VK → Prop) : Prop :=
 ∀ (pins : List (Addr × Obj)) (s : Shared) (σ : St) (H : Hp) (x : V) (xs : List V) (v : Value) (us : List Value) (Q : VK), Inv X pins σ H s → RelV x v → Vals xs us → r x xs H Q →
  wpAny (model X.prog X.w) X.A (call (.builtin id) (v :: us)) (EP X pins σ Q) X.xe s
section
variable {X : Cx} {a b : Expr} {ta tb : TE} {pos : Pos}
theorem IxR.or {r r' : R2} (h : IxR X r) (h' : IxR X r') : IxR X (fun x y H Q => r x y H Q ∨ r' x y H Q) := by
 intro value slice pins s σ H x y v u Q I rx ry q hs
 rcases q with q | q
 ·exact h value slice pins s σ H x y v u Q I rx ry q hs
 ·exact h' value slice pins s σ H x y v u Q I rx ry q hs
theorem MtR.or {id : String} {r r' : V → List V → Hp → VK → Prop} (h : MtR X id r) (h' : MtR X id r') : MtR X id (fun x xs H Q => r x xs H Q ∨ r' x xs H Q) := by
 intro pins s σ H x xs v us Q I rx rs q
 rcases q with q | q
 ·exact h pins s σ H x xs v us Q I rx rs q
 ·exact h' pins s σ H x xs v us Q I rx rs q
theorem z15 {r : R2} (hr : IxR X r) (ha : PE X a ta) (hb : PE X b tb) (hs : zd9 b) : PE X (.Subscript a b pos) (tOp r ta tb) := by
 intro pins s σ H Q I h
 exact Subscript_ (binT ha hb I h fun v u s2 x y H2 I2 rx ry q => hr a b pins s2 σ H2 x y v u Q I2 rx ry q (hs _ _))
def rIxL (K : PySem.W.Frag) : R2 := fun x y H Q => ∃ p xs i v, x = .ref p ∧ y = .int i ∧ SqL K H p xs ∧ atI xs i = some v ∧ Q v H
def rIxT (K : PySem.W.Frag) : R2 := fun x y H Q => ∃ p xs i v, x = .ref p ∧ y = .int i ∧ SqT K H p xs ∧ atI xs i = some v ∧ Q v H
def rIxS : R2 := fun x y H Q => ∃ z i c, x = .str z ∧ y = .int i ∧ z.length ≤ sizeLine ∧ atI z.cps.toList i = some c ∧ Q (.str ⟨#[c]⟩) H
theorem ix_list : IxR X (rIxL X.K) := by
 intro value slice pins s σ H x y v u Q I rx ry h hs
 obtain ⟨p, xs, i, z, rfl, rfl, hq, he, q⟩ := h
 cases rx
 obtain ⟨t, rfl⟩ := ry
 obtain ⟨its, r, pl, hz⟩ := I.list hq
 obtain ⟨j, h1, h2, h3, h4, h5⟩ := z68 he
 obtain ⟨w, ew, rw'⟩ := r.get h2
 have hl := r.length
 have hn := z4f
 have fin : EP X pins σ Q w s := ⟨z, H, I, rw', q⟩
 by_cases h0 : 0 ≤ i
 ·have hj : i.toNat = j := by
   rw [seqIndex_of h0 h5] at h1
   exact Option.some.inj h1
  exact item_listR pl.isList h0 (by omega) (by rw [hj]; simpa using ew) fin hs
 ·have hj : (i + (its.toArray.size : Int)).toNat = j := by
   rw [seqIndex_neg (by omega) h4] at h1
   rw [List.size_toArray, ← hl]
   exact Option.some.inj h1
  exact subscriptTail_builtinR (x := w) pl.isList.typeIs slot_list_getitem.lookup
   (wpAny_getItem_list_neg (Q := fun r s' => r = w ∧ EP X pins σ Q r s') pl.isList (by omega) (by rw [List.size_toArray] <;> omega) (by omega) (by rw [hj]; simpa using ew) ⟨rfl, fin⟩) hs
theorem ix_tup : IxR X (rIxT X.K) := by
 intro value slice pins s σ H x y v u Q I rx ry h hs
 obtain ⟨p, xs, i, z, rfl, rfl, hq, he, q⟩ := h
 cases rx
 obtain ⟨t, rfl⟩ := ry
 obtain ⟨its, r, pl, hz⟩ := I.tuple hq
 obtain ⟨j, h1, h2, h3, h4, h5⟩ := z68 he
 obtain ⟨w, ew, rw'⟩ := r.get h2
 have hl := r.length
 have hn := z4f
 have fin : EP X pins σ Q w s := ⟨z, H, I, rw', q⟩
 exact subscriptTail_builtinR (x := w) pl.typeIs slot_tuple_getitem.lookup
  (getItem_tuple (j := j) (Q := fun r s' => r = w ∧ EP X pins σ Q r s') pl (by omega) (by omega) (by rw [List.size_toArray, ← hl]; exact h1) (by simpa using ew) ⟨rfl, fin⟩) hs
theorem z5t : IxR X rIxS := by
 intro value slice pins s σ H x y v u Q I rx ry h hs
 obtain ⟨z, i, c, rfl, rfl, hz, he, q⟩ := h
 obtain ⟨t, rfl⟩ := rx
 obtain ⟨t', rfl⟩ := ry
 obtain ⟨j, h1, h2, h3, h4, h5⟩ := z68 he
 have hl : z.cps.toList.length = z.length := by simp [Str.length]
 rw [hl] at h1 h4 h5
 have hn := z4f
 exact tail_any (typeIs_str s z t) slot_str_getitem.lookup (getItem_str (c := c) (by
  have e1 : decide (i < -(2 ^ 63 : Int)) = false := decide_eq_false (by omega)
  have e2 : decide (i ≥ 2 ^ 63) = false := decide_eq_false (by omega)
  rw [e1, e2, Bool.or_false]) (by rw [h1]; simpa using h2) ⟨.str ⟨#[c]⟩, H, I.tok _, ⟨_, rfl⟩, q⟩) hs
def rIx (K : PySem.W.Frag) : R2 := fun x y H Q => rIxL K x y H Q ∨ rIxT K x y H Q ∨ rIxS x y H Q
theorem zdw : IxR X (rIx X.K) := ix_list.or (ix_tup.or z5t)
theorem Inv.lst {pins : List (Addr × Obj)} {σ : St} {H : Hp} {s : Shared} {p : Addr} {xs : List V} (I : Inv X pins σ H s) (h : H p = some (.lst xs)) :
  ∃ (its : List Value) (n : Nat), Vals xs its ∧ s.heap.get? p = some { cls := .type "list", data := .seq its.toArray n } ∧ xs.length ≤ sizeLine := by
 obtain ⟨z, its, n, r, e⟩ := I.hok p _ h
 exact ⟨its, n, r, e, z⟩
theorem z7r (lo hi : Option Int) (n : Nat) : (sliceBounds lo hi none n).1 = ((HT.sIx n 0 lo : Nat) : Int) ∧ (sliceBounds lo hi none n).2.1 = ((HT.sIx n n hi : Nat) : Int) ∧ (sliceBounds lo hi none n).2.2 = 1 := by
 refine ⟨?_, ?_, rfl⟩
 ·cases lo with
  | none => simp [sliceBounds, HT.sIx]
  | some i =>
   simp only [sliceBounds, HT.sIx, Option.getD_none, show (1 : Int) > 0 by decide, if_true]
   by_cases h : i < 0
   ·simp only [h, if_true] <;> omega
   ·simp only [h, if_false] <;> omega
 ·cases hi with
  | none => simp [sliceBounds, HT.sIx]
  | some i =>
   simp only [sliceBounds, HT.sIx, Option.getD_none, show (1 : Int) > 0 by decide, if_true]
   by_cases h : i < 0
   ·simp only [h, if_true] <;> omega
   ·simp only [h, if_false] <;> omega
theorem z71 (its : List Value) (lo hi : Option Int) : slicePick its.toArray lo hi none = ((its.drop (HT.sIx its.length 0 lo)).take (HT.sIx its.length its.length hi - HT.sIx its.length 0 lo)).toArray := by
 obtain ⟨h1, h2, h3⟩ := z7r lo hi its.toArray.size
 unfold slicePick
 rw [h1, h2, h3]
 simp only [sliceRange_one, pick_run, List.size_toArray] <;> rfl
def rSlL (K : PySem.W.Frag) : V → Option Int → Option Int → Hp → VK → Prop := fun x lo hi H Q => ∃ a xs, x = .ref a ∧ SqL K H a xs ∧ ∀ p, H p = none → Q (.ref p) (upd H p (.lst (cutV xs lo hi)))
theorem zda : SlR X (rSlL X.K) := by
 intro pins s σ H x v vl vu lo hi sl Q I rx hs pl pu h
 obtain ⟨a, xs, rfl, hx, q⟩ := h
 cases rx
 obtain ⟨its, r, ht, hz⟩ := I.list hx
 have hlen := r.length
 refine ⟨"list", _, slot_list_getitem.lookup, ht.isList.typeIs, ?_⟩
 refine wpAny_getItem_list_slice ht.isList hs pl pu .none (by simp) ?_ (by rw [List.size_toArray] <;> omega)
 rw [z71, ← hlen]
 refine ⟨.ref s.heap.objs.size, _, I.laid (t' := s.toks) (o := .lst (cutV xs lo hi)) (fun b ob q => Heap.get?_push_of_some _ q) (Nat.le_refl _) ?_, rfl, q _ (I.hok.fresh (Nat.le_refl _))⟩
 exact ⟨Nat.le_trans (z8n xs lo hi) hz, _, 0, (r.drop (HT.sIx xs.length 0 lo)).take (HT.sIx xs.length xs.length hi - HT.sIx xs.length 0 lo), Heap.get?_push_size _ rfl⟩
def z2q : V → Bool
 | .non => true
 | .bl _ => true
 | .int _ => true
 | .str _ => true
 | _ => false
def eqV : V → V → Bool
 | .non, .non => true
 | .bl a, .bl b => a == b
 | .bl a, .int b => (if a then 1 else 0) == b
 | .int a, .bl b => a == (if b then 1 else 0)
 | .int a, .int b => a == b
 | .str a, .str b => a == b
 | _, _ => false
theorem zdx {A : Around} {s : Shared} {y x : V} {u v : Value} (ry : RelV y u) (rx : RelV x v) (fy : z2q y = true) (fx : z2q x = true) : SeqAt.EqAt A s u v (eqV y x) := by
 cases y with
 | non =>
  cases ry
  cases x with
  | non => cases rx; exact SeqAt.EqAt.same _
  | bl b => cases rx; exact SeqAt.EqAt.none_bool b
  | int b => obtain ⟨t, rfl⟩ := rx; exact SeqAt.EqAt.none_int b t
  | str b => obtain ⟨t, rfl⟩ := rx; exact SeqAt.EqAt.none_str b t
  | _ => exact absurd (show false = true from fx) Bool.false_ne_true
 | bl a =>
  cases ry
  cases x with
  | non => cases rx; exact SeqAt.EqAt.bool_none a
  | bl b => cases rx; exact SeqAt.EqAt.bool_bool a b
  | int b => obtain ⟨t, rfl⟩ := rx; exact SeqAt.EqAt.bool_int a b t
  | str b => obtain ⟨t, rfl⟩ := rx; exact SeqAt.EqAt.bool_str a b t
  | _ => exact absurd (show false = true from fx) Bool.false_ne_true
 | int a =>
  obtain ⟨t', rfl⟩ := ry
  cases x with
  | non => cases rx; exact SeqAt.EqAt.int_none a t'
  | bl b => cases rx; exact SeqAt.EqAt.int_bool a t' b
  | int b => obtain ⟨t, rfl⟩ := rx; exact SeqAt.EqAt.int_int a t' b t
  | str b => obtain ⟨t, rfl⟩ := rx; exact SeqAt.EqAt.int_str a t' b t
  | _ => exact absurd (show false = true from fx) Bool.false_ne_true
 | str a =>
  obtain ⟨t', rfl⟩ := ry
  cases x with
  | non => cases rx; exact SeqAt.EqAt.str_none a t'
  | bl b => cases rx; exact SeqAt.EqAt.str_bool a t' b
  | int b => obtain ⟨t, rfl⟩ := rx; exact SeqAt.EqAt.str_int a t' b t
  | str b => obtain ⟨t, rfl⟩ := rx; exact SeqAt.EqAt.str_str a t' b t
  | _ => exact absurd (show false = true from fx) Bool.false_ne_true
 | _ => exact absurd (show false = true from fy) Bool.false_ne_true
def eqU (x : V) (u : Value) : Bool := match u with
 | .none => eqV .non x
 | .bool b => eqV (.bl b) x
 | .int i _ => eqV (.int i) x
 | .str z _ => eqV (.str z) x
 | _ => false
theorem zav {x y : V} {u : Value} (r : RelV y u) (f : z2q y = true) : eqU x u = eqV y x := by
 cases y with
 | non => cases r; rfl
 | bl b => cases r; rfl
 | int i => obtain ⟨t, rfl⟩ := r; rfl
 | str z => obtain ⟨t, rfl⟩ := r; rfl
 | _ => exact absurd (show false = true from f) Bool.false_ne_true
theorem z3p {x : V} : ∀ {xs : List V} {us : List Value}, Vals xs us → xs.all z2q = true → us.any (eqU x) = xs.any fun y => eqV y x
 | _, _, .nil, _ => rfl
 | y :: xs, u :: us, .cons r t, f => by
  rw [List.all_cons, Bool.and_eq_true] at f
  rw [List.any_cons, List.any_cons, zav r f.1, z3p t f.2]
theorem z34 {A : Around} {s : Shared} {x : V} {v : Value} (rx : RelV x v) (fx : z2q x = true) : ∀ {xs : List V} {us : List Value}, Vals xs us → xs.all z2q = true → ∀ u ∈ us, SeqAt.EqAt A s u v (eqU x u)
 | _, _, .nil, _ => fun u hu => by cases hu
 | y :: xs, u :: us, .cons r t, f => fun u' hu => by
  rw [List.all_cons, Bool.and_eq_true] at f
  rcases List.mem_cons.mp hu with rfl | hu
  ·rw [zav r f.1]; exact zdx r rx f.1 fx
  ·exact z34 rx fx t f.2 u' hu
def inV (x : V) (xs : List V) : Bool := xs.any fun y => eqV y x
def rIn (K : PySem.W.Frag) (neg : Bool) : R2 := fun x y H Q => ∃ p xs, y = .ref p ∧ (SqL K H p xs ∨ SqT K H p xs) ∧ z2q x = true ∧ xs.all z2q = true ∧ Q (.bl (if neg then !inV x xs else inV x xs)) H
theorem zaw : OpR X (compareOp .In) (rIn X.K false) := by
 intro pins s σ H x y v u Q I rx ry h
 obtain ⟨p, xs, rfl, hq, fx, fs, q⟩ := h
 cases ry
 rcases hq with hq | hq
 ·obtain ⟨its, r, pl, hz⟩ := I.list hq
  refine SeqAt.in_listAt (eqU x) pl.isList (fun w hw => z34 rx fx r fs w (by simpa using hw)) ⟨.bl _, H, I, rfl, ?_⟩
  rw [show its.toArray.any (eqU x) = its.any (eqU x) by simp, z3p r fs]
  exact q
 ·obtain ⟨its, r, pl, hz⟩ := I.tuple hq
  refine SeqAt.in_tupleAt (eqU x) pl (fun w hw => z34 rx fx r fs w (by simpa using hw)) ⟨.bl _, H, I, rfl, ?_⟩
  rw [show its.toArray.any (eqU x) = its.any (eqU x) by simp, z3p r fs]
  exact q
theorem z7s : OpR X (compareOp .NotIn) (rIn X.K true) := by
 intro pins s σ H x y v u Q I rx ry h
 obtain ⟨p, xs, rfl, hq, fx, fs, q⟩ := h
 cases ry
 rcases hq with hq | hq
 ·obtain ⟨its, r, pl, hz⟩ := I.list hq
  refine SeqAt.notIn_listAt (eqU x) pl.isList (fun w hw => z34 rx fx r fs w (by simpa using hw)) ⟨.bl _, H, I, rfl, ?_⟩
  rw [show its.toArray.any (eqU x) = its.any (eqU x) by simp, z3p r fs]
  exact q
 ·obtain ⟨its, r, pl, hz⟩ := I.tuple hq
  refine SeqAt.notIn_tupleAt (eqU x) pl (fun w hw => z34 rx fx r fs w (by simpa using hw)) ⟨.bl _, H, I, rfl, ?_⟩
  rw [show its.toArray.any (eqU x) = its.any (eqU x) by simp, z3p r fs]
  exact q
theorem zh : CallR X (.builtin "len") (fun xs H Q => ∃ p ys, xs = [.ref p] ∧ (SqL X.K H p ys ∨ SqT X.K H p ys) ∧ Q (.int ys.length) H) := by
 intro pins s σ H xs us Q I r h
 obtain ⟨p, ys, rfl, hq, q⟩ := h
 obtain ⟨u, rfl, rx⟩ := z2p r
 cases rx
 have hn := z4f
 rcases hq with hq | hq
 ·obtain ⟨its, r', pl, hz⟩ := I.list hq
  have hlen := r'.length
  exact Calls.call_len_list pl.isList (by simp only [List.size_toArray] <;> omega) ⟨.int ys.length, H, I.tok _, ⟨s.toks + 1, by rw [List.size_toArray, hlen]⟩, q⟩
 ·obtain ⟨its, r', pl, hz⟩ := I.tuple hq
  have hlen := r'.length
  exact len_tuple pl (by simp only [List.size_toArray] <;> omega) ⟨.int ys.length, H, I.tok _, ⟨s.toks + 1, by rw [List.size_toArray, hlen]⟩, q⟩
theorem z7t : CallR X (.builtin "len") (fun xs H Q => ∃ z, xs = [.str z] ∧ z.length ≤ sizeLine ∧ Q (.int z.length) H) := by
 intro pins s σ H xs us Q I r h
 obtain ⟨z, rfl, hz, q⟩ := h
 obtain ⟨u, rfl, t, rfl⟩ := z2p r
 have hn := z4f
 exact len_str (by omega) ⟨.int z.length, H, I.tok _, ⟨_, rfl⟩, q⟩
theorem CallR.or {f : Value} {r r' : List V → Hp → VK → Prop} (h : CallR X f r) (h' : CallR X f r') : CallR X f (fun xs H Q => r xs H Q ∨ r' xs H Q) := by
 intro pins s σ H xs us Q I rs q
 rcases q with q | q
 ·exact h pins s σ H xs us Q I rs q
 ·exact h' pins s σ H xs us Q I rs q
theorem z1v : CallR X (.type "list") (fun xs H Q => ∃ p ys, xs = [.ref p] ∧ (SqL X.K H p ys ∨ SqT X.K H p ys) ∧ ∀ l, H l = none → Q (.ref l) (upd H l (.lst ys))) := by
 intro pins s σ H xs us Q I r h
 obtain ⟨p, ys, rfl, hq, q⟩ := h
 obtain ⟨u, rfl, rx⟩ := z2p r
 cases rx
 have fin : ∀ (its : List Value), Vals ys its → ys.length ≤ sizeLine → ∀ (h' : Heap) (c' : Nat), (∀ b o', s.heap.get? b = some o' → h'.get? b = some o') →
   h'.get? s.heap.objs.size = some { cls := .type "list", dict := none, data := .seq its.toArray c', slots := #[] } → EP X pins σ Q (.ref s.heap.objs.size) { s with heap := h' } := fun its r' hz h' c' kp e =>
  ⟨.ref s.heap.objs.size, _, I.laid (t' := s.toks) kp (Nat.le_refl _) (show ObjOk X.prog X.w _ h' _ (.lst ys) from ⟨hz, its, c', r', e⟩), rfl, q _ (I.hok.fresh (Nat.le_refl _))⟩
 rcases hq with hq | hq
 ·obtain ⟨its, r', pl, hz⟩ := I.list hq
  have hlen := r'.length
  obtain ⟨o, ho, hc, n, hd⟩ := pl.isList
  exact call_list_seq p (.inl rfl) ho hc hd (fun h' c' kp e => fin its r' hz h' c' kp e) (by simp only [List.size_toArray] <;> omega)
 ·obtain ⟨its, r', pl, hz⟩ := I.tuple hq
  have hlen := r'.length
  obtain ⟨o, ho, hc, n, hd⟩ := pl
  exact call_list_seq p (.inr rfl) ho hc hd (fun h' c' kp e => fin its r' hz h' c' kp e) (by simp only [List.size_toArray] <;> omega)
def tyV (K : PySem.W.Frag) (T : String) (x : V) (H : Hp) : Prop := match x with
 | .str _ => T = "str"
 | .int _ => T = "int"
 | .ref p => (T = "list" ∧ ∃ xs, SqL K H p xs) ∨ (T = "tuple" ∧ ∃ o, K.lookup p = some o ∧ o.cls = .type "tuple" ∧ o.dict = none) ∨
   (T = "dict" ∧ ((∃ kvs, H p = some (.dK kvs)) ∨ ∃ kvs, H p = some (.dT kvs))) ∨ (T = "set" ∧ ∃ S n, H p = some (.set S n))
 | _ => False
theorem zdy {pins : List (Addr × Obj)} {σ : St} {H : Hp} {s : Shared} {T : String} {x : V} {v : Value} (I : Inv X pins σ H s) (r : RelV x v) (ty : tyV X.K T x H) :
  s.TypeIs v T ∧ ∀ a, v = .ref a → ∃ ob, s.heap.get? a = some ob ∧ ob.dict = none := by
 cases x with
 | str z =>
  obtain ⟨t, rfl⟩ := r
  cases (show T = "str" from ty)
  exact ⟨typeIs_str s z t, fun _ e => nomatch e⟩
 | int i =>
  obtain ⟨t, rfl⟩ := r
  cases (show T = "int" from ty)
  exact ⟨typeIs_int s i t, fun _ e => nomatch e⟩
 | ref p =>
  cases r
  rcases ty with ⟨rfl, xs, hq⟩ | ⟨rfl, o, hk, hc, hd⟩ | ⟨rfl, hk⟩ | ⟨rfl, S, n, hk⟩
  ·obtain ⟨its, _, pl, _⟩ := I.list hq
   refine ⟨pl.isList.typeIs, fun a e => ?_⟩
   cases e
   obtain ⟨o, n, e, c, hd, _⟩ := pl
   exact ⟨o, e, hd⟩
  ·refine ⟨⟨o, I.kIn p o hk, hc⟩, fun a e => ?_⟩
   cases e
   exact ⟨o, I.kIn _ o hk, hd⟩
  ·have z : ∃ o, s.heap.get? p = some o ∧ o.ExactDict := by
    rcases hk with ⟨kvs, hk⟩ | ⟨kvs, hk⟩
    ·obtain ⟨_, _, _, _, o, _, _, e, ex, _⟩ := I.hok p _ hk
     exact ⟨o, e, ex⟩
    ·obtain ⟨_, _, _, _, o, _, _, e, ex, _⟩ := I.hok p _ hk
     exact ⟨o, e, ex⟩
   obtain ⟨o, e, ex⟩ := z
   refine ⟨⟨o, e, ex.1⟩, fun a e2 => ?_⟩
   cases e2
   exact ⟨o, e, ex.2.1⟩
  ·obtain ⟨o, _, _, _, e, ex, _⟩ := I.hok p _ hk
   refine ⟨⟨o, e, ex.1⟩, fun a e2 => ?_⟩
   cases e2
   exact ⟨o, e, ex.2.1⟩
 | _ => exact False.elim ty
def tBM (K : PySem.W.Frag) (T : String) (r : V → List V → Hp → VK → Prop) (to : TE) (t : TA) : TE := fun σ H Q => to σ H fun x H1 => tyV K T x H1 ∧ t σ H1 fun xs H2 => r x xs H2 Q
variable {o e : Expr} {es : List Expr} {to : TE} {t : TA} {name : Str} {apos cpos : Pos} {T id : String} {r : V → List V → Hp → VK → Prop}
theorem z4s (pa : PlainAttrs T) (slot : Slot T name id) (hty : typeOf (.builtin id) = pure (.type "method_descriptor")) (hm : MtR X id r) (ho : PE X o to) (ha : PA X (e :: es) t)
  (hbase : attributeBase o name X.env (eval o X.env) = eval o X.env := by rfl)
  (hfew : ((backTo cpos (starEach (e :: es) X.env)).all (fun x => !x.1) && (backToKw cpos (keywordEach [] X.env)).all (fun x => x.1.isSome)
   && decide ((e :: es).length + ([] : List Keyword).length + (if ([] : List Keyword).isEmpty then 0 else 1) < 30)) = true := by rfl)
  (hline : (apos.endLine == cpos.line) = true := by rfl) (hs : starEach (e :: es) X.env = (false, eval e X.env) :: starEach es X.env := by rfl) (hplain : (backTo cpos (starEach es X.env)).any (·.1) = false := by rfl) :
  PE X (.Call (.Attribute o name apos) (e :: es) [] cpos) (tBM X.K T r to t) := by
 intro pins s σ H Q I h
 refine wpAny_Call_method_late hbase hfew hline rfl (thn (ho pins s σ H _ I h) fun v s1 ⟨x, H1, I1, r1, ty, q1⟩ => ?_)
 obtain ⟨h1, h2⟩ := zdy I1 r1 ty
 refine ⟨T, id, pa, slot, hty, h1, h2, ?_⟩
 have hA := ha cpos pins s1 σ H1 _ I1 q1
 rw [hs] at hA ⊢
 refine Calls.callWith_builtin (by show (false || (backTo cpos (starEach es X.env)).any (·.1)) = false; rw [hplain] <;> rfl) (Calls.evalArgs_plain ?_)
 exact thn hA fun us s2 ⟨vs, H2, I2, r2, q2⟩ => hm pins s2 σ H2 x vs v us Q I2 r1 r2 q2
end
end L2
namespace L2
open PySem PySem.Spec PyProof.Rows
def MtM (X : Cx) (id : String) (r : V → List V → Hp → VK → Prop) : Prop :=
 ∀ (pins : List (Addr × Obj)) (s : Shared) (σ : St) (H : Hp) (x : V) (xs : List V) (v : Value) (us : List Value) (Q : VK), Inv X pins σ H s → RelV x v → Vals xs us → r x xs H Q →
  wpAny (model X.prog X.w) X.A (call (.builtin id) (v :: us)) (EP X pins σ Q) X.xe s
theorem Vals.one : ∀ {x : V} {us : List Value}, Vals [x] us → ∃ u, us = [u] ∧ RelV x u
 | _, _, .cons r .nil => ⟨_, rfl, r⟩
theorem Vals.two : ∀ {x y : V} {us : List Value}, Vals [x, y] us → ∃ u v, us = [u, v] ∧ RelV x u ∧ RelV y v
 | _, _, _, .cons r (.cons q .nil) => ⟨_, _, rfl, r, q⟩
theorem Vals.zero : ∀ {us : List Value}, Vals [] us → us = []
 | _, .nil => rfl
section
variable {X : Cx} {pins : List (Addr × Obj)} {σ : St} {H : Hp} {s : Shared} {l b : Addr} {xs ys zs : List V}
theorem Inv.lset {its its' : List Value} {n : Nat} {f : Array Value → Array Value} {t' : Nat} (I : Inv X pins σ H s) (hH : H l = some (.lst xs))
  (e : s.heap.get? l = some { cls := .type "list", data := .seq its.toArray n }) (hf : f its.toArray = its'.toArray) (hv : Vals ys its') (hz : ys.length ≤ sizeLine) :
  Inv X pins σ (upd H l (.lst ys)) { s with heap := s.heap.update l (Obj.mapSeq f), toks := t' } := by
 have q := PySem.IsL.update e f
 rw [hf] at q
 refine I.write (x := l) (e := l) (by rw [hH]; exact trivial) (.inl rfl) (fun b' u hb hu => (Heap.get?_update_other s.heap (Obj.mapSeq f) (Ne.symm hb)).trans hu) ⟨_, q⟩ ?_
 exact ⟨hz, its', _, hv, q⟩
theorem Inv.lnew {its : List Value} {t' : Nat} (I : Inv X pins σ H s) (hv : Vals ys its) (hz : ys.length ≤ sizeLine) :
  Inv X pins σ (upd H s.heap.objs.size (.lst ys)) { s with heap := s.heap.push { cls := .type "list", data := .seq its.toArray }, toks := t' } :=
 I.laid (fun _ _ q => Heap.get?_push_of_some _ q) (Nat.le_refl _) ⟨hz, its, 0, hv, Heap.get?_push_size _ rfl⟩
theorem Inv.fresh (I : Inv X pins σ H s) : H s.heap.objs.size = none := I.hok.fresh (Nat.le_refl _)
theorem Inv.lstM (I : Inv X pins σ H s) (hH : H l = some (.lst xs)) : xs.length ≤ sizeLine ∧ ∃ (its : List Value) (n : Nat), Vals xs its ∧ xs.length = its.length ∧ s.heap.get? l = some { cls := .type "list", data := .seq its.toArray n } := by
 obtain ⟨z, its, n, r, e⟩ := I.hok l _ hH
 exact ⟨z, its, n, r, r.length, e⟩
end
section
variable {X : Cx}
def zdb : V → List V → Hp → VK → Prop := fun x vs H Q => ∃ l xs y, x = .ref l ∧ vs = [y] ∧ H l = some (.lst xs) ∧ xs.length < sizeLine ∧ Q .non (upd H l (.lst (xs ++ [y])))
theorem z2v : MtM X "list.append" zdb := by
 intro pins s σ H x vs v us Q I rx rv h
 obtain ⟨l, xs, y, rfl, rfl, hH, hz, q⟩ := h
 cases rx
 obtain ⟨u, rfl, ru⟩ := rv.one
 obtain ⟨z, its, n, r, hl, e⟩ := I.lstM hH
 refine call_meets F.slot_list_append ⟨_, e, rfl⟩ F.entry_list_append (F.args_list_append_2 _ _) (PySem.list_append l its.toArray n u (by rw [List.size_toArray]; omega)) ⟨e, ?_⟩
 refine ⟨.non, _, I.lset (its' := its ++ [u]) hH e (by simp) (r.append (.cons ru .nil)) ?_, rfl, q⟩
 rw [List.length_append, List.length_singleton]
 omega
def rCat : R2 := fun x y H Q => ∃ l b xs zs, x = .ref l ∧ y = .ref b ∧ H l = some (.lst xs) ∧ H b = some (.lst zs) ∧ xs.length + zs.length ≤ sizeLine ∧ ∀ p, H p = none → Q (.ref p) (upd H p (.lst (xs ++ zs)))
theorem zdz : OpR X (binaryOp .Add) rCat := by
 intro pins s σ H x y v u Q I rx ry h
 obtain ⟨l, b, xs, zs, rfl, rfl, hH, hB, hz, q⟩ := h
 cases rx
 cases ry
 obtain ⟨z, its, n, r, hl, e⟩ := I.lstM hH
 obtain ⟨z2, its2, n2, r2, hl2, e2⟩ := I.lstM hB
 refine PySem.P.add_list e e2 ?_ (by rw [List.size_toArray, List.size_toArray]; omega)
 have ea : its.toArray ++ its2.toArray = (its ++ its2).toArray := by simp
 rw [ea]
 exact ⟨.ref _, _, I.lnew (t' := s.toks) (r.append r2) (by rw [List.length_append]; omega), rfl, q _ I.fresh⟩
end
section
variable {prog : Program} {w : World} {A : Around} {E : Value → Shared → Prop} {s : Shared}
end
section
variable {X : Cx}
end
end L2
namespace Att
open PySem PySem.W PySem.Calls PyProof.Rows
theorem z5u {P : Params} {h : Heap} : ∀ (ns : List Int) (vs : List Value), WellAll P h vs (ns.map WData.int) → IntsAre vs ns := by
 intro ns
 induction ns with
 | nil =>
  intro vs w
  rw [List.map_nil] at w
  cases w
  exact .nil
 | cons n ns ih =>
  intro vs w
  rw [List.map_cons] at w
  cases w with
  | cons a b =>
   cases a
   exact .cons _ _ (ih _ b)
theorem zax {l : OpenLaw} {n : Nat} (hn : l.most = some n) {P : Params} {h : Heap} {args : List WData} {vals : List Value}
  (hpre : l.row.toRowW.claim.pre args = true) (hwl : WellAll P h vals args) :
  ∃ a vs ns, vals = [Value.ref a] ∧ args = [WData.list (ns.map WData.int)] ∧ h.get? a = some { cls := .type "list", data := .seq vs.toArray } ∧ IntsAre vs ns ∧ ns.length ≤ n := by
 have hsh : WShape.hasAll [] args [.list .int] = true := (pre_splitW hpre).1
 have hc : l.pre.holds [] { args := args } = true := (pre_splitW hpre).2
 obtain ⟨d, r, rfl, h1, h2⟩ := hasAllW_cons hsh
 obtain rfl := hasAllW_nil h2
 obtain ⟨xs, rfl, h3⟩ := hasW_list h1
 obtain ⟨ns, rfl⟩ := items_int h3
 have hlen : ns.length ≤ n := by
  unfold OpenLaw.pre at hc
  have h4 : (WTm.not (.lt (.lit (.int (n : Int))) (.len (.arg 0)))).holds [] { args := [.list (ns.map .int)] } = true := by
   have h4 := (holds_andW hc).1
   rw [hn] at h4
   exact h4
  have h5 := condW_of h4 (w_not (w_lt w_lit (w_len_list (w_arg rfl))))
  rw [List.length_map] at h5
  refine Nat.le_of_not_lt fun q => ?_
  have q' : (n : Int) < ((ns.length : Nat) : Int) := by omega
  first
   | (rw [decide_eq_true q'] at h5; exact absurd h5 (by decide))
   | (simp at h5; omega)
 cases hwl with
 | cons w1 w2 =>
  cases w2
  cases w1 with
  | list ho hall => exact ⟨_, _, ns, rfl, rfl, ho, z5u ns _ hall, hlen⟩
theorem zay (l : OpenLaw) (args : List WData) : l.row.toRowW.claim.post args (.bool true) args = true :=
 postW_of (r := l.row.toRowW) (X := (true == true))
  (show WShape.has [] (.bool true) .bool = true by first | rfl | decide | simp [WShape.has, WShape.arms, WShape.armsAll])
  (show (WTm.eq .res (.lit (.bool true))).value [] { args := args, res := some (.bool true), after := args } = some (.bool (true == true)) from w_eq_bool (w_res rfl) w_lit) rfl
theorem attach_call {l : OpenLaw} {n : Nat} {q : Program} {loose : List Str} {XP : (Str → Option Value) → Heap → Prop} {YP : World → Heap → Prop} {d : DefRec}
  (hn : l.most = some n) (hdf : d.params.defaults = [])
  (call : ∀ (w : World) (s₀ s₁ : Shared) (mg mb : Str → Option Value) (fa : Addr) (o : Obj) (pm cd doc : Value) (a : Addr) (vs : List Value) (ns : List Int),
   Ground q loose [] XP w s₀ mg mb s₁.heap → YP w s₁.heap →
   s₁.heap.get? fa = some o → o.data = .func (docDef d.name d.params d.body d.scope pm cd doc) → s₁.heap.CodeRec cd d.name → mg d.name = some (.ref fa) →
   s₁.heap.get? a = some { cls := .type "list", data := .seq vs.toArray } → IntsAre vs ns → ns.length ≤ n → s₁.gens = #[] →
   codeAny (model l.prog w) callerA (.call (.ref fa) ⟨[.ref a], []⟩) (fun r s' => r = .ok (.ret (.bool true)) ∧ OldK s₁.heap s'.heap ∧ s'.os = s₁.os ∧ AllBare s'.gens) s₁) :
  WalkO q loose XP YP l.row.toRowW d [] (fun f vs => PySem.call f vs) := by
 intro w s₀ s₁ mg mb G Y fa o pm cd doc dV kV ho hd hcd hD hmg hg args vals as hpre hlay hrd hwl hlo
 obtain rfl : dV = .none := Dflts.none hD hdf
 obtain rfl : kV = .none := Dflts.noKw hD
 obtain ⟨a, vs, ns, rfl, rfl, hobj, hints, hlen⟩ := zax hn hpre hwl
 refine enter_call (codeAny_mono (call w s₀ s₁ mg mb fa o pm cd doc a vs ns G Y ho (fd_plain hd) hcd hmg hobj hints hlen hg) fun r s' hq => ?_)
 obtain ⟨rfl, h2, h3, h4⟩ := hq
 exact ⟨.inl ⟨.bool true, .bool true, [], rfl, fun _ => rfl, .bool true, zay l _, fun _ => ⟨List.Pairwise.nil, fun _ hm => (nomatch hm)⟩⟩, h2, h3, h4⟩
section
variable {prog : Program} {w : World} {A : Around} {E : Value → Shared → Prop} {s : Shared} {K : Frag}
def zem (h : Heap) (L d : Addr) : List (Addr × Obj) := (List.range h.objs.size).filterMap fun a => if a = L ∨ a = d then none else (h.get? a).map fun o => (a, o)
end
end Att
namespace L2
open PySem PySem.Spec PyProof.Rows
theorem z6s : ∀ {vs : List Value} {ns : List Int}, IntsAre vs ns → Vals (ns.map V.int) vs
 | _, _, .nil => .nil
 | _, _, .cons n t h => .cons ⟨t, rfl⟩ (z6s h)
def Only (H : Hp) : Prop := ∀ b, H b = none ∨ ∃ o xs, H b = some (.frz o (.lst xs))
theorem zc2 {P : Program} {w : World} {K : PySem.W.Frag} {mg mb : Str → Option Value} {CX : CXT} {k : Nat} {fa a : Addr} {fd : FuncData} {x : Str} {sp : Sp} {s₁ : Shared} {vs : List Value} {ns : List Int}
  (KX : K.In s₁.heap) (hns : s₁.heap.Ns mainGlobals mg) (hb : s₁.heap.Ns builtinsNs mb) (hbb : ∀ x : Str, x ≠ "__name__" → mb x = bootBuiltins x) (hlim : s₁.heap.NoLimit) (hg : s₁.gens = #[])
  (ha : s₁.heap.get? a = some { cls := .type "list", data := .seq vs.toArray }) (hi : IntsAre vs ns) (hl : ns.length ≤ sizeLine) (hr : Room k callerA)
  (F : ∀ base : Heap, K.In base → base.Ns mainGlobals mg → FnOk P w K mg base CX k fa fd [x] sp) (hbind : ∀ (s : Shared) (u : Value), BindsTo s fd ⟨[u], []⟩ [(x, u)])
  (hsp : ∀ H : Hp, Only H → SqL K H a (ns.map V.int) → sp [.ref a] H (fun v _ => v = .bl true) fun _ _ _ => False)
  (hCX : ∀ H e s', CX [] H s₁ (fun _ _ _ => False) e s' → False) :
  codeAny (model P w) callerA (.call (.ref fa) ⟨[.ref a], []⟩) (fun r s' => r = .ok (.ret (.bool true)) ∧ OldK s₁.heap s'.heap ∧ s'.os = s₁.os ∧ AllBare s'.gens) s₁ := by
 have rv := z6s hi
 have lenV := hi.length
 have core : ∀ H : Hp, Only H → SqL K H a (ns.map V.int) → HOk P w H s₁.heap → (∀ b, H b ≠ none → b = a) → (H a ≠ none → K.lookup a = none) →
   codeAny (model P w) callerA (.call (.ref fa) ⟨[.ref a], []⟩) (fun r s' => r = .ok (.ret (.bool true)) ∧ OldK s₁.heap s'.heap ∧ s'.os = s₁.os ∧ AllBare s'.gens) s₁ := by
  intro H hO hS hok hA hK
  have base_of : ∀ {b : Addr} {o : Obj}, s₁.heap.get? b = some o → H b = none → (hidT s₁.heap H).get? b = some o := fun e n => zbv e n
  have noA : ∀ {b : Addr} {o : Obj} {es : Array DictEntry} {ep : Nat}, s₁.heap.get? b = some o → o.data = .dict es ep → H b = none := fun {b o es ep} e d => by
   cases q : H b with
   | none => rfl
   | some u =>
    have e' : b = a := hA b (by rw [q]; simp)
    subst e'
    rw [ha] at e; cases e
    have d' : Data.seq vs.toArray _ = Data.dict es ep := d
    cases d'
  have nsK : ∀ {b : Addr} {m : Str → Option Value}, s₁.heap.Ns b m → (hidT s₁.heap H).Ns b m := fun {b m} ⟨o, es, ep, e, d, r⟩ => ⟨o, es, ep, base_of e (noA e d), d, r⟩
  have hKb : K.In (hidT s₁.heap H) := fun b o e => base_of (KX b o e) (by
   cases q : H b with
   | none => rfl
   | some u =>
    have e' : b = a := hA b (by rw [q]; simp)
    subst e'
    rw [hK (by rw [q]; simp)] at e; cases e)
  have hM : Mod K mg (hidT s₁.heap H) := ⟨hKb, nsK hns, ⟨mb, nsK hb, hbb⟩, let ⟨mc, h1, h2⟩ := hlim; ⟨mc, nsK h1, h2⟩⟩
  have e0 : Env0 P w K mg (hidT s₁.heap H) callerA [] s₁ H := ⟨rfl, hM, fun b o e => zd1 e, Nat.le_of_eq (zag _ _), trivial, fun b hb => absurd (show b ∈ ([] : List Addr) from hb) (by simp), hok, .of_eq hg⟩
  refine codeAny_mono ((F _ hKb (nsK hns)).run callerA [] s₁ H ⟨[.ref a], []⟩ [.ref a] [.ref a] _ _ hr e0 (hbind s₁ (.ref a)) (.cons rfl .nil) (hsp H hO hS)) fun r s' h => ?_
  cases r with
  | error e => exact (hCX H e s' h).elim
  | ok fl =>
   cases fl with
   | next => exact False.elim h
   | brk => exact False.elim h
   | cont => exact False.elim h
   | ret u =>
    obtain ⟨v, H', os, bare, un, hok', r', q⟩ := h
    have q' : v = .bl true := q
    subst q'
    obtain rfl : u = Value.bool true := r'
    refine ⟨rfl, OldK.of_keep fun b o e => ?_, os, bare⟩
    cases q : H b with
    | none => exact un.keep b o e q (by intro z; exact absurd (show b ∈ ([] : List Addr) from z) (by simp)) (by simp)
    | some u =>
     rcases hO b with z | ⟨ob, xs, z⟩
     ·rw [q] at z; cases z
     ·have z2 := un.frzs b ob _ z
      obtain ⟨e1, _⟩ := hok b _ z
      obtain ⟨e2, _⟩ := hok' b _ z2
      rw [e] at e1; cases e1
      exact e2
 cases hk : K.lookup a with
 | some o =>
  have e := KX a o hk
  rw [ha] at e
  cases e
  refine core (fun _ => none) (fun _ => .inl rfl) (.inr ⟨_, vs.toArray, _, hk, rfl, rfl, rfl, by rw [List.size_toArray, lenV]; exact hl, by simpa using rv⟩) (fun b u z => by have z' : (none : Option HO) = some u := z; cases z') (fun b z => absurd rfl z) fun z => absurd rfl z
 | none =>
  refine core (fun b => if b = a then some (.frz { cls := .type "list", data := .seq vs.toArray } (.lst (ns.map V.int))) else none) (fun b => ?_) (.inl (.inr ⟨{ cls := .type "list", data := .seq vs.toArray }, if_pos rfl⟩)) (fun b u z => ?_) (fun b z => ?_) fun _ => hk
  ·by_cases hb : b = a
   ·exact .inr ⟨_, _, if_pos hb⟩
   ·exact .inl (if_neg hb)
  ·by_cases hb : b = a
   ·have z' := (if_pos hb).symm.trans z
    cases z'
    subst hb
    exact ⟨ha, by rw [List.length_map]; exact hl, vs, _, rv, ha⟩
   ·have z' := (if_neg hb).symm.trans z
    cases z'
  ·by_cases hb : b = a
   ·exact hb
   ·exact absurd (if_neg hb) z
end L2
namespace L2
open PySem PySem.Spec PyProof.Rows
theorem zdc {l : PySem.W.OpenLaw} {n k : Nat} {q : Program} {loose : List Str} {XP : (Str → Option Value) → Heap → Prop} {YP : World → Heap → Prop} {d : DefRec} {K : Params → PySem.W.Frag} {CX : World → CXT} {sp : World → Sp} {x : Str}
  (hn : l.most = some n) (hn2 : n ≤ sizeLine) (hdf : d.params.defaults = []) (hr : Room k callerA)
  (hY : ∀ (w : World) (h : Heap), YP w h → (K w.params).In h)
  (F : ∀ (w : World) (mg : Str → Option Value) (fa : Addr) (h : Heap), (K w.params).In h → h.Ns mainGlobals mg → mg d.name = some (.ref fa) →
   ∃ fd : FuncData, (∀ (s : Shared) (u : Value), BindsTo s fd ⟨[u], []⟩ [(x, u)]) ∧
    ∀ base : Heap, (K w.params).In base → base.Ns mainGlobals mg → FnOk l.prog w (K w.params) mg base (CX w) k fa fd [x] (sp w))
  (hsp : ∀ (w : World) (H : Hp) (a : Addr) (ns : List Int), ns.length ≤ n → Only H → SqL (K w.params) H a (ns.map V.int) → sp w [.ref a] H (fun v _ => v = .bl true) fun _ _ _ => False)
  (hCX : ∀ (w : World) (H : Hp) (s : Shared) (e : Value) (s' : Shared), CX w [] H s (fun _ _ _ => False) e s' → False) :
  PySem.W.WalkO q loose XP YP l.row.toRowW d [] (fun f vs => PySem.call f vs) := by
 refine Att.attach_call hn hdf fun w s₀ s₁ mg mb fa o pm cd doc a vs ns G Y ho hd hcd hmg hobj hints hlen hg => ?_
 have KX := hY w _ Y
 obtain ⟨fd, hb, hF⟩ := F w mg fa _ KX G.T.g hmg
 exact zc2 KX G.T.g G.T.b G.T.builtins G.T.nolimit hg hobj hints (Nat.le_trans hlen hn2) hr hF hb (fun H hO hS => hsp w H a ns hlen hO hS) fun H e s' => hCX w H s₁ e s'
theorem walk_ofK {l : PySem.W.OpenLaw} {n k : Nat} {q : Program} {loose : List Str} {XP : (Str → Option Value) → Heap → Prop} {YP : World → Heap → Prop} {d : DefRec} {K : Params → PySem.W.Frag} {CX : CXT} {sp : PySem.W.Frag → Sp} {x : Str}
  (hn : l.most = some n) (hn2 : n ≤ sizeLine) (hdf : d.params.defaults = []) (hr : Room k callerA)
  (hY : ∀ (w : World) (h : Heap), YP w h → (K w.params).In h)
  (F : ∀ (w : World) (mg : Str → Option Value) (fa : Addr) (h : Heap), (K w.params).In h → h.Ns mainGlobals mg → mg d.name = some (.ref fa) →
   ∃ fd : FuncData, (∀ (s : Shared) (u : Value), BindsTo s fd ⟨[u], []⟩ [(x, u)]) ∧
    ∀ base : Heap, (K w.params).In base → base.Ns mainGlobals mg → FnOk l.prog w (K w.params) mg base CX k fa fd [x] (sp (K w.params)))
  (hsp : ∀ (K : PySem.W.Frag) (H : Hp) (a : Addr) (ns : List Int), ns.length ≤ n → Only H → SqL K H a (ns.map V.int) → sp K [.ref a] H (fun v _ => v = .bl true) fun _ _ _ => False)
  (hCX : ∀ (H : Hp) (s : Shared) (e : Value) (s' : Shared), CX [] H s (fun _ _ _ => False) e s' → False) :
  PySem.W.WalkO q loose XP YP l.row.toRowW d [] (fun f vs => PySem.call f vs) :=
 zdc (K := K) (CX := fun _ => CX) (sp := fun w => sp (K w.params)) hn hn2 hdf hr hY F (fun w H a ns h1 h2 h3 => hsp (K w.params) H a ns h1 h2 h3) fun _ H s e s' => hCX H s e s'
end L2
namespace L2
open PySem PySem.Spec PyProof.Rows
def z1c (s : Stmt) (j : Nat) : Stmt := match s with
 | .ClassDef _ _ _ body _ _ _ _ _ _ _ => body.getD j (.Pass ⟨0, 0, 0, 0⟩)
 | _ => .Pass ⟨0, 0, 0, 0⟩
def z3q (s : Stmt) : Arguments := match s with
 | .FunctionDef _ a _ _ _ _ _ _ _ _ => a
 | _ => { posonlyargs := [], args := [], vararg := none, kwonlyargs := [], kw_defaults := [], kwarg := none, defaults := [] }
def z1k (s : Stmt) : List Stmt := match s with
 | .FunctionDef _ _ b _ _ _ _ _ _ _ => b
 | _ => []
def zc (s : Stmt) : Scope := match s with
 | .FunctionDef _ _ _ _ _ _ sc _ _ _ => sc
 | _ => { kind := .function, names := [], isGenerator := false, isCoroutine := false }
abbrev CX0 : CXT := fun _ _ _ _ _ _ => False
abbrev E0 : XK := fun _ _ _ => False
theorem z5v {X : Cx} : z25 CX0 X E0 := fun _ _ _ _ _ _ _ h => h.elim
structure Fun (K : PySem.W.Frag) (x qual : Str) (st : Stmt) (f : Addr) (fd : FuncData) : Prop where
 ex : ∃ (oc : Value) (od : Option Addr) (kV doc pm : Value) (an : Option Addr) (cdv ct : Value) (osl : Array (Option Value)),
  fd = PySem.W.fnOf x qual (z3q st) (z1k st) (zc st) .none kV doc pm an cdv ct ∧ K.lookup f = some ⟨oc, od, .func fd, osl⟩ ∧ PySem.W.codeIn K cdv qual = true
 kp : PySem.W.keepIn K (.ref f) = true
section
variable {P : Program} {w : World} {K : PySem.W.Frag} {mg : Str → Option Value} {base : Heap}
theorem Fun.ok {x qual : Str} {st : Stmt} {f : Addr} {fd : FuncData} {N ps : List Str} {k : Nat} {sp : Sp} (F : Fun K x qual st f fd) (S : FnScope N ps (zc st)) (len : ∀ vs H Q E, sp vs H Q E → vs.length = ps.length)
  (hbody : ∀ (cdv : Value) (A : Around) (outer : List Env) (s : Shared) (H : Hp) (vs : List V) (Q : VK) (E : XK), Room k (A.deeper (envOfC qual (zc st) s.heap.objs.size f cdv)) → sp vs H Q E →
   ∃ t, PSs (cxOf CX0 P w K mg base N qual (zc st) f cdv A outer s H E).nox (z1k st) t ∧ t { nx := fun _ H' => Q .non H', rt := Q } (start N vs) H) : FnOk P w K mg base CX0 (k + 1) f fd ps sp := by
 obtain ⟨oc, od, kV, doc, pm, an, cdv, ct, osl, rfl, lk, hcd⟩ := F.ex
 refine zcq lk hcd S len fun A outer s H vs Q E hr hsp => ?_
 obtain ⟨t, h, q⟩ := hbody cdv A outer s H vs Q E hr hsp
 exact ⟨t, h.nox, q⟩
theorem Fun.binds {x qual : Str} {st : Stmt} {f : Addr} {fd : FuncData} {ps : List Str} (F : Fun K x qual st f fd)
  (h : ∀ (kV doc pm : Value) (an : Option Addr) (cdv ct : Value) (us : List Value), us.length = ps.length → bindArgs (PySem.W.fnOf x qual (z3q st) (z1k st) (zc st) .none kV doc pm an cdv ct) ⟨us, []⟩ = pure (ps.zip us)) : Binds K fd ps [] := by
 obtain ⟨oc, od, kV, doc, pm, an, cdv, ct, osl, rfl, lk, hcd⟩ := F.ex
 exact .all (h kV doc pm an cdv ct)
theorem fun_mk {x qual : Str} {st : Stmt} {f : Addr} {oc : Value} {od an : Option Addr} {osl : Array (Option Value)} {kV doc pm cdv ct : Value} (l : K.lookup f = some ⟨oc, od, .func (PySem.W.fnOf x qual (z3q st) (z1k st) (zc st) .none kV doc pm an cdv ct), osl⟩)
  (c : PySem.W.codeIn K cdv qual = true) (k : PySem.W.keepIn K (.ref f) = true) : Fun K x qual st f (PySem.W.fnOf x qual (z3q st) (z1k st) (zc st) .none kV doc pm an cdv ct) := ⟨⟨oc, od, kV, doc, pm, an, cdv, ct, osl, rfl, l, c⟩, k⟩
end
theorem z4t {A : Around} {k : Nat} (hr : Room k A) : A.units + 1 < cLine := Nat.lt_of_le_of_lt (Nat.add_le_add_left (by decide : 1 ≤ 64) _) hr.units
theorem z1w {n : Nat} (h : n ≤ 1000) : n < sizeLine := Nat.lt_of_le_of_lt h (by decide)
section
variable {X : Cx}
theorem pv (i : Nat) {x : Str} {pos : Pos} (hN : X.N[i]? = some x := by rfl) (hv : Vis X.env.scope x := by first | exact Or.inl rfl | exact Or.inr (Or.inl rfl) | exact Or.inr (Or.inr rfl)) (hd : (x == ("__debug__" : Str)) = false := by decide)
  (hcd : (x == ("__classdict__" : Str)) = false := by decide) : PE X (.Name x pos) (tVar i) := zdu hN hv hd hcd
end
theorem ite2 {c A B : Prop} [Decidable c] (h1 : c → A) (h2 : ¬ c → B) : if c then A else B := by
 by_cases h : c
 ·rw [if_pos h]
  exact h1 h
 ·rw [if_neg h]
  exact h2 h
def Same (H H' : Hp) : Prop := ∀ b o, H b = some o → H' b = some o
theorem Same.refl (H : Hp) : Same H H := fun _ _ h => h
theorem Same.trans {H H1 H2 : Hp} (a : Same H H1) (b : Same H1 H2) : Same H H2 := fun c o h => b c o (a c o h)
theorem Same.free {H H' : Hp} (e : Same H H') {l : Addr} (h : H' l = Option.none) : H l = Option.none := by
 cases q : H l with
 | none => rfl
 | some o =>
  rw [e l o q] at h
  cases h
theorem Same.seq {K : PySem.W.Frag} {H H' : Hp} {a : Addr} {xs : List V} (e : Same H H') (h : SqL K H a xs) : SqL K H' a xs := by
 rcases h with (h | ⟨o, h⟩) | h
 ·exact .inl (.inl (e _ _ h))
 ·exact .inl (.inr ⟨o, e _ _ h⟩)
 ·exact .inr h
end L2
end
section
namespace L2
open PySem PySem.Spec PyProof.Rows
def Its (z : Str) : It := ⟨fun i _ => i < z.cps.size, fun i H x H' => H' = H ∧ ∃ c, z.cps[i]? = some c ∧ x = .str ⟨#[c]⟩, fun i _ => z.cps.size ≤ i⟩
theorem z9u {P : Program} {w : World} {K : PySem.W.Frag} {tg : Expr} (it : Addr) (z : Str) (t : Tok) : Turn P w K tg (Its z) [it] it (fun i h => h.IsStrIter it "str_ascii_iterator" z t i) where
 mem := by simp
 obj := fun i h st b hb => by
  have e : b = it := by simpa using hb
  subst e
  obtain ⟨o, e, c, d⟩ := st
  exact ⟨o, e, fun v q => by rw [d] at q; cases q⟩
 keep := fun i h h' st k => by
  obtain ⟨o, e, r⟩ := st
  exact ⟨o, k it (by simp) o e, r⟩
 item := by
  intro X hP hw hK hc i pins s σ H E I hf st hg
  subst hP hw hK
  obtain ⟨f0, f1, f2, f3, f4, f5⟩ := hf it (by simp)
  have hg : i < z.cps.size := hg
  refine wpAny_pyNext_ascii_item st (c := z.cps[i]) (by simp [hg]) fun h' st' sb => ?_
  have I1 : Inv X pins σ H { s with heap := h', toks := s.toks + 1 } := I.turned (fun b o hb e => (sb.2 b hb).trans e) f0 f1 f3 f4 f5
  obtain ⟨o, e, c, d⟩ := id st'
  exact ⟨_, rfl, z7g (s := { s with heap := h', toks := s.toks + 1 }) e c d (by decide) ⟨.str ⟨#[z.cps[i]]⟩, H, I1, ⟨_, rfl⟩, ⟨rfl, _, by simp [hg], rfl⟩, st', fun b hb => (hf b hb).1⟩⟩
 done := by
  intro X hP hw hK hc i pins s σ H E I hf st hg
  subst hP hw hK
  obtain ⟨f0, f1, f2, f3, f4, f5⟩ := hf it (by simp)
  have hg : z.cps.size ≤ i := hg
  exact wpAny_pyNext_ascii_end (I.ok.hd hc) st (by simp [hg]) fun h' eb => ⟨rfl, I.turned (t' := s.toks) (fun b o hb e => eb b o hb e) f0 f1 f3 f4 f5⟩
 self := fun _ _ _ _ _ st h => wpAny_pyIter_striter_ascii st h
theorem zaz {P : Program} {w : World} {K : PySem.W.Frag} {tg : Expr} (it : Addr) (z : Str) (t : Tok) : Turn P w K tg (Its z) [it] it (fun i h => h.IsStrIter it "str_iterator" z t i) where
 mem := by simp
 obj := fun i h st b hb => by
  have e : b = it := by simpa using hb
  subst e
  obtain ⟨o, e, c, d⟩ := st
  exact ⟨o, e, fun v q => by rw [d] at q; cases q⟩
 keep := fun i h h' st k => by
  obtain ⟨o, e, r⟩ := st
  exact ⟨o, k it (by simp) o e, r⟩
 item := by
  intro X hP hw hK hc i pins s σ H E I hf st hg
  subst hP hw hK
  obtain ⟨f0, f1, f2, f3, f4, f5⟩ := hf it (by simp)
  have hg : i < z.cps.size := hg
  refine wpAny_pyNext_wide_item st (c := z.cps[i]) (by simp [hg]) fun h' st' sb => ?_
  have I1 : Inv X pins σ H { s with heap := h', toks := s.toks + 1 } := I.turned (fun b o hb e => (sb.2 b hb).trans e) f0 f1 f3 f4 f5
  obtain ⟨o, e, c, d⟩ := id st'
  exact ⟨_, rfl, z7g (s := { s with heap := h', toks := s.toks + 1 }) e c d (by decide) ⟨.str ⟨#[z.cps[i]]⟩, H, I1, ⟨_, rfl⟩, ⟨rfl, _, by simp [hg], rfl⟩, st', fun b hb => (hf b hb).1⟩⟩
 done := by
  intro X hP hw hK hc i pins s σ H E I hf st hg
  subst hP hw hK
  obtain ⟨f0, f1, f2, f3, f4, f5⟩ := hf it (by simp)
  have hg : z.cps.size ≤ i := hg
  exact wpAny_pyNext_wide_end (I.ok.hd hc) st (by simp [hg]) fun h' eb => ⟨rfl, I.turned (t' := s.toks) (fun b o hb e => eb b o hb e) f0 f1 f3 f4 f5⟩
 self := fun _ _ _ _ _ st h => wpAny_pyIter_striter_wide st h
section
variable {X : Cx} {tg : Expr}
def iStr (tl : TE) : TI := fun σ H R => tl σ H fun x H1 => ∃ z, x = .str z ∧ R (Its z) H1
theorem ze0 {l : Expr} {tl : TE} (hl : PE X l tl) : PI X tg l (iStr tl) := by
 intro pins s σ H R I h
 refine thn (hl pins s σ H _ I h) fun v s1 ⟨x, H1, I1, r1, q1⟩ => ?_
 obtain ⟨z, e, q⟩ := q1
 subst e
 obtain ⟨t, rfl⟩ := r1
 cases ha : z.cps.all (· < 128)
 ·refine wpAny_pyIter_wide ha ?_
  refine ⟨s1.heap.objs.size, [s1.heap.objs.size], _, _, H1, rfl, I1.kept (t' := s1.toks) fun b o e => Heap.get?_push_of_some _ e, zaz _ z t, ⟨_, Heap.get?_push_size _ rfl, rfl, rfl⟩, fun b hb => ?_, q⟩
  have e : b = s1.heap.objs.size := by simpa using hb
  subst e
  exact I1.fpOk (Nat.le_refl _) (I1.hok.fresh (Nat.le_refl _))
 ·refine wpAny_pyIter_ascii ha ?_
  refine ⟨s1.heap.objs.size, [s1.heap.objs.size], _, _, H1, rfl, I1.kept (t' := s1.toks) fun b o e => Heap.get?_push_of_some _ e, z9u _ z t, ⟨_, Heap.get?_push_size _ rfl, rfl, rfl⟩, fun b hb => ?_, q⟩
  have e : b = s1.heap.objs.size := by simpa using hb
  subst e
  exact I1.fpOk (Nat.le_refl _) (I1.hok.fresh (Nat.le_refl _))
end
def z1a (env : Env) : List (Str × NameKind) → List (Str × Addr) → List (Str × Addr)
 | [], cs => cs
 | (n, k) :: r, cs => z1a env r (if k == .free then (n, (env.cells.lookup n).getD 0) :: cs else cs)
theorem z5w {sc : Scope} {env : Env} (h : ∀ y ∈ sc.names, y.2 = .free → ∃ c, env.cells.lookup y.1 = some c) : closureFor sc env = pure (z1a env sc.names []) := by
 have go : ∀ (names : List (Str × NameKind)) (cs : List (Str × Addr)), (∀ y ∈ names, y.2 = .free → ∃ c, env.cells.lookup y.1 = some c) →
   (forIn names cs fun (x : Str × NameKind) (r : List (Str × Addr)) => (if (x.2 == .free) = true then (do let a ← cellOf env x.1; pure (ForInStep.yield ((x.1, a) :: r))) else pure (ForInStep.yield r) : Sem (ForInStep (List (Str × Addr))))) = (pure (z1a env names cs) : Sem (List (Str × Addr))) := by
  intro names
  induction names with
  | nil => intro cs _; rfl
  | cons y r ih =>
   intro cs hy
   obtain ⟨n, k⟩ := y
   rw [List.forIn_cons]
   have hr : ∀ z ∈ r, z.2 = .free → ∃ c, env.cells.lookup z.1 = some c := fun z hz => hy z (List.mem_cons_of_mem _ hz)
   by_cases hk : k = .free
   ·subst hk
    obtain ⟨c, hc⟩ := hy (n, .free) List.mem_cons_self rfl
    have hc' : env.cells.lookup n = some c := hc
    simp only [beq_self_eq_true, if_true, z1a, hc', Option.getD_some, cellOf]
    exact ih ((n, c) :: cs) hr
   ·have hb : (k == NameKind.free) = false := by simpa using hk
    simp only [hb, Bool.false_eq_true, if_false, z1a]
    exact ih cs hr
 unfold closureFor
 show (forIn sc.names [] (fun (x : Str × NameKind) (r : List (Str × Addr)) => (if (x.2 == .free) = true then (do let a ← cellOf env x.1; pure (ForInStep.yield ((x.1, a) :: r))) else pure (ForInStep.yield r) : Sem (ForInStep (List (Str × Addr))))) >>= fun cs => pure cs) = _
 rw [go sc.names [] h]
 rfl
theorem z3y {env : Env} : ∀ {names : List (Str × NameKind)} {cs : List (Str × Addr)} {x : Str} {c : Addr}, (∀ y ∈ names, y.2 = .free → ∃ c, env.cells.lookup y.1 = some c) → (∀ y d, cs.lookup y = some d → env.cells.lookup y = some d) →
  (z1a env names cs).lookup x = some c → env.cells.lookup x = some c
 | [], cs, x, c, _, hcs, h => hcs x c h
 | (n, k) :: r, cs, x, c, hy, hcs, h => by
  refine z3y (names := r) (fun z hz => hy z (List.mem_cons_of_mem _ hz)) ?_ h
  intro y d e
  by_cases hk : (k == NameKind.free) = true
  ·rw [if_pos hk, List.lookup_cons] at e
   obtain ⟨c', hc'⟩ := hy (n, k) List.mem_cons_self (by simpa using hk)
   have hc' : env.cells.lookup n = some c' := hc'
   cases hyn : y == n with
   | true =>
    rw [hyn] at e
    have : y = n := by simpa using hyn
    subst this
    simp only [hc', Option.getD_some] at e
    rw [hc']; exact e
   | false =>
    rw [hyn] at e
    exact hcs y d e
  ·rw [if_neg hk] at e
   exact hcs y d e
theorem z58 {env : Env} : ∀ {names : List (Str × NameKind)} {cs : List (Str × Addr)} {x : Str}, (∃ c, cs.lookup x = some c) → ∃ c, (z1a env names cs).lookup x = some c
 | [], cs, x, h => h
 | (n, k) :: r, cs, x, h => by
  refine z58 (names := r) ?_
  split
  ·rw [List.lookup_cons]
   cases hxn : x == n with
   | true => exact ⟨_, rfl⟩
   | false => exact h
  ·exact h
theorem z2h {env : Env} : ∀ {names : List (Str × NameKind)} {cs : List (Str × Addr)} {x : Str}, (x, NameKind.free) ∈ names → ∃ c, (z1a env names cs).lookup x = some c
 | [], _, _, h => by simp at h
 | (n, k) :: r, cs, x, h => by
  rcases List.mem_cons.mp h with e | h
  ·cases e
   refine z58 (names := r) ?_
   rw [if_pos (by rfl), List.lookup_cons]
   rw [show (n == n) = true by simp]
   exact ⟨_, rfl⟩
  ·exact z2h (names := r) h
theorem z2r {env : Env} {sc : Scope} {x : Str} {k : NameKind} (h : (relabel sc env).names.lookup x = some k) (hk : k = .cell ∨ k = .free) (hc : ∀ y ∈ sc.names, y.2 ≠ .cell) : (x, NameKind.free) ∈ sc.names := by
 have hm := PySem.mem_of_lookup h
 unfold relabel at hm
 obtain ⟨⟨n, k'⟩, hn, e⟩ := List.mem_map.mp hm
 by_cases hf : (k' == NameKind.free && env.scope.kind == .function && env.kindOf n == some .cell) = true
 ·have e' : (n, NameKind.cell) = (x, k) := by
   have := e
   simp only [hf, if_true] at this
   exact this
  injection e' with e1 e2
  subst e1
  have hk' : k' = .free := by
   rw [Bool.and_eq_true, Bool.and_eq_true] at hf
   simpa using hf.1.1
  rw [hk'] at hn
  exact hn
 ·have e' : (n, k') = (x, k) := by
   have := e
   simp only [hf, if_false] at this
   exact this
  injection e' with e1 e2
  subst e1 e2
  rcases hk with z | z
  ·exact absurd z (hc _ hn)
  ·rw [z] at hn; exact hn
abbrev zk (X : Cx) (sc : Scope) (N : List Str) (s : Shared) (H : Hp) (C : Addr) (fp : List Addr) : Cx :=
 { X with N := N, s₀ := s, H₀ := H, env := compEnvC sc (z1a X.env sc.names []) C X.env, outer := X.stack, stack := X.stack, ex := fp, fn := fun _ => false, pn := [], xe := fun _ _ => False }
def CapOk (X : Cx) (sc : Scope) : List Str → List Nat → Prop
 | [], [] => True
 | y :: r, j :: js => (X.N[j]? = some y ∧ (X.env.kindOf y = some .cell ∨ X.env.kindOf y = some .free) ∧ sc.names.lookup y = some .free) ∧ CapOk X sc r js
 | _, _ => False
theorem CapOk.len {X : Cx} {sc : Scope} : ∀ {cap : List Str} {js : List Nat}, CapOk X sc cap js → cap.length = js.length
 | [], [], _ => rfl
 | _ :: _, _ :: _, h => congrArg (· + 1) (CapOk.len h.2)
 | [], _ :: _, h => h.elim
 | _ :: _, [], h => h.elim
theorem CapOk.get {X : Cx} {sc : Scope} : ∀ {cap : List Str} {js : List Nat} {i : Nat} {y : Str}, CapOk X sc cap js → cap[i]? = some y → ∃ j, js[i]? = some j ∧ X.N[j]? = some y ∧ (X.env.kindOf y = some .cell ∨ X.env.kindOf y = some .free) ∧ sc.names.lookup y = some .free
 | [], [], _, _, _, e => by simp at e
 | y :: _, j :: _, 0, _, h, e => by
  simp at e; subst e
  exact ⟨j, rfl, h.1⟩
 | _ :: r, _ :: js, i + 1, y, h, e => by
  obtain ⟨j, e1, e2⟩ := CapOk.get (i := i) h.2 (by simpa using e)
  exact ⟨j, by simpa using e1, e2⟩
 | [], _ :: _, _, _, h, _ => h.elim
 | _ :: _, [], _, _, h, _ => h.elim
def capt (σ : St) (js : List Nat) : St := js.map fun j => (σ[j]?).join
structure CompScope (X : Cx) (sc : Scope) (x : Str) (cap : List Str) (js : List Nat) : Prop where
 kind : sc.kind = .function
 nocell : ∀ y ∈ sc.names, y.2 ≠ .cell
 names : ∀ y ∈ sc.names, y.2 = .local → sc.names.lookup y.1 = some .local
 own : sc.names.lookup x = some .local
 free : ∀ y ∈ sc.names, y.2 = .free → X.env.kindOf y.1 = some .cell ∨ X.env.kindOf y.1 = some .free
 nd : (x :: cap).Nodup
 caps : CapOk X sc cap js
section
variable {X : Cx} {sc : Scope} {x : Str} {cap : List Str} {js : List Nat} {pins : List (Addr × Obj)} {σ : St} {H : Hp} {s : Shared}
theorem CompScope.cells (S : CompScope X sc x cap js) (I : Inv X pins σ H s) : ∀ y ∈ sc.names, y.2 = .free → ∃ c, X.env.cells.lookup y.1 = some c := fun y hy hf => I.ok.has y.1 (S.free y hy hf)
theorem CompScope.sub (S : CompScope X sc x cap js) (I : Inv X pins σ H s) {y : Str} {c : Addr} (h : (z1a X.env sc.names []).lookup y = some c) : X.env.cells.lookup y = some c :=
 z3y (S.cells I) (fun _ _ e => by simp at e) h
theorem z9v {s4 : Shared} {h4 : Heap} {t4 : Nat} {fp : List Addr} {C : Addr} {v : Option V} {m : Str → Option Value} (S : CompScope X sc x cap js) (I : Inv X pins σ H s) (hfp : ∀ b ∈ fp, FpOk X pins H b) (hlt : ∀ b ∈ fp, b < s.heap.objs.size)
  (hC : s.heap.objs.size ≤ C) (hn : h4.Ns C m) (k : ∀ b o, s.heap.get? b = some o → h4.get? b = some o) :
  Inv (zk X sc (x :: cap) s H C fp) [] (none :: capt σ js) H { s with heap := h4, toks := t4 } := by
 have nf : ∀ b ∈ frs X.stack, b < s.heap.objs.size := fun b hb => by
  obtain ⟨_, o, ho, _⟩ := I.stack.mem hb
  exact Heap.lt_size ho
 refine ⟨⟨I.ok.mod, S.kind, I.ok.glob, I.ok.blt, hC, fun y z c h1 h2 => I.ok.inj y z c (S.sub I h1) (S.sub I h2), fun y hy => ?_, fun y c h => absurd h Bool.false_ne_true, I.ok.hd, I.ok.frames, .inl rfl, fun b hb => ⟨Nat.ne_of_lt (Nat.lt_of_lt_of_le (hlt b hb) hC), fun y c e => (hfp b hb).2.2.2.2.1 y c (S.sub I e)⟩, I.bs,
   Nat.le_trans I.ok.bsz I.sz, fun b o e hb => ?_, fun b hb z => ?_, I.stack, I.stkFree⟩, rfl, I.bare, Un.kept k, ⟨m, hn, fun i y v' h1 h2 h3 => ?_⟩, fun y c e => ?_, I.hok.fresh hC, fun y c e => I.freeC y c (S.sub I e), fun p hp => absurd (show p ∈ ([] : List (Addr × Obj)) from hp) (by simp), I.hok.kept k, ?_⟩
 ·exact z2h (by
   rcases hy with z | z
   ·exact z2r z (.inl rfl) S.nocell
   ·exact z2r z (.inr rfl) S.nocell)
 ·rcases (hfp b hb).2.2.2.1 with z | z
  ·exact I.ok.noex b o e z
  ·exact absurd (Nat.lt_of_lt_of_le (Heap.lt_size e) (Nat.le_trans I.ok.bsz z)) (Nat.lt_irrefl _)
 ·rcases List.mem_cons.mp (I.stkSub b z) with q | q
  ·exact (hfp b hb).2.1 q
  ·exact (hfp b hb).2.2.1 q
 ·cases i with
  | zero => exact absurd (show (none : Option V) = some v' from Option.some.inj h2) (by simp)
  | succ i =>
   have e1 : cap[i]? = some y := by simpa using h1
   obtain ⟨j, q1, q2, q3, q4⟩ := S.caps.get e1
   have e2 : (capt σ js)[i]? = some (some v') := by simpa using h2
   have e3 : σ[j]? = some (some v') := by
    unfold capt at e2
    rw [List.getElem?_map, q1, Option.map_some] at e2
    have e4 : (σ[j]?).join = some v' := Option.some.inj e2
    cases q : σ[j]? with
    | none => rw [q] at e4; cases e4
    | some w => rw [q] at e4; exact congrArg some e4
   have vis : Vis X.env.scope y := by
    rcases q3 with q3 | q3
    ·exact .inr (.inl q3)
    ·exact .inr (.inr q3)
   obtain ⟨mX, hnX, hl⟩ := I.loc
   obtain ⟨u, ru, lk⟩ := hl j y v' q2 e3 vis
   refine ⟨u, ru, .inr ?_⟩
   rcases lk with ⟨hk, _⟩ | ⟨hk, c, hc, hcell⟩
   ·rcases q3 with q3 | q3
    ·rw [q3] at hk; cases hk
    ·rw [q3] at hk; cases hk
   ·obtain ⟨c', hc'⟩ := z2h (env := X.env) (cs := []) (PySem.mem_of_lookup q4)
    have := S.sub I hc'
    rw [hc] at this
    cases this
    obtain ⟨o, ho, hd⟩ := hcell
    refine ⟨?_, c, hc', ⟨o, k c o ho, hd⟩⟩
    rcases h3 with z | z | z
    ·exfalso
     have hz := PySem.mem_of_lookup z
     obtain ⟨⟨n, k'⟩, hn', en⟩ := List.mem_map.mp hz
     by_cases hf : (k' == NameKind.free && X.env.scope.kind == .function && X.env.kindOf n == some .cell) = true
     ·simp only [hf, if_true] at en
      cases en
     ·simp only [hf, if_false] at en
      cases en
      have := S.names _ hn' rfl
      rw [q4] at this
      cases this
    ·exact .inl z
    ·exact .inr z
 ·obtain ⟨v', o, ho, hd⟩ := I.cell y c (S.sub I e)
  exact ⟨v', o, k c o ho, hd⟩
 ·show (none :: capt σ js).length = (x :: cap).length
  unfold capt
  rw [List.length_cons, List.length_cons, List.length_map, S.caps.len]
theorem z7u {sB : Shared} {hB : Heap} {fp : List Addr} {C D : Addr} {HB : Hp} {σB : St} {pinsB : List (Addr × Obj)} {acc : List V} {its : List Value} {n : Nat}
  (I : Inv X pins σ H s) (hfp : ∀ b ∈ fp, FpOk X pins H b) (IB : Inv (zk X sc (x :: cap) s H C fp) pinsB σB HB sB) (hC : s.heap.objs.size ≤ C) (hD : s.heap.objs.size ≤ D) (hDC : D ≠ C) (hHD : HB D = none)
  (hd : sB.heap.get? D = some { cls := .type "list", data := .seq its.toArray n }) (rv : Vals acc its) (hz : acc.length ≤ sizeLine) (sb : ∀ b o, b ≠ C → sB.heap.get? b = some o → hB.get? b = some o) :
  Inv X pins σ (upd HB D (.lst acc)) { sB with heap := hB } := by
 have u := IB.base
 have hdB := sb D _ hDC hd
 have ltD : ∀ b o, s.heap.get? b = some o → b ≠ D := fun b o e => Nat.ne_of_lt (Nat.lt_of_lt_of_le (Heap.lt_size e) hD)
 have ltC : ∀ b o, s.heap.get? b = some o → b ≠ C := fun b o e => Nat.ne_of_lt (Nat.lt_of_lt_of_le (Heap.lt_size e) hC)
 refine I.call' (ch := fp) IB.os ⟨fun b o e n hb hx => sb b o (ltC b o e) (u.keep b o e n hb hx), fun b o e n hb hx => ?_, fun b o e n hx => by rw [z7 (ltD b o e)]; exact u.free b o e n hx, fun b o e hx => ?_,
  fun b xs e => by rw [z7 (za (u.tups b xs e) hHD)]; exact u.tups b xs e, fun b o xs e => by rw [z7 (za (u.frzs b o xs e) hHD)]; exact u.frzs b o xs e, fun b ps e => ?_⟩ ?_ IB.bare fun b hb => ?_
 ·obtain ⟨sl, q⟩ := u.slot b o e n hb hx
  exact ⟨sl, sb b _ (ltC b o e) q⟩
 ·obtain ⟨o', q⟩ := u.there b o e hx
  exact ⟨o', sb b _ (ltC b o e) q⟩
 ·obtain ⟨m1, q⟩ := u.tbls b ps e
  exact ⟨m1, by rw [z7 (za q hHD)]; exact q⟩
 ·intro a o e
  by_cases ha : a = D
  ·subst ha
   rw [z5] at e
   cases e
   exact ⟨hz, its, n, rv, hdB⟩
  ·rw [z7 ha] at e
   refine (IB.hok a o e).stay (fun b w' hb q => sb b w' (fun z => ?_) q) (fun b q => by rw [z7 (za q hHD)]; exact q) fun b xs q => by rw [z7 (za q hHD)]; exact q
   have fC : HB C = none := IB.free
   rcases hb with hb | hb
   ·rw [z] at hb; rw [← hb, fC] at e; cases e
   ·rw [z, fC] at hb; cases hb
 ·obtain ⟨f0, f1, f2, f3, f4, f5⟩ := hfp b hb
  exact ⟨f3, f1, f4, f5⟩
end
end L2
end
section
namespace L2
open PySem PySem.Spec PyProof.Rows
def PIf (X : Cx) (ifs : List Expr) (t : TT) : Prop :=
 ∀ (pins : List (Addr × Obj)) (s : Shared) (σ : St) (H : Hp) (Q : Bool → Hp → Prop), Inv X pins σ H s → t σ H Q →
  wpAny (model X.prog X.w) X.A (forIn ifs true fun c r => if r = true then do let ok ← isTrue c X.env (eval c X.env); pure (ForInStep.yield ok) else pure (ForInStep.yield r)) (TP X pins σ Q) X.xe s
def tYes : TT := fun _ H Q => Q true H
theorem z1d {X : Cx} : PIf X [] tYes := fun _ _ _ H _ I h => wpAny_pure ⟨H, I, h⟩
theorem zdd {X : Cx} {c : Expr} {tc : TT} (h : PT X c tc) : PIf X [c] tc := by
 intro pins s σ H Q I hw
 simp only [List.forIn_cons, List.forIn_nil, if_true]
 refine wpAny_bind (wpAny_bind (thn (h pins s σ H Q I hw) fun b s1 q => ?_))
 exact wpAny_pure (wpAny_pure q)
def z1x (J : It) (tc : TT) (te : TE) (js : List Nat) (σ : St) (H1 : Hp) (Q : VK) : Prop :=
 ∃ W : Nat → Nat → List V → Hp → Prop, (∃ m, W 0 m [] H1) ∧ ∀ i m acc H, W i m acc H →
  (J.stop i H ∧ ∀ p, H p = none → Q (.ref p) (upd H p (.lst acc))) ∨
  (J.go i H ∧ acc.length < sizeLine ∧ ∀ x H', J.yld i H x H' → tc (some x :: capt σ js) H' fun b H2 =>
   if b = true then te (some x :: capt σ js) H2 fun v H3 => ∃ m', m' < m ∧ W (i + 1) m' (acc ++ [v]) H3 else ∃ m', m' < m ∧ W (i + 1) m' acc H2)
def zcs (wi : TI) (tc : TT) (te : TE) (js : List Nat) : TE := fun σ H Q => wi σ H fun J H1 => z1x J tc te js σ H1 Q
theorem z59 {prog : Program} {w : World} {A : Around} {R : Result → Shared → Prop} {s : Shared} {elt target iter : Expr} {ifs : List Expr} {scope : Scope} {pos : Pos} {it acc : Value} {env : Env} (I : Nat → Shared → Prop)
  (turn : ∀ n s, I n s → wpAny (model prog w) A (pyNext it) (fun r s₁ => match r with
   | none => R (.ok .next) s₁
   | some v => wpAny (model prog w) A (letOwnedTupleGo target it v) (fun _ s₀ => wpAny (model prog w) A (assign target env v) (fun _ s₂ =>
     wpAny (model prog w) A (forIn ifs true fun c r => if r = true then do let ok ← isTrue c env (eval c env); pure (ForInStep.yield ok) else pure (ForInStep.yield r)) (fun ok s₃ =>
      if ok = true then wpAny (model prog w) A (eval elt env) (fun x s₄ =>
       wpAny (model prog w) A (call (.builtin "list.append") [acc, x]) (fun _ s₅ => ∃ m, m < n ∧ I m s₅) (fun _ _ => False) s₄) (fun _ _ => False) s₃
      else ∃ m, m < n ∧ I m s₃) (fun _ _ => False) s₂) (fun _ _ => False) s₀) (fun _ _ => False) s₁) (fun _ _ => False) s)
  (n : Nat) (h : I n s) :
  codeAny (model prog w) A (.compLoop (.ListComp elt [⟨target, iter, ifs, 0⟩] scope pos) 0 it acc env) R s := by
 refine codeAny_loop rfl I (fun n s hI => ?_) n h
 show wpAny _ A ((compTurn (.ListComp elt [⟨target, iter, ifs, 0⟩] scope pos) 0 it acc env).onRaise (fun x => do noteFrame x env; theTreesLotGoes x)) _ _ s
 refine wpAny_noted (wpAny_mono (E := fun _ _ => False) ?_ (fun _ _ q => q) fun _ _ z => z.elim)
 rw [compTurn_list]
 refine wpAny_bind (wpAny_standAt (wpAny_bind (wpAny_mono (turn n s hI) (fun r s₁ h₁ => ?_) fun _ _ h' => h')))
 cases r with
 | none => exact wpAny_pure h₁
 | some v =>
  refine wpAny_bind (wpAny_mono h₁ (fun _ s₀ h₀ => ?_) fun _ _ h' => h')
  refine wpAny_bind (wpAny_mono h₀ (fun _ s₂ h₂ => wpAny_bind (wpAny_mono h₂ (fun ok s₃ h₃ => ?_) fun _ _ h' => h')) fun _ _ h' => h')
  cases ok with
  | false => exact wpAny_pure ⟨rfl, h₃⟩
  | true =>
   exact wpAny_bind (wpAny_bind (wpAny_mono h₃ (fun x s₄ h₄ => wpAny_bind (wpAny_mono h₄ (fun _ s₅ h₅ => wpAny_pure (wpAny_pure ⟨rfl, h₅⟩)) fun _ _ h' => h')) fun _ _ h' => h'))
section
variable {X : Cx} {sc : Scope} {x : Str} {cap : List Str} {js : List Nat} {pins : List (Addr × Obj)} {σ : St} {H : Hp} {s : Shared} {elt iter : Expr} {ifs : List Expr} {px pos : Pos} {tc : TT} {te : TE}
theorem z9w {J : It} {it : Addr} {fp : List Addr} {tn : Nat → Heap → Prop} {Q : VK} {E : Value → Shared → Prop} {RR : Value → Addr → Result → Shared → Prop} (S : CompScope X sc x cap js) (hcalm : X.calm = true)
  (hc : ∀ s H C fp, PIf (zk X sc (x :: cap) s H C fp) ifs tc) (he : ∀ s H C fp, PE (zk X sc (x :: cap) s H C fp) elt te)
  (I : Inv X pins σ H s) (T : Turn X.prog X.w X.K (.Name x px) J fp it tn) (st : tn 0 s.heap) (hfp : ∀ b ∈ fp, FpOk X pins H b) (go : z1x J tc te js σ H Q)
  (hRR : ∀ D C HB sB σB acc its n, s.heap.objs.size ≤ D → s.heap.objs.size ≤ C → D ≠ C → Inv (zk X sc (x :: cap) s H C fp) [] σB HB sB → HB D = none → sB.heap.get? D = some { cls := .type "list", data := .seq (its : List Value).toArray n } → Vals acc its → acc.length ≤ sizeLine →
   (∀ p, HB p = none → Q (.ref p) (upd HB p (.lst acc))) → RR (.ref D) C (.ok .next) sB) :
  wpAny (model X.prog X.w) X.A (newList []) (fun acc s₃ => wpAny (model X.prog X.w) X.A (newFunctionEnv sc X.env.globals (z1a X.env sc.names []) [] X.env.qual none .none (some X.env)) (fun cenv s₄ =>
   codeAny (model X.prog X.w) X.A (.compStart (.ListComp elt [⟨.Name x px, iter, ifs, 0⟩] sc pos) 0 (.ref it) acc { cenv with scope := relabel sc X.env }) (RR acc cenv.locals) s₄) E s₃) E s := by
 refine wpAny_newObj_type (wpAny_newFunctionEnv S.nocell (by intro y hy; simp at hy) (fun h₁ hns₁ hsb₁ => ?_) S.kind)
 dsimp only at hns₁ hsb₁ ⊢
 generalize hH2 : s.heap.push { cls := .type "list", dict := none, data := .seq ([] : List Value).toArray } = H2 at hns₁ hsb₁ ⊢
 have hCs : H2.objs.size = s.heap.objs.size + 1 := by rw [← hH2, Heap.size_push]
 have hDC : s.heap.objs.size ≠ H2.objs.size := by rw [hCs]; exact Nat.ne_of_lt (Nat.lt_succ_self _)
 have hCle : s.heap.objs.size ≤ H2.objs.size := by rw [hCs]; exact Nat.le_succ _
 have below : ∀ b, b < s.heap.objs.size → b ≠ H2.objs.size := fun b hb => by rw [hCs]; exact Nat.ne_of_lt (Nat.lt_succ_of_lt hb)
 have old : ∀ b o, s.heap.get? b = some o → h₁.get? b = some o := fun b o e => hsb₁.extBut b o (below b (Heap.lt_size e)) (Heap.get?_push_of_some _ (hH2 ▸ Heap.get?_push_of_some _ e))
 have hacc : h₁.get? s.heap.objs.size = some { cls := .type "list", data := .seq ([] : List Value).toArray 0 } := hsb₁.extBut _ _ hDC (Heap.get?_push_of_some _ (hH2 ▸ Heap.get?_push_size _ rfl))
 have hlt : ∀ b ∈ fp, b < s.heap.objs.size := fun b hb => by
  obtain ⟨o, e, _⟩ := T.obj _ _ st b hb
  exact Heap.lt_size e
 have hlocal : (relabel sc X.env).names.lookup x = some .local := lookup_relabel_local S.own
 obtain ⟨W, ⟨m0, w0⟩, turn⟩ := go
 have nD : ∀ b ∈ fp, b ≠ s.heap.objs.size := fun b hb => Nat.ne_of_lt (hlt b hb)
 have nfs : s.heap.objs.size ∉ frs X.stack := fun z => by
  obtain ⟨_, o, ho, _⟩ := I.stack.mem z
  exact absurd (Heap.lt_size ho) (Nat.lt_irrefl _)
 have ncl : ∀ y c, (z1a X.env sc.names []).lookup y = some c → c ≠ s.heap.objs.size := fun y c e => by
  obtain ⟨v, o, ho, _⟩ := I.cell y c (S.sub I e)
  exact Nat.ne_of_lt (Heap.lt_size ho)
 have loop : ∀ s₃ : Shared, s₃ = { s with heap := h₁, toks := s.toks + ([] : List (Str × Value)).length } →
   codeAny (model X.prog X.w) X.A (.compLoop (.ListComp elt [⟨.Name x px, iter, ifs, 0⟩] sc pos) 0 (.ref it) (.ref s.heap.objs.size) (compEnvC sc (z1a X.env sc.names []) H2.objs.size X.env))
    (RR (.ref s.heap.objs.size) H2.objs.size) s₃ := by
  rintro s₃ rfl
  have I0 : Inv (zk X sc (x :: cap) s H H2.objs.size fp) [] (none :: capt σ js) H { s with heap := h₁, toks := s.toks + ([] : List (Str × Value)).length } := z9v (v := none) S I hfp hlt hCle hns₁ old (s4 := s)
  refine z59 (fun n s' => ∃ i H' acc its k, Inv (zk X sc (x :: cap) s H H2.objs.size fp) [] (none :: capt σ js) H' s' ∧ tn i s'.heap ∧ (∀ b ∈ fp, H' b = none) ∧ H' s.heap.objs.size = none ∧
    s'.heap.get? s.heap.objs.size = some { cls := .type "list", data := .seq (its : List Value).toArray k } ∧ Vals acc its ∧ acc.length ≤ sizeLine ∧ W i n acc H') ?_ m0
   ⟨0, H, [], [], 0, I0, T.keep _ _ _ st fun b _ o e => old b o e, fun b hb => (hfp b hb).1, I.hok.fresh (Nat.le_refl _), hacc, .nil, Nat.zero_le _, w0⟩
  rintro n s3 ⟨i, H3, acc, its, kk, I3, st3, fr3, fD3, d3, r3, z3, w3⟩
  have fpY : ∀ {H' : Hp} {pl : List (Addr × Obj)}, (∀ b ∈ fp, H' b = none) → (∀ p ∈ pl, p.1 = s.heap.objs.size) → ∀ b ∈ fp, FpOk (zk X sc (x :: cap) s H H2.objs.size fp) pl H' b := fun {H' pl} hn hp b hb =>
   ⟨hn b hb, below b (hlt b hb), fun z => by
    rcases List.mem_cons.mp (I.stkSub b z) with q | q
    ·exact (hfp b hb).2.1 q
    ·exact (hfp b hb).2.2.1 q, .inl hb, fun y c e => (hfp b hb).2.2.2.2.1 y c (S.sub I e), fun p hp' => by
    rw [hp p hp']
    exact Ne.symm (nD b hb)⟩
  have pin3 : Inv (zk X sc (x :: cap) s H H2.objs.size fp) [(s.heap.objs.size, { cls := .type "list", data := .seq its.toArray kk })] (none :: capt σ js) H3 s3 := I3.pins_of fun p hp => by
   have e : p = (s.heap.objs.size, { cls := .type "list", data := .seq its.toArray kk }) := by simpa using hp
   subst e
   exact ⟨d3, fD3, hDC, nfs, fun v z => by cases z⟩
  have onlyD : ∀ p ∈ [(s.heap.objs.size, ({ cls := .type "list", data := .seq its.toArray kk } : Obj))], p.1 = s.heap.objs.size := fun p hp => by
   have e : p = (s.heap.objs.size, { cls := .type "list", data := .seq its.toArray kk }) := by simpa using hp
   rw [e]
  rcases turn i n acc H3 w3 with ⟨stop, qn⟩ | ⟨gon, hlen, step⟩
  ·refine wpAny_mono (T.done (zk X sc (x :: cap) s H H2.objs.size fp) rfl rfl rfl hcalm i _ s3 _ H3 (fun _ _ => False) pin3 (fpY fr3 onlyD) st3 stop) (fun r s4 hr => ?_) fun _ _ z => z.elim
   obtain ⟨hr, I4⟩ := hr
   subst hr
   have d4 := (I4.pin _ (List.mem_append_right _ List.mem_cons_self)).1
   exact hRR _ _ H3 s4 _ acc its kk (Nat.le_refl _) hCle hDC (I4.pins_of fun p hp => by simp at hp) fD3 d4 r3 z3 qn
  ·refine wpAny_mono (T.item (zk X sc (x :: cap) s H H2.objs.size fp) rfl rfl rfl hcalm i _ s3 _ H3 (fun _ _ => False) pin3 (fpY fr3 onlyD) st3 gon) (fun r s4 hr => ?_) fun _ _ z => z.elim
   obtain ⟨u, hr, h4⟩ := hr
   subst hr
   dsimp only
   refine wpAny_mono h4 (fun _ s5 h5 => ?_) fun _ _ z => z.elim
   obtain ⟨xv, H5, I5, r5, y5, st5, fr5⟩ := h5
   have I5' := I5.pinned (fpY fr5 onlyD) (T.obj _ _ st5)
   refine wpAny_assign_Name (z5d (X := zk X sc (x :: cap) s H H2.objs.size fp) I5' S.nd (i := 0) rfl (.inl hlocal) r5 (fun s6 I6 => ?_) (.inr hlocal))
   have I6' : Inv (zk X sc (x :: cap) s H H2.objs.size fp) ([(s.heap.objs.size, { cls := .type "list", data := .seq its.toArray kk })] ++ z33 fp s5.heap) (some xv :: capt σ js) H5 s6 := I6
   refine wpAny_mono (hc s H H2.objs.size fp _ s6 _ H5 _ I6' (step xv H5 y5)) (fun b s7 q7 => ?_) fun _ _ z => z.elim
   obtain ⟨H7, I7, q7⟩ := q7
   have weak : ∀ {pl : List (Addr × Obj)} {HH : Hp} {ss : Shared}, Inv (zk X sc (x :: cap) s H H2.objs.size fp) pl (some xv :: capt σ js) HH ss → Inv (zk X sc (x :: cap) s H H2.objs.size fp) pl (none :: capt σ js) HH ss := fun J => J.weak rfl fun k v e => by
    cases k with
    | zero => exact absurd (Option.some.inj e) (by simp)
    | succ k => simpa using e
   have back : ∀ {HH : Hp} {ss : Shared}, Inv (zk X sc (x :: cap) s H H2.objs.size fp) ([(s.heap.objs.size, { cls := .type "list", data := .seq its.toArray kk })] ++ z33 fp s5.heap) (some xv :: capt σ js) HH ss →
     tn (i + 1) ss.heap ∧ (∀ b ∈ fp, HH b = none) ∧ HH s.heap.objs.size = none ∧ ss.heap.get? s.heap.objs.size = some { cls := .type "list", data := .seq its.toArray kk } := fun {HH ss} K => by
    refine ⟨T.keep _ _ _ st5 fun b hb o e => (K.pin (b, o) (List.mem_append_right _ (List.mem_append_right _ (z21 hb e)))).1, fun b hb => ?_, ?_, ?_⟩
    ·obtain ⟨o, e, d⟩ := T.obj _ _ st5 b hb
     exact (K.pin (b, o) (List.mem_append_right _ (List.mem_append_right _ (z21 hb e)))).2.1
    ·exact (K.pin _ (List.mem_append_right _ (List.mem_append_left _ List.mem_cons_self))).2.1
    ·exact (K.pin _ (List.mem_append_right _ (List.mem_append_left _ List.mem_cons_self))).1
   cases b with
   | false =>
    rw [if_neg Bool.false_ne_true] at q7 ⊢
    obtain ⟨m', hm, w7⟩ := q7
    obtain ⟨b1, b2, b3, b4⟩ := back I7
    exact ⟨m', hm, i + 1, H7, acc, its, kk, (weak I7).pins_of fun p hp => by simp at hp, b1, b2, b3, b4, r3, z3, w7⟩
   | true =>
    rw [if_pos rfl] at q7 ⊢
    refine wpAny_mono (he s H H2.objs.size fp _ s7 _ H7 _ I7 q7) (fun u8 s8 q8 => ?_) fun _ _ z => z.elim
    obtain ⟨v8, H8, I8, r8, m', hm, w8⟩ := q8
    obtain ⟨b1, b2, b3, b4⟩ := back I8
    have hl3 := r3.length
    refine call_meets F.slot_list_append ⟨_, b4, rfl⟩ F.entry_list_append (F.args_list_append_2 _ _) (PySem.list_append s.heap.objs.size its.toArray kk u8 (by rw [List.size_toArray]; omega)) ⟨b4, ?_⟩
    have q := PySem.IsL.update b4 (·.push u8)
    obtain ⟨n', q'⟩ : ∃ n', (s8.heap.update s.heap.objs.size (Obj.mapSeq (·.push u8))).get? s.heap.objs.size = some { cls := .type "list", data := .seq (its ++ [u8]).toArray n' } := by
     rw [show (its ++ [u8]).toArray = its.toArray.push u8 by simp]
     exact ⟨_, q⟩
    refine ⟨m', hm, i + 1, H8, acc ++ [v8], its ++ [u8], _, ?_, T.keep _ _ _ b1 fun b hb o e => (Heap.get?_update_other s8.heap _ (Ne.symm (nD b hb))).trans e, b2, b3, q', r3.append (.cons r8 .nil), by rw [List.length_append, List.length_singleton]; omega, w8⟩
    exact Inv.turned (X := zk X sc (x :: cap) s H H2.objs.size fp) (it := s.heap.objs.size) ((weak I8).pins_of (pins' := []) fun p hp => by simp at hp) (fun b o hb e => (Heap.get?_update_other s8.heap _ (Ne.symm hb)).trans e) b3 hDC (.inr (Nat.le_refl _)) ncl (fun p hp => absurd (show p ∈ ([] : List (Addr × Obj)) from hp) (by simp))
 exact codeAny_compStart_list (loop _ rfl) (T.self _ 0 _ _ _ (T.keep _ _ _ st fun b _ o e => old b o e) (loop _ rfl))
theorem z1e {wi : TI} (hcalm : X.calm = true) (S : CompScope X sc x cap js) (hi : PI X (.Name x px) iter wi) (hc : ∀ s H C fp, PIf (zk X sc (x :: cap) s H C fp) ifs tc) (he : ∀ s H C fp, PE (zk X sc (x :: cap) s H C fp) elt te)
  (hs : ∀ x, foldedSetIterable iter X.env x = pure x := by intro _; rfl) : PE X (.ListComp elt [⟨.Name x px, iter, ifs, 0⟩] sc pos) (zcs wi tc te js) := by
 intro pins s σ H Q I h
 rw [eval_ListComp]
 refine wpAny_comprehension_free (use := none) rfl hs (z5w (S.cells I)) S.kind S.names (thn (hi pins s σ H _ I h) fun v s1 h1 => thn h1 fun itv s2 h2 => ?_)
 obtain ⟨it, fp, tn, J, H2, e, I2, T, st2, f2, go⟩ := h2
 subst e
 refine z9w S hcalm hc he I2 T st2 f2 go fun D C HB sB σB acc its n hD hC hDC IB hHD hd rv hz q => ?_
 obtain ⟨m, hn, _⟩ := IB.loc
 exact ⟨m, hn, fun h' sb => ⟨.ref D, upd HB D (.lst acc), z7u (sc := sc) (x := x) (cap := cap) I2 f2 IB hC hD hDC hHD hd rv hz fun b o hb e => sb.extBut b o hb e, rfl, q D hHD⟩⟩
end
end L2
end
section
namespace L2
open PySem PySem.Spec PyProof.Rows
section
variable {X : Cx}
theorem ze1 : SlR X (fun x lo hi H Q => ∃ z, x = .str z ∧ z.length ≤ sizeLine ∧ Q (.str (Txt.slice z lo hi)) H) := by
 intro pins s σ H x v vl vu lo hi sl Q I rx hs pl pu h
 obtain ⟨z, rfl, hz, q⟩ := h
 obtain ⟨t, rfl⟩ := rx
 refine ⟨"str", _, F.slot_str_getitem.lookup, typeIs_str _ _ _, ?_⟩
 have fin : ∀ t' k, EP X pins σ Q (.str (Txt.slice z lo hi) t') { s with toks := k } := fun t' k => ⟨.str _, H, I.tok _, ⟨_, rfl⟩, q⟩
 obtain ⟨o, h1, h2, h3⟩ := hs
 cases pl with
 | none =>
  cases pu with
  | none => exact wpAny_getItem_str_slice (l := none) (u := none) (st := none) ⟨o, h1, h2, h3⟩ rfl (post_val_or_str ⟨Nat.le_trans (Txt.slice_le z none none) hz, fin⟩)
  | int j u => exact wpAny_getItem_str_slice (l := none) (u := some (j, u)) (st := none) ⟨o, h1, h2, h3⟩ rfl (post_val_or_str ⟨Nat.le_trans (Txt.slice_le z none (some j)) hz, fin⟩)
 | int i u' =>
  cases pu with
  | none => exact wpAny_getItem_str_slice (l := some (i, u')) (u := none) (st := none) ⟨o, h1, h2, h3⟩ rfl (post_val_or_str ⟨Nat.le_trans (Txt.slice_le z (some i) none) hz, fin⟩)
  | int j u => exact wpAny_getItem_str_slice (l := some (i, u')) (u := some (j, u)) (st := none) ⟨o, h1, h2, h3⟩ rfl (post_val_or_str ⟨Nat.le_trans (Txt.slice_le z (some i) (some j)) hz, fin⟩)
theorem z6t : ∀ (l : List (Str × Tok)), Vals ((l.map (·.1)).map V.str) (strValues l)
 | [] => .nil
 | (x, t) :: r => .cons ⟨t, rfl⟩ (z6t r)
def zb0 : V → List V → Hp → VK → Prop := fun x vs H Q => ∃ z y, x = .str z ∧ vs = [.str y] ∧ y.length = 1 ∧ z.length + 2 ≤ sizeLine ∧ ∀ p, H p = none → Q (.ref p) (upd H p (.lst ((Txt.split z y).map V.str)))
theorem zc3 : MtR X "str.split" zb0 := by
 intro pins s σ H x vs v us Q I rx rv h
 obtain ⟨z, y, rfl, rfl, hy, hz, q⟩ := h
 obtain ⟨t, rfl⟩ := rx
 obtain ⟨u, rfl, t', rfl⟩ := rv.one
 have hn : (Builtin.Str.partsBetween z (Builtin.Str.occurrences z y 0 z.length (z.length + 1)) y.length).length ≤ sizeLine := by
  have e1 := StrLaws.occ_length_le z y 0 z.length (z.length + 1)
  rw [length_partsBetween]; omega
 have hy0 : (y.length == 0) = false := by rw [hy]; rfl
 have fin : ∀ (l : List (Str × Tok)) (tk : Nat), l.map (·.1) = Txt.split z y → (Txt.split z y).length ≤ sizeLine → EP X pins σ Q (.ref s.heap.objs.size) { s with toks := tk, heap := s.heap.push { cls := .type "list", data := .seq (strValues l).toArray } } := fun l tk e hl => by
  refine ⟨.ref s.heap.objs.size, _, I.lnew (t' := tk) (ys := (Txt.split z y).map V.str) ?_ (by rw [List.length_map]; exact hl), rfl, q _ I.fresh⟩
  rw [← e]
  exact z6t l
 cases h1 : (decide (z.length < y.length) || decide (Builtin.Str.strKind z < Builtin.Str.strKind y))
 ·cases hf : (Builtin.Str.occurrences z y 0 z.length (z.length + 1)).isEmpty
  ·have e : Txt.split z y = Builtin.Str.partsBetween z (Builtin.Str.occurrences z y 0 z.length (z.length + 1)) y.length := (if_neg (ne_true_of_eq_false h1)).trans (if_neg (ne_true_of_eq_false hf))
   refine call_meets F.slot_str_split (typeIs_str _ _ _) F.entry_str_split (F.args_str_split_2 _ _) (meets_str_split_sep z y t t' h1 hy0 hf (by omega) hn) ?_
   show wants _ _ _ { s with toks := _, heap := s.heap.push { cls := .type "list", data := .seq (strsFrom s.toks (Builtin.Str.partsBetween z (Builtin.Str.occurrences z y 0 z.length (z.length + 1)) y.length)).toArray } }
   rw [strsFrom_eq]
   exact fin (numbered s.toks _) _ ((numbered_texts _ _).trans e.symm) (by rw [e]; exact hn)
  ·have e : Txt.split z y = [z] := (if_neg (ne_true_of_eq_false h1)).trans (if_pos hf)
   exact call_meets F.slot_str_split (typeIs_str _ _ _) F.entry_str_split (F.args_str_split_2 _ _) (meets_str_split_not_found z y t t' h1 hy0 hf) (fin [(z, t)] s.toks e.symm (by rw [e]; show 1 ≤ sizeLine; decide))
 ·have e : Txt.split z y = [z] := if_pos h1
  exact call_meets F.slot_str_split (typeIs_str _ _ _) F.entry_str_split (F.args_str_split_2 _ _) (meets_str_split_cannot_occur z y t t' h1) (fin [(z, t)] s.toks e.symm (by rw [e]; show 1 ≤ sizeLine; decide))
theorem z6u : ∀ bs : List Bool, (List.range bs.length).all (fun j => bs.getD j true) = bs.all id
 | [] => rfl
 | b :: bs => by
  show (List.range (bs.length + 1)).all _ = _
  rw [List.range_succ_eq_map, List.all_cons, List.all_map, List.all_cons]
  show (b && (List.range bs.length).all fun j => bs.getD j true) = _
  rw [z6u bs]
  rfl
theorem zy (hc : X.calm = true) : CallR X (.builtin "all") (fun xs H Q => ∃ p bs, xs = [.ref p] ∧ SqL X.K H p ((bs : List Bool).map V.bl) ∧ Q (.bl (bs.all id)) H) := by
  intro pins s σ H xs us Q I r h
  obtain ⟨p, bs, rfl, hp, q⟩ := h
  obtain ⟨u, rfl, ru⟩ := z2p r
  cases ru
  obtain ⟨its, r1, p1, _⟩ := I.list hp
  have hl := r1.length
  rw [List.length_map] at hl
  refine call_all_walk (wpAny_pyIter_list p1.isList ?_)
  obtain ⟨ol, n, hol, hcl, hdl, hsl⟩ := id p1
  have hne : p ≠ s.heap.objs.size := Nat.ne_of_lt (Heap.lt_size hol)
  refine ⟨s.heap.objs.size, [s.heap.objs.size, p], [s.heap.objs.size], its.toArray.size, _, _, fun j => bs.getD j true, rfl, Walks.list (by exact I.ok.hd hc) s.heap.objs.size p hne its.toArray,
    ⟨⟨_, Heap.get?_push_size _ rfl, rfl, rfl⟩, ⟨ol, Heap.get?_push_of_some _ hol, hcl, n, hsl⟩⟩, ?_, fun h' tk k => ?_⟩
  · intro j v s' Q' E' hv hq
    have hv : its.toArray[j]? = some v := hv
    have e0 : its[j]? = some v := by simpa using hv
    have hj : j < its.length := (List.getElem?_eq_some_iff.mp e0).1
    have e1 : (bs.map V.bl)[j]? = some (V.bl (bs.getD j true)) := by
      rw [List.getElem?_map, List.getD_eq_getElem?_getD, List.getElem?_eq_getElem (by omega)]
      rfl
    obtain ⟨w, q1, rw'⟩ := r1.get e1
    rw [e0] at q1
    cases q1
    cases rw'
    exact wpAny_truthy_bool hq
  · have e : (List.range its.toArray.size).all (fun j => bs.getD j true) = bs.all id := by
      rw [List.size_toArray, ← hl]
      exact z6u bs
    rw [e]
    have I2 : Inv X pins σ H { s with heap := h', toks := tk } := by
     refine I.kept (t' := tk) (h' := h') fun b o e => k b o ?_ (Heap.get?_push_of_some _ e)
     intro z
     have : b = s.heap.objs.size := by simpa using z
     exact absurd (Heap.lt_size e) (by rw [this]; exact Nat.lt_irrefl _)
    exact ⟨.bl _, H, I2, rfl, q⟩
theorem ze : CallR X (.builtin "isinstance") (fun xs H Q => ∃ x c t b, xs = [x, .ty c] ∧ TyOf X.K H x t ∧ PySem.W.kitOne X.K t (.type c) = some b ∧ Q (.bl b) H) := by
 intro pins s σ H xs us Q I r h
 obtain ⟨x, c, t, b, rfl, ty, e, q⟩ := h
 obtain ⟨u, w', rfl, r1, r2⟩ := zco r
 cases r2
 exact zat I r1 ty e fun tk => ⟨.bl b, H, I.tok _, rfl, q⟩
end
theorem z27 (K : PySem.W.Frag) : PySem.W.kitOne K (.type "bool") (.type "bool") = some true := by with_unfolding_all rfl
theorem z2i (K : PySem.W.Frag) : PySem.W.kitOne K (.type "int") (.type "bool") = some false := by with_unfolding_all rfl
end L2
end
section
namespace L2
open PySem PySem.Spec PyProof.Rows
def Def (K : PySem.W.Frag) (mg : Str → Option Value) (x : Str) (st : Stmt) (ps : List Str) : Prop := ∃ f fd, Fun K x x st f fd ∧ mg x = some (.ref f) ∧ Binds K fd ps []
def Has (P : Program) (w : World) (K : PySem.W.Frag) (mg : Str → Option Value) (base : Heap) (k : Nat) (x : Str) (ps : List Str) (sp : Sp) : Prop :=
 ∃ f fd, FnOk P w K mg base CX0 k f fd ps sp ∧ mg x = some (.ref f) ∧ PySem.W.keepIn K (.ref f) = true ∧ Binds K fd ps [] ∧ ∃ oc od osl, K.lookup f = some ⟨oc, od, .func fd, osl⟩
theorem Def.ok {P : Program} {w : World} {K : PySem.W.Frag} {mg : Str → Option Value} {base : Heap} {x : Str} {st : Stmt} {N ps : List Str} {k : Nat} {sp : Sp} (D : Def K mg x st ps) (S : FnScope N ps (zc st)) (len : ∀ vs H Q E, sp vs H Q E → vs.length = ps.length)
  (hbody : ∀ (f : Addr) (cdv : Value) (A : Around) (outer : List Env) (s : Shared) (H : Hp) (vs : List V) (Q : VK) (E : XK), Room k (A.deeper (envOfC x (zc st) s.heap.objs.size f cdv)) → sp vs H Q E →
   ∃ t, PSs (cxOf CX0 P w K mg base N x (zc st) f cdv A outer s H E).nox (z1k st) t ∧ t { nx := fun _ H' => Q .non H', rt := Q } (start N vs) H) : Has P w K mg base (k + 1) x ps sp := by
 obtain ⟨f, fd, F, hm, hb⟩ := D
 exact ⟨f, fd, F.ok S len (fun cdv A outer s H vs Q E hr h => hbody f cdv A outer s H vs Q E hr h), hm, F.kp, hb, by
  obtain ⟨oc, od, kV, doc, pm, an, cdv, ct, osl, rfl, lk, hcd⟩ := F.ex
  exact ⟨oc, od, osl, lk⟩⟩
section
variable {X : Cx} {k : Nat} {x : Str} {ps : List Str} {sp : Sp} {e : Expr} {es : List Expr} {t : TA} {p pos : Pos}
theorem z10 (G : Has X.prog X.w X.K X.mg X.base k x ps sp) (hr : Room k X.A) (hg : Gl X x) (ha : PA X (e :: es) t) (hdb : (x == ("__debug__" : Str)) = false := by decide) (he : starEach (e :: es) X.env = (false, eval e X.env) :: starEach es X.env := by rfl) (hpl : (backTo pos (starEach es X.env)).any (·.1) = false := by rfl) :
  PE X (.Call (.Name x p) (e :: es) [] pos) (z9t sp [] E0 t) := by
 obtain ⟨f, fd, F, hm, hk, hb, _⟩ := G
 exact zd6 F hr hg hm hk hb .nil z5v ha hdb he hpl
end
def z4u (H : Hp) (Q : VK) (v : V) : Prop := ∀ H', Same H H' → Q v H'
end L2
namespace L2
open PySem PySem.Spec PyProof.Rows
theorem Has.at {P : Program} {w : World} {K : PySem.W.Frag} {mg : Str → Option Value} {base : Heap} {k : Nat} {x : Str} {ps : List Str} {sp : Sp} {st : Stmt} {f : Addr} {fd : FuncData} (G : Has P w K mg base k x ps sp) (hm : mg x = some (.ref f)) (F : Fun K x x st f fd) : FnOk P w K mg base CX0 k f fd ps sp := by
 obtain ⟨f', fd', FO, hm', hk, hb, oc', od', osl', lk'⟩ := G
 have e := hm'.symm.trans hm
 cases e
 obtain ⟨oc, od, kV, doc, pm, an, cdv, ct, osl, rfl, lk, hcd⟩ := F.ex
 rw [lk] at lk'
 have e2 := Option.some.inj lk'
 injection e2 with _ _ e3 _
 injection e3 with e4
 rw [e4]
 exact FO
end L2
namespace L2
open PySem PySem.Spec PyProof.Rows
theorem z9x {n : Nat} (h : n ≤ 1000000) : n + 2 ≤ sizeLine := by rw [sizeLine_eq]; omega
theorem zu {n : Nat} (h : n ≤ 1000000) : n ≤ sizeLine := by rw [sizeLine_eq]; omega
theorem zde {z y : Str} {H : Hp} {Q : VK} (hy : y.length = 1) (hz : z.length ≤ 1000000) (h : ∀ p, H p = none → Q (.ref p) (upd H p (.lst ((Txt.split z y).map V.str)))) : zb0 (.str z) [.str y] H Q :=
 ⟨z, y, rfl, rfl, hy, z9x hz, h⟩
theorem z7v (l : List Str) : (l.map V.str).all z2q = true := by
 rw [List.all_eq_true]
 intro x hx
 obtain ⟨a, _, rfl⟩ := List.mem_map.mp hx
 rfl
theorem ze2 (xs : List V) (n : Nat) : cutV xs none (some (n : Int)) = xs.take n := by
 have e : HT.sIx xs.length xs.length (some (n : Int)) = min n xs.length := by
  unfold HT.sIx
  simp
  try omega
 have e0 : HT.sIx xs.length 0 none = 0 := rfl
 unfold cutV
 rw [e, e0]
 simp
theorem Same.upd {H : Hp} {p : Addr} {o : HO} (h : H p = none) : Same H (upd H p o) := fun b u e => by
 rw [z7 (za e h)]
 exact e
end L2
namespace L2
open PySem PySem.Spec PyProof.Rows
def z9y (J : It) (g : TG) (tb : TS) (D : Ends) (σ : St) (H : Hp) : Prop := ∃ W : Nat → Nat → St → Hp → Prop, (∃ m, W 0 m σ H) ∧ ∀ i m σ H, W i m σ H →
 (J.stop i H ∧ D.nx σ H) ∨ (J.go i H ∧ ∃ N : St → Hp → Prop, (∀ σ' H', N σ' H' → ∃ m', m' < m ∧ W (i + 1) m' σ' H') ∧ ∀ x H', J.yld i H x H' → g x σ H' fun σ2 H2 => tb { D with nx := N, ct := N, bk := D.nx } σ2 H2)
theorem zc4 (wi : TI) (g : TG) (tb : TS) (D : Ends) (σ : St) (H : Hp) : tFor wi g tb D σ H = wi σ H fun J H1 => z9y J g tb D σ H1 := rfl
theorem zb1 (ta : TA) (σ : St) (H : Hp) (R : It → Hp → Prop) : z9p ta σ H R = ta σ H fun vs H1 => ∃ j : Int, vs = [.int j] ∧ (-(2 ^ 62) ≤ j ∧ j < 2 ^ 62) ∧ R (Itr 0 j.toNat) H1 := by
 unfold z9p
 simp only [and_assoc]
theorem zb2 (ta : TA) (σ : St) (H : Hp) (R : It → Hp → Prop) : zcm ta σ H R = ta σ H fun vs H1 => ∃ i j : Int, vs = [.int i, .int j] ∧ (-(2 ^ 62) ≤ i ∧ i < 2 ^ 62 ∧ -(2 ^ 62) ≤ j ∧ j < 2 ^ 62) ∧ R (Itr i (j - i).toNat) H1 := rfl
theorem z2s {lo : Int} {n : Nat} {g : TG} {tb : TS} {D : Ends} {σ : St} {H : Hp} (sp : Nat → St → Hp → Prop) (h0 : sp 0 σ H)
  (hs : ∀ (Pv : Nat → St → Hp → Prop), (∀ i σ H, sp i σ H → Pv i σ H) → ∀ i σ H, i < n → sp i σ H → g (.int (lo + i)) σ H fun σ2 H2 => tb { D with nx := Pv (i + 1), ct := Pv (i + 1), bk := D.nx } σ2 H2) (hd : ∀ σ H, sp n σ H → D.nx σ H) : z9y (Itr lo n) g tb D σ H :=
 zan sp h0 (hs sp fun _ _ _ h => h) hd
theorem z9z {K : PySem.W.Frag} {a : Addr} {xs : List V} {g : TG} {tb : TS} {D : Ends} {σ : St} {H : Hp} (sp : Nat → St → Hp → Prop) (h0 : sp 0 σ H) (hl : ∀ i σ H, i ≤ xs.length → sp i σ H → SqL K H a xs)
  (hs : ∀ (Pv : Nat → St → Hp → Prop), (∀ i σ H, sp i σ H → Pv i σ H) → ∀ i x σ H, xs[i]? = some x → sp i σ H → g x σ H fun σ2 H2 => tb { D with nx := Pv (i + 1), ct := Pv (i + 1), bk := D.nx } σ2 H2) (hd : ∀ σ H, sp xs.length σ H → D.nx σ H) : z9y (Itl K a) g tb D σ H :=
 zbw sp h0 hl (hs sp fun _ _ _ h => h) hd
theorem zb3 (wi : TI) (tc : TT) (te : TE) (js : List Nat) (σ : St) (H : Hp) (Q : VK) : zcs wi tc te js σ H Q = wi σ H fun J H1 => z1x J tc te js σ H1 Q := rfl
def Nx (n : Nat) (Pv : Nat → List V → Hp → Prop) (i : Nat) (acc : List V) (H : Hp) : Prop := ∃ m', m' < n - i ∧ m' = n - (i + 1) ∧ i + 1 ≤ n ∧ Pv (i + 1) acc H
theorem nx {n : Nat} {Pv : Nat → List V → Hp → Prop} {i : Nat} {acc : List V} {H : Hp} (hi : i < n) (h : Pv (i + 1) acc H) : Nx n Pv i acc H := ⟨n - (i + 1), by omega, rfl, hi, h⟩
theorem z3z {J : It} {tc : TT} {te : TE} {js : List Nat} {σ : St} {H1 : Hp} {Q : VK} (n : Nat) (hn : n ≤ sizeLine) (Pv : Nat → List V → Hp → Prop) (h0 : Pv 0 [] H1) (hlen : ∀ i acc H, Pv i acc H → acc.length ≤ i)
  (hgo : ∀ i acc H, i < n → Pv i acc H → J.go i H) (hstop : ∀ acc H, Pv n acc H → J.stop n H)
  (hs : ∀ i acc H x H', i < n → Pv i acc H → J.yld i H x H' → tc (some x :: capt σ js) H' fun b H2 => if b = true then te (some x :: capt σ js) H2 fun v H3 => Nx n Pv i (acc ++ [v]) H3 else Nx n Pv i acc H2)
  (hd : ∀ acc H, Pv n acc H → ∀ p, H p = none → Q (.ref p) (upd H p (.lst acc))) : z1x J tc te js σ H1 Q := by
 refine ⟨fun i m acc H => m = n - i ∧ i ≤ n ∧ Pv i acc H, ⟨n, by simp, Nat.zero_le _, h0⟩, ?_⟩
 rintro i m acc H ⟨rfl, hi, p⟩
 by_cases hlt : i < n
 ·exact .inr ⟨hgo i acc H hlt p, by have := hlen i acc H p; omega, fun x H' y => hs i acc H x H' hlt p y⟩
 ·have e : i = n := by omega
  subst e
  exact .inl ⟨hstop acc H p, hd acc H p⟩
theorem z8o {z : Str} {tc : TT} {te : TE} {js : List Nat} {σ : St} {H1 : Hp} {Q : VK} (hn : z.cps.size ≤ sizeLine) (Pv : Nat → List V → Hp → Prop) (h0 : Pv 0 [] H1) (hlen : ∀ i acc H, Pv i acc H → acc.length ≤ i)
  (hs : ∀ i acc H c, z.cps[i]? = some c → i < z.cps.size → Pv i acc H → tc (some (.str ⟨#[c]⟩) :: capt σ js) H fun b H2 => if b = true then te (some (.str ⟨#[c]⟩) :: capt σ js) H2 fun v H3 => Nx z.cps.size Pv i (acc ++ [v]) H3 else Nx z.cps.size Pv i acc H2)
  (hd : ∀ acc H, Pv z.cps.size acc H → ∀ p, H p = none → Q (.ref p) (upd H p (.lst acc))) : z1x (Its z) tc te js σ H1 Q := by
 refine z3z z.cps.size hn Pv h0 hlen (fun i acc H hi p => hi) (fun acc H p => Nat.le_refl _) (fun i acc H x H' hi p y => ?_) hd
 obtain ⟨e, c, hc, y⟩ := y
 subst e y
 exact hs i acc H' c hc hi p
theorem z72 {lo : Int} {n : Nat} {tc : TT} {te : TE} {js : List Nat} {σ : St} {H1 : Hp} {Q : VK} (hn : n ≤ sizeLine) (Pv : Nat → List V → Hp → Prop) (h0 : Pv 0 [] H1) (hlen : ∀ i acc H, Pv i acc H → acc.length ≤ i)
  (hs : ∀ i acc H, i < n → Pv i acc H → tc (some (.int (lo + i)) :: capt σ js) H fun b H2 => if b = true then te (some (.int (lo + i)) :: capt σ js) H2 fun v H3 => Nx n Pv i (acc ++ [v]) H3 else Nx n Pv i acc H2)
  (hd : ∀ acc H, Pv n acc H → ∀ p, H p = none → Q (.ref p) (upd H p (.lst acc))) : z1x (Itr lo n) tc te js σ H1 Q := by
 refine z3z n hn Pv h0 hlen (fun i acc H hi p => hi) (fun acc H p => Nat.le_refl _) (fun i acc H x H' hi p y => ?_) hd
 obtain ⟨e, y⟩ := y
 subst e y
 exact hs i acc H' hi p
theorem z7w {K : PySem.W.Frag} {a : Addr} {xs : List V} {tc : TT} {te : TE} {js : List Nat} {σ : St} {H1 : Hp} {Q : VK} (hn : xs.length ≤ sizeLine) (Pv : Nat → List V → Hp → Prop) (h0 : Pv 0 [] H1) (hlen : ∀ i acc H, Pv i acc H → acc.length ≤ i) (hl : ∀ i acc H, Pv i acc H → SqL K H a xs)
  (hs : ∀ i acc H x, xs[i]? = some x → i < xs.length → Pv i acc H → tc (some x :: capt σ js) H fun b H2 => if b = true then te (some x :: capt σ js) H2 fun v H3 => Nx xs.length Pv i (acc ++ [v]) H3 else Nx xs.length Pv i acc H2)
  (hd : ∀ acc H, Pv xs.length acc H → ∀ p, H p = none → Q (.ref p) (upd H p (.lst acc))) : z1x (Itl K a) tc te js σ H1 Q := by
 refine z3z xs.length hn Pv h0 hlen (fun i acc H hi p => ⟨xs, xs[i], hl i acc H p, by simp [hi]⟩) (fun acc H p => ⟨xs, hl _ acc H p, Nat.le_refl _⟩) (fun i acc H x H' hi p y => ?_) hd
 obtain ⟨e, y⟩ := y
 subst e
 exact hs i acc H' x (y xs (hl i acc H' p)) hi p
theorem za0 {z : Str} {tc : TT} {te : TE} {js : List Nat} {σ : St} {H1 : Hp} {Q : VK} (hn : z.cps.size ≤ sizeLine) (sp : Nat → List V → Hp → Prop) (h0 : sp 0 [] H1) (hlen : ∀ i acc H, sp i acc H → acc.length ≤ i)
  (hs : ∀ (Nt : List V → Hp → Prop) i acc H c, (∀ acc H, sp (i + 1) acc H → Nt acc H) → z.cps[i]? = some c → i < z.cps.size → sp i acc H → tc (some (.str ⟨#[c]⟩) :: capt σ js) H fun b H2 => if b = true then te (some (.str ⟨#[c]⟩) :: capt σ js) H2 fun v H3 => Nt (acc ++ [v]) H3 else Nt acc H2)
  (hd : ∀ acc H, sp z.cps.size acc H → ∀ p, H p = none → Q (.ref p) (upd H p (.lst acc))) : z1x (Its z) tc te js σ H1 Q :=
 z8o hn sp h0 hlen (fun i acc H c hc hi p => hs (Nx z.cps.size sp i) i acc H c (fun _ _ h => nx hi h) hc hi p) hd
theorem z2j {lo : Int} {n : Nat} {tc : TT} {te : TE} {js : List Nat} {σ : St} {H1 : Hp} {Q : VK} (hn : n ≤ sizeLine) (sp : Nat → List V → Hp → Prop) (h0 : sp 0 [] H1) (hlen : ∀ i acc H, sp i acc H → acc.length ≤ i)
  (hs : ∀ (Nt : List V → Hp → Prop) i acc H, (∀ acc H, sp (i + 1) acc H → Nt acc H) → i < n → sp i acc H → tc (some (.int (lo + i)) :: capt σ js) H fun b H2 => if b = true then te (some (.int (lo + i)) :: capt σ js) H2 fun v H3 => Nt (acc ++ [v]) H3 else Nt acc H2)
  (hd : ∀ acc H, sp n acc H → ∀ p, H p = none → Q (.ref p) (upd H p (.lst acc))) : z1x (Itr lo n) tc te js σ H1 Q :=
 z72 hn sp h0 hlen (fun i acc H hi p => hs (Nx n sp i) i acc H (fun _ _ h => nx hi h) hi p) hd
theorem z2t {K : PySem.W.Frag} {a : Addr} {xs : List V} {tc : TT} {te : TE} {js : List Nat} {σ : St} {H1 : Hp} {Q : VK} (hn : xs.length ≤ sizeLine) (sp : Nat → List V → Hp → Prop) (h0 : sp 0 [] H1) (hlen : ∀ i acc H, sp i acc H → acc.length ≤ i) (hl : ∀ i acc H, sp i acc H → SqL K H a xs)
  (hs : ∀ (Nt : List V → Hp → Prop) i acc H x, (∀ acc H, sp (i + 1) acc H → Nt acc H) → xs[i]? = some x → i < xs.length → sp i acc H → tc (some x :: capt σ js) H fun b H2 => if b = true then te (some x :: capt σ js) H2 fun v H3 => Nt (acc ++ [v]) H3 else Nt acc H2)
  (hd : ∀ acc H, sp xs.length acc H → ∀ p, H p = none → Q (.ref p) (upd H p (.lst acc))) : z1x (Itl K a) tc te js σ H1 Q :=
 z7w hn sp h0 hlen hl (fun i acc H x hx hi p => hs (Nx xs.length sp i) i acc H x (fun _ _ h => nx hi h) hx hi p) hd
end L2
namespace L2
open PySem PySem.Spec PyProof.Rows
def tCut (t u : TS) : TS := fun D σ H => ∃ Mid : St → Hp → Prop, t { D with nx := Mid } σ H ∧ ∀ σ H, Mid σ H → u D σ H
theorem z31 {X : Cx} {st : Stmt} {rest : List Stmt} {t u : TS} (h1 : PS X st t) (h2 : PSs X rest u) : PSs X (st :: rest) (tCut t u) := by
 intro pins s σ H D I ⟨Mid, h, hm⟩
 refine wpAny_execs_cons (thn (h1 pins s σ H { D with nx := Mid } I h) fun f s1 q => ?_)
 cases f with
 | next =>
  obtain ⟨σ', H', I', q⟩ := q
  exact h2 pins s1 σ' H' D I' (hm σ' H' q)
 | ret v => exact q
 | brk => exact q
 | cont => exact q
theorem z4v {t u : TS} {D : Ends} {σ : St} {H : Hp} (sp : St → Hp → Prop) (h1 : ∀ Mid : St → Hp → Prop, (∀ σ H, sp σ H → Mid σ H) → t { D with nx := Mid } σ H) (h2 : ∀ σ H, sp σ H → u D σ H) : tCut t u D σ H := ⟨sp, h1 sp fun _ _ h => h, h2⟩
theorem cdiv {i j : Int} (h1 : 0 < j) (h2 : j < 1073741824) : CDiv i j := ⟨h1, h2⟩
end L2
namespace L2
open PySem PySem.Spec PyProof.Rows
def ze3 (dn cn : List (Str × NameKind)) : Bool := cn.all fun y => (y.2 != .free) || (dn.lookup y.1 == some .cell) || (dn.lookup y.1 == some .free)
theorem zw {X : Cx} {sc : Scope} (h : ze3 X.env.scope.names sc.names = true) : ∀ y ∈ sc.names, y.2 = .free → X.env.kindOf y.1 = some .cell ∨ X.env.kindOf y.1 = some .free := by
 intro y hy hf
 have := List.all_eq_true.mp h y hy
 rw [hf] at this
 simp at this
 exact this
end L2
end
section
namespace L2
open PySem PySem.Spec PyProof.Rows
theorem ObjOk.here {P : Program} {w : World} {H : Hp} {h : Heap} {a : Addr} {o : HO} (x : ObjOk P w H h a o) : ∃ ob, h.get? a = some ob := by
 cases o with
 | lst xs => obtain ⟨_, _, _, _, e⟩ := x; exact ⟨_, e⟩
 | tup xs => obtain ⟨_, _, _, ob, e, _⟩ := x; exact ⟨_, e⟩
 | dK kvs => obtain ⟨_, _, _, _, ob, _, _, e, _⟩ := x; exact ⟨_, e⟩
 | dT kvs => obtain ⟨_, _, _, _, ob, _, _, e, _⟩ := x; exact ⟨_, e⟩
 | set S n => obtain ⟨ob, _, _, _, e, _⟩ := x; exact ⟨_, e⟩
 | ins C dx fs => obtain ⟨_, _, _, e, _⟩ := x; exact ⟨_, e⟩
 | own y => obtain ⟨ob, e⟩ := x; exact ⟨_, e⟩
 | xd fs => obtain ⟨_, ⟨ob, _, _, e, _⟩, _⟩ := x; exact ⟨_, e⟩
 | rng lo hi => obtain ⟨_, _, _, e⟩ := x; exact ⟨_, e⟩
 | frz ob u => obtain ⟨e, _⟩ := x; exact ⟨_, e⟩
 | tbl ps => exact ⟨_, (show h.get? a = some _ from x)⟩
 | met f y => exact ⟨_, (show h.get? a = some _ from x)⟩
 | ext φ => obtain ⟨_, ⟨ob, e⟩, _⟩ := x; exact ⟨_, e⟩
theorem z69 {P : Program} {w : World} {H : Hp} {B h h' : Heap} (k : B.StaysIn h) (k' : B.StaysIn h') (tr : ∀ b u, H b = some u → ∃ o, B.get? b = some o) (ok : HOk P w H h) : HOk P w H h' := fun a o e =>
 (ok a o e).stay (fun b u hb q => by
  have hbt : ∃ v, H b = some v := by
   rcases hb with z | z
   ·exact ⟨o, by rw [z]; exact e⟩
   ·exact ⟨_, z⟩
  obtain ⟨v, hv⟩ := hbt
  obtain ⟨ob, hob⟩ := tr b v hv
  have := k b ob hob
  rw [q] at this
  cases this
  exact k' b u hob) (fun _ q => q) fun _ _ q => q
theorem zb4 {fs : List Addr} {H H' : Hp} {g B h h' : Heap} (k : B.StaysIn h) (k' : B.StaysIn h') (hfr : ∀ b ∈ fs, ∃ o, h.get? b = some o ∧ ∀ vs, o.data ≠ .fields vs) (up : h.UpToSlots h')
  (old : ∀ b o, g.get? b = some o → b ∉ fs → ∃ o', B.get? b = some o') (u : Un fs [] H H' g h) : Un fs [] H H' g h' where
 keep := fun b o q n hb hx => by
  obtain ⟨ob, hob⟩ := old b o q hb
  have e1 := u.keep b o q n hb hx
  have e2 := k b ob hob
  rw [e1] at e2
  cases e2
  exact k' b o hob
 slot := fun b o q n hb hx => by
  obtain ⟨sl, e1⟩ := u.slot b o q n hb hx
  obtain ⟨o2, e2, d2⟩ := hfr b hb
  rw [e1] at e2
  cases e2
  obtain ⟨sl', e3⟩ := up b _ e1 d2
  exact ⟨sl', e3⟩
 free := u.free
 there := fun b o q hx => by
  by_cases hb : b ∈ fs
  ·obtain ⟨o2, e2, d2⟩ := hfr b hb
   obtain ⟨sl', e3⟩ := up b _ e2 d2
   exact ⟨_, e3⟩
  ·obtain ⟨ob, hob⟩ := old b o q hb
   exact ⟨ob, k' b ob hob⟩
 tups := u.tups
 frzs := u.frzs
 tbls := u.tbls
def CX1 (P : Program) (w : World) : CXT := fun outer H s E e s' => ∃ (x C t : Addr) (B : Heap) (H' : Hp), e = .ref x ∧ s'.os = s.os ∧ AllBare s'.gens ∧ Un (frs outer) [] H H' s.heap s'.heap ∧ HOk P w H' s'.heap ∧
 Heap.FlyingW B outer x (.ref C) (.ref t) s'.heap ∧ (∀ b u, H' b = some u → ∃ o, B.get? b = some o) ∧ (∀ b o, s.heap.get? b = some o → b ∉ frs outer → ∃ o', B.get? b = some o') ∧ E (.ref C) none H'
def zb5 (X : Cx) (E : XK) : Prop := ∀ (pins : List (Addr × Obj)) (σ : St) (H : Hp) (s : Shared) (x C : Addr) (args : List Value) (h' : Heap), Inv X pins σ H s → Heap.MadeExcOf s.heap h' x (.ref C) args → E (.ref C) none H → X.xe (.ref x) { s with heap := h' }
section
variable {P : Program} {w : World} {K : PySem.W.Frag} {mg : Str → Option Value} {base : Heap} {N : List Str} {qual : Str} {sc : Scope} {f : Addr} {cd : Value} {A : Around} {outer : List Env} {s : Shared} {H : Hp} {E : XK}
theorem z3d : zb5 (cxOf (CX1 P w) P w K mg base N qual sc f cd A outer s H E) E := by
 intro pins σ H2 s2 x C args h' I hx hE
 have hfrm := I.ok.frames
 have hin : ∀ env ∈ (cxOf (CX1 P w) P w K mg base N qual sc f cd A outer s H E).stack, ∀ a, env.frame = some a → a ∈ frs (cxOf (CX1 P w) P w K mg base N qual sc f cd A outer s H E).stack := fun env he a ha => List.mem_filterMap.mpr ⟨env, he, ha⟩
 have hL : (cxOf (CX1 P w) P w K mg base N qual sc f cd A outer s H E).env.locals = s.heap.objs.size := rfl
 have nfr : ∀ b o, s.heap.get? b = some o → b ∉ frs outer → b ∉ frs (cxOf (CX1 P w) P w K mg base N qual sc f cd A outer s H E).stack := fun b o q hb z => by
  rcases List.mem_cons.mp (I.stkSub b z) with e | e
  ·rw [hL] at e
   exact absurd (Heap.lt_size q) (by rw [e]; exact Nat.lt_irrefl _)
  ·exact hb e
 have sub : ∀ b ∈ frs outer, b ∈ frs (cxOf (CX1 P w) P w K mg base N qual sc f cd A outer s H E).stack := fun b hb => by
  obtain ⟨env, he, hf⟩ := List.mem_filterMap.mp hb
  exact List.mem_filterMap.mpr ⟨env, List.mem_cons_of_mem _ he, hf⟩
 have stB : (PySem.W.hideAll s2.heap (frs (cxOf (CX1 P w) P w K mg base N qual sc f cd A outer s H E).stack)).StaysIn s2.heap := fun b o q => PySem.W.of_hideAll _ q
 have tr : ∀ b u, H2 b = some u → ∃ o, (PySem.W.hideAll s2.heap (frs (cxOf (CX1 P w) P w K mg base N qual sc f cd A outer s H E).stack)).get? b = some o := fun b u q => by
  obtain ⟨ob, hob⟩ := (I.hok b u q).here
  exact ⟨ob, PySem.W.hideAll_get _ hob fun z => by rw [I.stkFree b z] at q; cases q⟩
 have old : ∀ b o, s.heap.get? b = some o → b ∉ frs outer → ∃ o', (PySem.W.hideAll s2.heap (frs (cxOf (CX1 P w) P w K mg base N qual sc f cd A outer s H E).stack)).get? b = some o' := fun b o q hb => by
  obtain ⟨o', e⟩ := I.base.there b o q (by simp [cxOf])
  exact ⟨o', PySem.W.hideAll_get _ e (nfr b o q hb)⟩
 refine wpAny_leaves_madeW (h := s2.heap) hfrm rfl stB (PySem.W.funFrames_hide I.stack hin) hx fun h2 t fl tp nt up => ?_
 have up2 : s2.heap.UpToSlots h2 := fun b o q d => up b o (hx.keeps b o q) d
 exact ⟨x, C, t, _, H2, rfl, I.os, I.bare, zb4 stB fl.1 (fun b hb => (I.stack.mem (sub b hb)).2) up2 old I.base, z69 stB fl.1 tr I.hok, fl, tr, old, hE⟩
theorem zb6 : z25 (CX1 P w) (cxOf (CX1 P w) P w K mg base N qual sc f cd A outer s H E) E := by
 intro pins σ H1 s1 e s' I hq
 obtain ⟨x, C, t, B, H', rfl, os, bare, un, hok, fl, tr, old, hE⟩ := hq
 have J : Inv (cxOf (CX1 P w) P w K mg base N qual sc f cd A outer s H E) pins σ H' s' := I.call' (ch := []) os un hok bare (fun b z => absurd z (by simp))
 have hL : (cxOf (CX1 P w) P w K mg base N qual sc f cd A outer s H E).env.locals = s.heap.objs.size := rfl
 have nfr : ∀ b o, s.heap.get? b = some o → b ∉ frs outer → b ∉ frs (cxOf (CX1 P w) P w K mg base N qual sc f cd A outer s H E).stack := fun b o q hb z => by
  rcases List.mem_cons.mp (I.stkSub b z) with e | e
  ·rw [hL] at e
   exact absurd (Heap.lt_size q) (by rw [e]; exact Nat.lt_irrefl _)
  ·exact hb e
 have old2 : ∀ b o, s.heap.get? b = some o → b ∉ frs outer → ∃ o', B.get? b = some o' := fun b o q hb => by
  obtain ⟨o', e⟩ := I.base.there b o q (by simp [cxOf])
  exact old b o' e (nfr b o q hb)
 have sub : ∀ b ∈ frs outer, b ∈ frs (cxOf (CX1 P w) P w K mg base N qual sc f cd A outer s H E).stack := fun b hb => by
  obtain ⟨env, he, hf⟩ := List.mem_filterMap.mp hb
  exact List.mem_filterMap.mpr ⟨env, List.mem_cons_of_mem _ he, hf⟩
 refine wpAny_leaves_onW I.ok.frames rfl fl fun h2 fl2 up => ?_
 exact ⟨x, C, t, B, H', rfl, J.os, J.bare, zb4 fl.1 fl2.1 (fun b hb => (J.stack.mem (sub b hb)).2) up old2 J.base, z69 fl.1 fl2.1 tr J.hok, fl2, tr, old2, hE⟩
end
theorem z99 {K : PySem.W.Frag} {h : Heap} {C : Addr} {bmB : List Value} {nid : String} (X : K.In h) (q : PySem.W.excIn K C bmB nid = true) :
  ∃ bm N nm qn bs hd sn sub ab col dd k0 k1 k2 k3 k5 mN, h.get? C = some (excClassObj nm qn C N bs bm hd sn sub ab col dd k0 k1 k2 k3 k5 nid) ∧ h.Ns N mN ∧ mN "__init__" = none ∧ OwnTail h bmB bm := by
 unfold PySem.W.excIn at q
 split at q
 case h_2 => cases q
 case h_1 dd cd sl look =>
  split at q
  case h_2 => cases q
  case h_1 C2 bm a0 a1 a2 a3 nm2 a5 hmro hslots =>
   rw [Bool.and_eq_true, Bool.and_eq_true, Bool.and_eq_true, Bool.and_eq_true, Bool.and_eq_true] at q
   obtain ⟨⟨⟨⟨⟨q1, q2⟩, q3⟩, q4⟩, q5⟩, q6⟩ := q
   have e1 : C2 = C := by simpa using q1
   have e2 : nm2 = nid := by simpa using q2
   subst e1 e2
   obtain ⟨c1, c2, c3, c4, c5, c6, c7, c8, c9, c10, c11⟩ := cd
   have e3 : c11 = false := by simpa using q3
   have e4 : c3 = .ref C2 :: bm := hmro
   have e6 : sl = #[a0, a1, a2, a3, some (.builtin nm2), a5] := Array.toList_inj.mp hslots
   rw [e3, e4, e6] at look
   exact ⟨bm, _, _, _, _, _, _, _, _, _, _, _, _, _, _, _, _, X _ _ look, .of_isNs (PySem.W.isNs_of_in X q5), PySem.W.nsMap_none_of_in X q5 (by simpa using q6), PySem.W.tail_of_in X q4⟩
section
variable {X : Cx} {E : XK} {x : Str} {C : Addr} {np cpos pos : Pos} {e : Expr} {es : List Expr} {t : TA} {bmB : List Value} {B nid iid : String}
def zb7 (E : XK) (C : Addr) (t : TA) : TS := fun _ σ H => t σ H fun xs H1 => xs.length ≤ sizeLine ∧ E (.ref C) none H1
theorem z40 (th : zb5 X E) (hc : X.calm = true) (FB : ExcBaseFacts B nid iid bmB) (ex : PySem.W.excIn X.K C bmB nid = true) (hg : Gl X x) (hm : X.mg x = some (.ref C)) (ha : PA X (e :: es) t)
  (he : starEach (e :: es) X.env = (false, eval e X.env) :: starEach es X.env := by rfl) (hpl : (backTo cpos (starEach es X.env)).any (·.1) = false := by rfl) (hdb : (x == ("__debug__" : Str)) = false := by decide) :
  PS X (.Raise (some (.Call (.Name x np) (e :: es) [] cpos)) none pos) (zb7 E C t) := by
 intro pins s σ H D I h
 obtain ⟨bm, N, nm, qn, bs, hd, sn, sub, ab, col, dd, k0, k1, k2, k3, k5, mN, hC, hN, hni, T⟩ := z99 I.mod.kin ex
 refine wpAny_Raise_call_subT (C := C) (bm := bm) (nm := nm) (q := qn) (N := N) (bs := bs) (hdct := hd) (sn := sn) (sub := sub) (ab := ab) (col := col) (dd := dd) (k0 := k0) (k1 := k1) (k2 := k2) (k3 := k3) (k5 := k5) FB (mN := mN) (T.hasType FB.hasBase) (I.ok.hd hc) ?_ hni (z30 I hg hm ⟨rfl, ?_⟩ hdb)
 ·rw [he]
  show (false || (backTo cpos (starEach es X.env)).any (·.1)) = false
  rw [hpl]
  rfl
 have hA := ha cpos pins s σ H _ I h
 rw [he] at hA ⊢
 refine Calls.evalArgs_plain (thn hA fun us s2 hq => ?_)
 obtain ⟨vs, H2, I2, r2, hz, hE⟩ := hq
 exact ⟨rfl, by rw [← r2.length]; exact hz, I2.bk _ _ hC, hN.keeps I2.bk, T.keeps I2.bk, fun h' ev hm' => th pins σ H2 s2 ev C us h' I2 hm' hE⟩
end
def MDef (K : PySem.W.Frag) (C : Addr) (m qual : Str) (st : Stmt) (ps : List Str) : Prop := ∃ f fd, Fun K m qual st f fd ∧ Meth K C m f ∧ Binds K fd ps []
def MHas (P : Program) (w : World) (K : PySem.W.Frag) (mg : Str → Option Value) (base : Heap) (CX : CXT) (k : Nat) (C : Addr) (m : Str) (ps : List Str) (sp : Sp) : Prop :=
 ∃ f fd, FnOk P w K mg base CX k f fd ps sp ∧ Meth K C m f ∧ Binds K fd ps []
section
variable {P : Program} {w : World} {K : PySem.W.Frag} {mg : Str → Option Value} {base : Heap}
theorem Fun.okx {x qual : Str} {st : Stmt} {f : Addr} {fd : FuncData} {N ps : List Str} {k : Nat} {sp : Sp} (F : Fun K x qual st f fd) (S : FnScope N ps (zc st)) (len : ∀ vs H Q E, sp vs H Q E → vs.length = ps.length)
  (hbody : ∀ (cdv : Value) (A : Around) (outer : List Env) (s : Shared) (H : Hp) (vs : List V) (Q : VK) (E : XK), Room k (A.deeper (envOfC qual (zc st) s.heap.objs.size f cdv)) → sp vs H Q E →
   ∃ t, PSs (cxOf (CX1 P w) P w K mg base N qual (zc st) f cdv A outer s H E) (z1k st) t ∧ t { nx := fun _ H' => Q .non H', rt := Q } (start N vs) H) : FnOk P w K mg base (CX1 P w) (k + 1) f fd ps sp := by
 obtain ⟨oc, od, kV, doc, pm, an, cdv, ct, osl, rfl, lk, hcd⟩ := F.ex
 exact zcq lk hcd S len fun A outer s H vs Q E hr hsp => hbody cdv A outer s H vs Q E hr hsp
theorem MDef.ok {C : Addr} {m qual : Str} {st : Stmt} {N ps : List Str} {k : Nat} {sp : Sp} (D : MDef K C m qual st ps) (S : FnScope N ps (zc st)) (len : ∀ vs H Q E, sp vs H Q E → vs.length = ps.length)
  (hbody : ∀ (f : Addr) (cdv : Value) (A : Around) (outer : List Env) (s : Shared) (H : Hp) (vs : List V) (Q : VK) (E : XK), Room k (A.deeper (envOfC qual (zc st) s.heap.objs.size f cdv)) → sp vs H Q E →
   ∃ t, PSs (cxOf CX0 P w K mg base N qual (zc st) f cdv A outer s H E).nox (z1k st) t ∧ t { nx := fun _ H' => Q .non H', rt := Q } (start N vs) H) : MHas P w K mg base CX0 (k + 1) C m ps sp := by
 obtain ⟨f, fd, F, hm, hb⟩ := D
 exact ⟨f, fd, F.ok S len (fun cdv A outer s H vs Q E hr h => hbody f cdv A outer s H vs Q E hr h), hm, hb⟩
theorem MDef.okx {C : Addr} {m qual : Str} {st : Stmt} {N ps : List Str} {k : Nat} {sp : Sp} (D : MDef K C m qual st ps) (S : FnScope N ps (zc st)) (len : ∀ vs H Q E, sp vs H Q E → vs.length = ps.length)
  (hbody : ∀ (f : Addr) (cdv : Value) (A : Around) (outer : List Env) (s : Shared) (H : Hp) (vs : List V) (Q : VK) (E : XK), Room k (A.deeper (envOfC qual (zc st) s.heap.objs.size f cdv)) → sp vs H Q E →
   ∃ t, PSs (cxOf (CX1 P w) P w K mg base N qual (zc st) f cdv A outer s H E) (z1k st) t ∧ t { nx := fun _ H' => Q .non H', rt := Q } (start N vs) H) : MHas P w K mg base (CX1 P w) (k + 1) C m ps sp := by
 obtain ⟨f, fd, F, hm, hb⟩ := D
 exact ⟨f, fd, F.okx S len (fun cdv A outer s H vs Q E hr h => hbody f cdv A outer s H vs Q E hr h), hm, hb⟩
end
section
variable {X : Cx} {k : Nat} {C : Addr} {m : Str} {ps : List Str} {sp : Sp} {o e : Expr} {es : List Expr} {ta : TE} {t : TA} {apos pos : Pos}
theorem z3r {pl : Sem Bool} (G : MHas X.prog X.w X.K X.mg X.base CX0 k C m ps sp) (c : Cls X.K C) (hr : Room k X.A) (he : PE X o ta) (ha : PA X (e :: es) t)
  (hst : starEach (e :: es) X.env = (false, eval e X.env) :: starEach es X.env := by rfl) (hpl : (backTo pos (starEach es X.env)).any (·.1) = false := by rfl)
  (ht : eval (.Call (.Attribute o m apos) (e :: es) [] pos) X.env = (do
   let ov ← eval o X.env
   standAt apos.atName
   let (f, first) ← holding [ov] (getMethod ov m pl)
   callWith pos f first (backTo pos (starEach (e :: es) X.env)) (backToKw pos (keywordEach [] X.env))) := by rfl) :
  PE X (.Call (.Attribute o m apos) (e :: es) [] pos) (z4r C m sp [] E0 ta t) := by
 obtain ⟨f, fd, F, hm, hb⟩ := G
 exact z95 he c hm F hr hb .nil z5v ha hst hpl ht
theorem z6a {pl : Sem Bool} (G : MHas X.prog X.w X.K X.mg X.base CX0 k C m ps sp) (c : Cls X.K C) (hr : Room k X.A) (he : PE X o ta)
  (ht : eval (.Call (.Attribute o m apos) [] [] pos) X.env = (do
   let ov ← eval o X.env
   standAt apos.atName
   let (f, first) ← holding [ov] (getMethod ov m pl)
   callWith pos f first (backTo pos (starEach [] X.env)) (backToKw pos (keywordEach [] X.env))) := by rfl) :
  PE X (.Call (.Attribute o m apos) [] [] pos) (z4r C m sp [] E0 ta tNil) := by
 obtain ⟨f, fd, F, hm, hb⟩ := G
 exact zc0 he c hm F hr hb .nil z5v ht
end
def Mine (X : Cx) (pins : List (Addr × Obj)) (b : Addr) : Prop := (∃ o, X.s₀.heap.get? b = some o) ∨ b = X.env.locals ∨ (∃ y, X.env.cells.lookup y = some b) ∨ ∃ p ∈ X.pn ++ pins, p.1 = b
structure Fly (X : Cx) (pins : List (Addr × Obj)) (σ : St) (H : Hp) (s : Shared) (x C t : Addr) (B : Heap) : Prop where
 inv : Inv X pins σ H s
 fly : Heap.FlyingW B X.stack x (.ref C) (.ref t) s.heap
 tr : ∀ b u, H b = some u → ∃ o, B.get? b = some o
 mine : ∀ b, Mine X pins b → b ∈ frs X.stack ∨ ∃ o, B.get? b = some o
def XP (X : Cx) (pins : List (Addr × Obj)) (σ : St) (Ex : XK) (ev : Value) (s' : Shared) : Prop := ∃ x C t B H', ev = .ref x ∧ Fly X pins σ H' s' x C t B ∧ Ex (.ref C) none H'
theorem Inv.mine {X : Cx} {pins : List (Addr × Obj)} {σ : St} {H : Hp} {s : Shared} (I : Inv X pins σ H s) (hx : X.ex = []) {b : Addr} (h : Mine X pins b) : ∃ o, s.heap.get? b = some o := by
 rcases h with ⟨o, h⟩ | h | ⟨y, h⟩ | ⟨p, hp, h⟩
 ·exact I.base.there b o h (by rw [hx]; simp)
 ·obtain ⟨m, ⟨o, _, _, e, _⟩, _⟩ := I.loc
  exact ⟨o, by rw [h]; exact e⟩
 ·obtain ⟨v, o, e, _⟩ := I.cell y b h
  exact ⟨o, e⟩
 ·exact ⟨_, by rw [← h]; exact (I.pin p hp).1⟩
theorem ze4 {X : Cx} {pins : List (Addr × Obj)} {σ : St} {H : Hp} {s s' : Shared} {E : XK} {ev : Value} (hx : X.ex = []) (I : Inv X pins σ H s) (q : CX1 X.prog X.w X.stack H s E ev s') : XP X pins σ E ev s' := by
 obtain ⟨x, C, t, B, H', rfl, os, bare, un, hok, fl, tr, old, hE⟩ := q
 refine ⟨x, C, t, B, H', rfl, ⟨I.call' (ch := []) os un hok bare (fun b z => absurd z (by simp)), fl, tr, fun b hb => ?_⟩, hE⟩
 obtain ⟨o, e⟩ := I.mine hx hb
 by_cases hf : b ∈ frs X.stack
 ·exact .inl hf
 ·exact .inr (old b o e hf)
theorem Fly.on {X : Cx} {pins : List (Addr × Obj)} {σ : St} {H : Hp} {s : Shared} {x C t : Addr} {B : Heap} {h' : Heap} (F : Fly X pins σ H s x C t B) (fl : Heap.FlyingW B X.stack x (.ref C) (.ref t) h') (up : s.heap.UpToSlots h') : Fly X pins σ H { s with heap := h' } x C t B := by
 have I := F.inv
 refine ⟨?_, fl, F.tr, F.mine⟩
 have slotF : ∀ b o, b ∈ frs X.stack → s.heap.get? b = some o → ∃ sl, h'.get? b = some { o with slots := sl } := fun b o hb q => by
  obtain ⟨_, o2, e2, d2⟩ := I.stack.mem hb
  rw [q] at e2
  cases e2
  exact up b _ q d2
 have at' : ∀ b o, Mine X pins b → b ∉ frs X.stack → s.heap.get? b = some o → h'.get? b = some o := fun b o hm hb q => by
  rcases F.mine b hm with z | ⟨ob, z⟩
  ·exact absurd z hb
  ·have := F.fly.1 b ob z
   rw [q] at this
   cases this
   exact fl.1 b o z
 have any' : ∀ b o, Mine X pins b → s.heap.get? b = some o → ∃ sl, h'.get? b = some { o with slots := sl } := fun b o hm q => by
  by_cases hb : b ∈ frs X.stack
  ·exact slotF b o hb q
  ·exact ⟨o.slots, at' b o hm hb q⟩
 have cellK : ∀ y c, X.env.cells.lookup y = some c → ∀ v, s.heap.IsCell c v → h'.IsCell c v := fun y c e v ⟨o, ho, hd⟩ => by
  obtain ⟨sl, q⟩ := any' c o (.inr (.inr (.inl ⟨y, e⟩))) ho
  exact ⟨_, q, hd⟩
 refine ⟨I.ok, I.os, I.bare, ⟨fun b o e n hb hx => ?_, fun b o e n hb hx => ?_, I.base.free, fun b o e hx => ?_, I.base.tups, I.base.frzs, I.base.tbls⟩, ?_, fun y c e => ?_, I.free, I.freeC, fun p hp => ?_, z69 F.fly.1 fl.1 F.tr I.hok, I.len⟩
 ·have q := I.base.keep b o e n hb hx
  by_cases hf : b ∈ frs X.stack
  ·rcases List.mem_cons.mp (I.stkSub b hf) with z | z
   ·exact absurd (Nat.lt_of_lt_of_le (Heap.lt_size e) I.ok.above) (by rw [z]; exact Nat.lt_irrefl _)
   ·exact absurd z hb
  ·exact at' b o (.inl ⟨o, e⟩) hf q
 ·obtain ⟨sl, q⟩ := I.base.slot b o e n hb hx
  obtain ⟨sl', q'⟩ := any' b _ (.inl ⟨o, e⟩) q
  exact ⟨sl', q'⟩
 ·obtain ⟨o', q⟩ := I.base.there b o e hx
  obtain ⟨sl', q'⟩ := any' b _ (.inl ⟨o, e⟩) q
  exact ⟨_, q'⟩
 ·obtain ⟨m, ⟨o, es, ep, ho, r⟩, hl⟩ := I.loc
  obtain ⟨sl, q⟩ := any' _ o (.inr (.inl rfl)) ho
  refine ⟨m, ⟨_, es, ep, q, r⟩, fun i y v e1 e2 e3 => ?_⟩
  obtain ⟨u, ru, l⟩ := hl i y v e1 e2 e3
  refine ⟨u, ru, ?_⟩
  rcases l with l | ⟨k, c, e, z⟩
  ·exact .inl l
  ·exact .inr ⟨k, c, e, cellK y c e _ z⟩
 ·obtain ⟨v, z⟩ := I.cell y c e
  exact ⟨v, cellK y c e v z⟩
 ·obtain ⟨e, n, ne, nf, d⟩ := I.pin p hp
  refine ⟨?_, n, ne, nf, d⟩
  by_cases hf : p.1 ∈ frs X.stack
  ·rcases List.mem_cons.mp (I.stkSub p.1 hf) with z | z
   ·exact absurd z ne
   ·exact absurd z nf
  ·exact at' p.1 p.2 (.inr (.inr (.inr ⟨p, hp, rfl⟩))) hf e
end L2
end
section
namespace L2
open PySem PySem.Spec PyProof.Rows
abbrev TEX := St → Hp → VK → XK → Prop
def PEX (X : Cx) (e : Expr) (t : TEX) : Prop :=
 ∀ (pins : List (Addr × Obj)) (s : Shared) (σ : St) (H : Hp) (Q : VK) (Ex : XK), Inv X pins σ H s → t σ H Q Ex → wpAny (model X.prog X.w) X.A (eval e X.env) (EP X pins σ Q) (XP X pins σ Ex) s
abbrev TSX := Ends → XK → St → Hp → Prop
def PSX (X : Cx) (st : Stmt) (t : TSX) : Prop :=
 ∀ (pins : List (Addr × Obj)) (s : Shared) (σ : St) (H : Hp) (D : Ends) (Ex : XK), Inv X pins σ H s → t D Ex σ H → wpAny (model X.prog X.w) X.A (exec st X.env) (SP X pins D) (XP X pins σ Ex) s
section
variable {X : Cx} {k : Nat} {C : Addr} {m : Str} {ps : List Str} {sp : Sp} {o e : Expr} {es : List Expr} {ta : TE} {t : TA} {tx : TEX} {apos pos : Pos}
theorem ze5 {pins : List (Addr × Obj)} {σ : St} {H : Hp} {s : Shared} {Q : VK} {Ex : XK} {us : List Value} {vs : List V} {f : Addr} {fd : FuncData} (hx : X.ex = []) (F : FnOk X.prog X.w X.K X.mg X.base (CX1 X.prog X.w) k f fd ps sp) (hr : Room k X.A) (hb : Binds X.K fd ps [])
  (I : Inv X pins σ H s) (r : Vals vs us) (h : sp vs H Q Ex) : wpAny (model X.prog X.w) X.A (call (.ref f) us) (EP X pins σ Q) (XP X pins σ Ex) s := by
 have hl : (us ++ []).length = ps.length := by rw [List.append_nil, ← r.length]; exact F.len _ _ _ _ h
 have hB := hb s us I.kIn hl
 rw [List.append_nil] at hB
 refine wpAny_call (codeAny_mono (F.run X.A X.stack s H ⟨us, []⟩ us vs Q Ex hr I.env0 hB r h) fun res s' hq => ?_)
 cases res with
 | error e => exact ze4 hx I hq
 | ok fl =>
  cases fl with
  | ret u => exact I.after hq
  | next => exact hq.elim
  | brk => exact hq.elim
  | cont => exact hq.elim
def zb8 (C : Addr) (m : Str) (sp : Sp) (ta : TE) (t : TA) : TEX := fun σ H Q Ex => ta σ H fun x H1 => ∃ a dx fs, x = .ref a ∧ H1 a = some (.ins C dx fs) ∧ fs.lookup m = none ∧ t σ H1 fun vs H2 => sp (x :: vs) H2 Q Ex
theorem zb9 {pl : Sem Bool} (G : MHas X.prog X.w X.K X.mg X.base (CX1 X.prog X.w) k C m ps sp) (c : Cls X.K C) (hr : Room k X.A) (he : PE X.nox o ta) (ha : PA X.nox (e :: es) t) (hx : X.ex = [] := by rfl)
  (hst : starEach (e :: es) X.env = (false, eval e X.env) :: starEach es X.env := by rfl) (hpl : (backTo pos (starEach es X.env)).any (·.1) = false := by rfl)
  (ht : eval (.Call (.Attribute o m apos) (e :: es) [] pos) X.env = (do
   let ov ← eval o X.env
   standAt apos.atName
   let (f, first) ← holding [ov] (getMethod ov m pl)
   callWith pos f first (backTo pos (starEach (e :: es) X.env)) (backToKw pos (keywordEach [] X.env))) := by rfl) :
  PEX X (.Call (.Attribute o m apos) (e :: es) [] pos) (zb8 C m sp ta t) := by
 obtain ⟨f, fd, F, hm, hb⟩ := G
 intro pins s σ H Q Ex I h
 refine PySem.W.methodCall_KW (pl := pl) (wpAny_mono (he pins s σ H _ (I.wish _) h) (fun u s1 hq => ?_) fun _ _ z => z.elim) ht
 obtain ⟨x, H1, I1, rx, a, dx, fs, ex, ea, l, q⟩ := hq
 have I1 := I1.unwish
 subst ex
 obtain rfl : u = Value.ref a := rx
 refine z3x I1 ea c hm l ?_
 refine PySem.W.callWith_K (first := [.ref a]) (h₀ := X.base) I.ok.mod.kin hm.kp (wpAny_mono (ha pos pins s1 σ H1 _ (I1.wish _) q) (fun us s2 hq2 => ?_) fun _ _ z => z.elim) hst hpl
 obtain ⟨vs, H2, I2, r, q2⟩ := hq2
 have I2 := I2.unwish
 exact ⟨I2.kIn, ze5 (us := .ref a :: us) (vs := .ref a :: vs) hx F hr hb I2 (.cons rfl r) q2⟩
theorem zdf (h : PEX X e tx) : PSX X (.Return (some e) pos) (fun D Ex σ H => tx σ H D.rt Ex) := by
 intro pins s σ H D Ex I hw
 refine wpAny_Return_some (wpAny_mono (h pins s σ H _ Ex I hw) (fun v s1 hq => ?_) fun _ _ z => z)
 obtain ⟨x, H1, I1, r1, q1⟩ := hq
 exact ⟨x, σ, H1, I1, r1, q1⟩
end
abbrev z4h (X : Cx) (ev : Value) : Cx := { X with A := X.A.mark (some ev), calm := false, xe := fun _ _ => False }
theorem Inv.mark {X : Cx} {pins : List (Addr × Obj)} {σ : St} {H : Hp} {s : Shared} (I : Inv X pins σ H s) (ev : Value) : Inv (z4h X ev) pins σ H s :=
 ⟨⟨I.ok.mod, I.ok.kind, I.ok.glob, I.ok.blt, I.ok.above, I.ok.inj, I.ok.has, I.ok.cab, fun z => absurd z Bool.false_ne_true, I.ok.frames, I.ok.stk, I.ok.exf, I.ok.bs, I.ok.bsz, I.ok.noex, I.ok.exfs, I.ok.funs, I.ok.frf⟩, I.os, I.bare, I.base, I.loc, I.cell, I.free, I.freeC, I.pin, I.hok, I.len⟩
theorem Inv.unmark {X : Cx} {ev : Value} {pins : List (Addr × Obj)} {σ : St} {H : Hp} {s : Shared} (ok : X.Ok) (I : Inv (z4h X ev) pins σ H s) : Inv X pins σ H s :=
 ⟨ok, I.os, I.bare, I.base, I.loc, I.cell, I.free, I.freeC, I.pin, I.hok, I.len⟩
theorem SP.unmark {X : Cx} {ev : Value} {pins : List (Addr × Obj)} {D : Ends} {f : Flow} {s' : Shared} (ok : X.Ok) (h : SP (z4h X ev) pins D f s') : SP X pins D f s' := by
 cases f with
 | next => obtain ⟨σ', H', I, q⟩ := h; exact ⟨σ', H', I.unmark ok, q⟩
 | brk => obtain ⟨σ', H', I, q⟩ := h; exact ⟨σ', H', I.unmark ok, q⟩
 | cont => obtain ⟨σ', H', I, q⟩ := h; exact ⟨σ', H', I.unmark ok, q⟩
 | ret u => obtain ⟨v, σ', H', I, r, q⟩ := h; exact ⟨v, σ', H', I.unmark ok, r, q⟩
theorem zba {K : PySem.W.Frag} {prog : Program} {w : World} {A : Around} {E : Value → Shared → Prop} {s : Shared} {x C D : Addr} {oe : Obj} {b : Bool} {bmB : List Value} {nid : String} {Q : Bool → Shared → Prop} (kx : K.In s.heap) (he : s.heap.get? x = some oe) (hc : oe.cls = .ref C)
  (exD : PySem.W.excIn K D bmB nid = true) (hb : bmB.contains (.type "BaseException") = true) (sb : PySem.W.subIn K (.ref C) (.ref D) = some b) (hq : Q b s) : wpAny (model prog w) A (excMatches (.ref x) (.ref D)) Q E s := by
 obtain ⟨bm, N, nm, qn, bs, hd, sn, sub, ab, col, dd, k0, k1, k2, k3, k5, mN, hD, hN, hni, T⟩ := z99 kx exD
 have lk := PySem.W.looks_subIn (M := model prog w) kx sb
 obtain ⟨hp, g, d, tk, os⟩ := s
 have inB : (Value.ref D :: bm).contains (.type "BaseException") = true := by rw [List.contains_cons, T.hasType hb, Bool.or_true]
 have nt := tc_notTuple
 have fin : wpAny (model prog w) A (isSubtype (.ref C) (.ref D)) (fun r s' => Q r s') E ⟨hp, g, d, tk, os⟩ := lk A _ _ _ (fun _ _ z => z) hq
 unfold excMatches
 repeat (first
  | (with_reducible refine wpAny_loadPart_at he ?_; rw [hc])
  | with_reducible refine wpAny_loadPart_at hD ?_
  | (with_reducible refine wpAny_isSubtype_exc hD ?_; rw [inB])
  | wp_step)
 refine lk _ _ _ _ (fun _ _ z => z) ?_
 cases b <;> (wp_walk; exact hq)
abbrev TH := Value → Ends → St → Hp → Prop
def PH (X : Cx) (hs : List ExceptHandler) (th : TH) : Prop :=
 ∀ (pins : List (Addr × Obj)) (s : Shared) (σ : St) (H : Hp) (D : Ends) (x C t : Addr) (B : Heap), Fly X pins σ H s x C t B → th (.ref C) D σ H → wpAny (model X.prog X.w) X.A (handleBy (.ref x) X.env hs) (SP X pins D) X.xe s
def zbb : TH := fun _ _ _ _ => False
theorem ze6 {X : Cx} : PH X [] zbb := fun _ _ _ _ _ _ _ _ _ _ h => h.elim
def zct (K : PySem.W.Frag) (D : Addr) (tb : TS) (th : TH) : TH := fun cls En σ H => ∃ b, PySem.W.subIn K cls (.ref D) = some b ∧ if b = true then tb En σ H else th cls En σ H
theorem z6b {X : Cx} {cn : Str} {D : Addr} {b0 : Stmt} {suite : List Stmt} {rest : List ExceptHandler} {np hpos : Pos} {tb : TS} {th : TH} {bmB : List Value} {nid : String} (hg : Gl X cn) (hm : X.mg cn = some (.ref D)) (ex : PySem.W.excIn X.K D bmB nid = true) (hb : bmB.contains (.type "BaseException") = true)
  (hs : ∀ ev, PSs (z4h X ev) (b0 :: suite) tb) (hr : PH X rest th) (hdb : (cn == ("__debug__" : Str)) = false := by decide) : PH X (.ExceptHandler (some (.Name cn np)) none (b0 :: suite) hpos :: rest) (zct X.K D tb th) := by
 intro pins s σ H En x C t B F h
 obtain ⟨b, sb, h⟩ := h
 have I := F.inv
 obtain ⟨oe, hoe, hcl⟩ := F.fly.there
 refine wpAny_handleBy_cons (codeAny_handlers_test (z30 (X := z4h X (.ref x)) (I.mark _) hg hm ?_ hdb)) (by intro q; cases q)
 refine zba I.kIn hoe hcl ex hb sb ?_
 cases b with
 | false => exact hr pins s σ H En x C t B F h
 | true =>
  refine codeAny_handlers_suite (lands_againW F.fly fun h2 fl2 up2 => ?_)
  have F2 := F.on fl2 up2
  refine wpAny_mono (hs (.ref x) pins _ σ H En (F2.inv.mark _) h) (fun f s3 q => ?_) fun _ _ z => z.elim
  exact q.unmark I.ok
def tTry (t : TSX) (th : TH) : TS := fun D σ H => t D (fun cls _ H' => th cls D σ H') σ H
end L2
end
section
namespace L2
open PySem PySem.Spec PyProof.Rows
section
variable {X : Cx}
theorem za1 : OpR X (binaryOp .Mult) (fun x y H Q => ∃ z n, x = .str z ∧ y = .int n ∧ MulOk z n ∧ Q (.str (Txt.mul z n)) H) := by
 intro pins s σ H x y v u Q I rx ry h
 obtain ⟨z, n, rfl, rfl, hok, q⟩ := h
 obtain ⟨t, rfl⟩ := rx
 obtain ⟨t', rfl⟩ := ry
 exact SB.mul hok fun t2 k => ⟨.str _, H, I.tok _, ⟨_, rfl⟩, q⟩
theorem za2 {A : Around} {E : Value → Shared → Prop} {Q : Value → Shared → Prop} {pins : List (Addr × Obj)} {σ : St} {H : Hp} {s : Shared} {x : V} {u t : Value} {tp : Addr} {its : List Value} {b : Bool} (I : Inv X pins σ H s) (rx : RelV x u) (ty : TyOf X.K H x t) (ht : IsTup s.heap tp its.toArray)
  (e : PySem.W.kitAny X.K t its = some b) (h : ∀ tk, Q (.bool b) { s with toks := tk }) : wpAny (model X.prog X.w) A (call (.builtin "isinstance") [u, .ref tp]) Q E s := by
 obtain ⟨⟨c0, dd, dt, sl⟩, e0, hc0, n0, hd0⟩ := ht
 simp only at hc0 hd0
 subst hc0 hd0
 cases ty with
 | non => cases (show u = Value.none from rx); exact PySem.W.kia_tup PySem.W.kitx_none I.kIn True.intro e0 e (fun z => nomatch z) h
 | bl y => cases (show u = Value.bool y from rx); exact PySem.W.kia_tup PySem.W.kitx_bool I.kIn True.intro e0 e (fun z => nomatch z) h
 | int i => obtain ⟨t, q⟩ := (show ∃ t, u = Value.int i t from rx); cases q; exact PySem.W.kia_tup PySem.W.kitx_int I.kIn True.intro e0 e (fun z => nomatch z) h
 | str y => obtain ⟨t, q⟩ := (show ∃ t, u = Value.str y t from rx); cases q; exact PySem.W.kia_tup PySem.W.kitx_str I.kIn True.intro e0 e (fun z => nomatch z) h
 | flt y => obtain ⟨t, q⟩ := (show ∃ t, u = Value.float y t from rx); cases q; exact PySem.W.kia_tup PySem.W.kitx_float I.kIn True.intro e0 e (fun z => nomatch z) h
 | @lst a xs ea =>
  cases (show u = Value.ref a from rx)
  obtain ⟨_, _, n, _, h1⟩ := (show ObjOk X.prog X.w H s.heap a (.lst xs) from I.hok a _ ea)
  exact PySem.W.kia_tup PySem.W.kitx_list I.kIn ⟨_, h1, rfl⟩ e0 e (fun z => nomatch z) h
 | @tup a xs ea =>
  cases (show u = Value.ref a from rx)
  obtain ⟨_, _, _, p⟩ := (show ObjOk X.prog X.w H s.heap a (.tup xs) from I.hok a _ ea)
  obtain ⟨o, h1, h2, _⟩ := p
  exact PySem.W.kia_tup PySem.W.kitx_tuple I.kIn ⟨o, h1, h2⟩ e0 e (fun z => nomatch z) h
 | @frz a ob xs ea =>
  cases (show u = Value.ref a from rx)
  obtain ⟨_, _, _, n, _, h1⟩ := (show ObjOk X.prog X.w H s.heap a (.frz ob (.lst xs)) from I.hok a _ ea)
  exact PySem.W.kia_tup PySem.W.kitx_list I.kIn ⟨_, h1, rfl⟩ e0 e (fun z => nomatch z) h
 | @dK a kvs ea =>
  cases (show u = Value.ref a from rx)
  obtain ⟨_, _, vs, _, p⟩ := (show ObjOk X.prog X.w H s.heap a (.dK kvs) from I.hok a _ ea)
  obtain ⟨o, es, ep, h1, h2, _⟩ := p
  exact PySem.W.kia_tup PySem.W.kitx_dict I.kIn ⟨o, h1, h2.1⟩ e0 e (fun z => nomatch z) h
 | @dT a kvs ea =>
  cases (show u = Value.ref a from rx)
  obtain ⟨_, _, xs, _, o, es, ep, h1, h2, _⟩ := (show ObjOk X.prog X.w H s.heap a (.dT kvs) from I.hok a _ ea)
  exact PySem.W.kia_tup PySem.W.kitx_dict I.kIn ⟨o, h1, h2.1⟩ e0 e (fun z => nomatch z) h
 | @ins a C dx fs ea cl ha hn htk hm =>
  cases (show u = Value.ref a from rx)
  obtain ⟨mA, O, _⟩ := z3o I.hok ea
  obtain ⟨od, J, _⟩ := O.look
  exact PySem.W.kia_tup (PySem.W.kitx_own (cl.get _) cl.hd ha hn htk hm) I.kIn J e0 e (fun z => nomatch z) h
theorem z3e : CallR X (.builtin "isinstance") (fun xs H Q => ∃ x p c d t b, xs = [x, .ref p] ∧ SqT X.K H p [.ty c, .ty d] ∧ TyOf X.K H x t ∧ PySem.W.kitAny X.K t [.type c, .type d] = some b ∧ Q (.bl b) H) := by
 intro pins s σ H xs us Q I r h
 obtain ⟨x, p, c, d, t, b, rfl, hp, ty, e, q⟩ := h
 obtain ⟨u, w', rfl, r1, r2⟩ := zco r
 cases r2
 obtain ⟨its, rv, pl, _⟩ := I.tuple hp
 obtain ⟨u1, u2, rfl, q1, q2⟩ := rv.two
 cases q1
 cases q2
 exact za2 I r1 ty pl e fun tk => ⟨.bl b, H, I.tok _, rfl, q⟩
def KHas (P : Program) (w : World) (K : PySem.W.Frag) (mg : Str → Option Value) (base : Heap) (k : Nat) (C : Addr) (ps : List Str) (sp : Sp) : Prop :=
 ∃ f fd, FnOk P w K mg base CX0 k f fd ps sp ∧ Mk K C f ∧ Binds K fd ps []
theorem z9a {k : Nat} {C : Addr} {x : Str} {ps : List Str} {sp : Sp} {p pos : Pos} (G : KHas X.prog X.w X.K X.mg X.base k C ps sp) (hr : Room (k + 1) X.A) (hg : Gl X x) (hm : X.mg x = some (.ref C)) (hdb : (x == ("__debug__" : Str)) = false := by decide) : PE X (.Call (.Name x p) [] [] pos) (z5s C sp [] E0 tNil) := by
 obtain ⟨f, fd, F, M, hb⟩ := G
 exact zc1 M F hr hg hm hb .nil z5v hdb
end
def KDef (K : PySem.W.Frag) (C : Addr) (qual : Str) (st : Stmt) (ps : List Str) : Prop := ∃ f fd, Fun K "__init__" qual st f fd ∧ Mk K C f ∧ Binds K fd ps []
theorem KDef.ok {P : Program} {w : World} {K : PySem.W.Frag} {mg : Str → Option Value} {base : Heap} {C : Addr} {qual : Str} {st : Stmt} {N ps : List Str} {k : Nat} {sp : Sp} (D : KDef K C qual st ps) (S : FnScope N ps (zc st)) (len : ∀ vs H Q E, sp vs H Q E → vs.length = ps.length)
  (hbody : ∀ (f : Addr) (cdv : Value) (A : Around) (outer : List Env) (s : Shared) (H : Hp) (vs : List V) (Q : VK) (E : XK), Room k (A.deeper (envOfC qual (zc st) s.heap.objs.size f cdv)) → sp vs H Q E →
   ∃ t, PSs (cxOf CX0 P w K mg base N qual (zc st) f cdv A outer s H E).nox (z1k st) t ∧ t { nx := fun _ H' => Q .non H', rt := Q } (start N vs) H) : KHas P w K mg base (k + 1) C ps sp := by
 obtain ⟨f, fd, F, hm, hb⟩ := D
 exact ⟨f, fd, F.ok S len (fun cdv A outer s H vs Q E hr h => hbody f cdv A outer s H vs Q E hr h), hm, hb⟩
def z2d : Sp := fun _ _ _ _ => False
theorem z6v {P : Program} {w : World} {K : PySem.W.Frag} {mg : Str → Option Value} {base : Heap} {x : Str} {st : Stmt} {ps : List Str} {k : Nat} (D : Def K mg x st ps) : Has P w K mg base k x ps z2d := by
 obtain ⟨f, fd, F, hm, hb⟩ := D
 refine ⟨f, fd, ⟨fun _ _ _ _ h => h.elim, fun _ _ _ _ _ _ _ _ _ _ _ _ _ h => h.elim⟩, hm, F.kp, hb, ?_⟩
 obtain ⟨oc, od, kV, doc, pm, an, cdv, ct, osl, rfl, lk, hcd⟩ := F.ex
 exact ⟨oc, od, osl, lk⟩
theorem z48 (K : PySem.W.Frag) : PySem.W.kitOne K (.type "list") (.type "list") = some true := by with_unfolding_all rfl
theorem zx (K : PySem.W.Frag) : PySem.W.kitOne K (.type "int") (.type "int") = some true ∧ PySem.W.kitOne K (.type "bool") (.type "int") = some true ∧ PySem.W.kitOne K (.type "str") (.type "int") = some false ∧ PySem.W.kitOne K (.type "str") (.type "str") = some true ∧ PySem.W.kitOne K (.type "int") (.type "str") = some false ∧
  PySem.W.kitOne K (.type "str") (.type "bool") = some false ∧ PySem.W.kitOne K (.type "tuple") (.type "tuple") = some true ∧ PySem.W.kitOne K (.type "tuple") (.type "list") = some false ∧ PySem.W.kitOne K (.type "list") (.type "tuple") = some false := by
 refine ⟨?_, ?_, ?_, ?_, ?_, ?_, ?_, ?_, ?_⟩ <;> with_unfolding_all rfl
theorem z2e (K : PySem.W.Frag) : PySem.W.kitAny K (.type "int") [.type "list", .type "tuple"] = some false ∧ PySem.W.kitAny K (.type "bool") [.type "list", .type "tuple"] = some false ∧ PySem.W.kitAny K (.type "str") [.type "list", .type "tuple"] = some false ∧
  PySem.W.kitAny K (.type "list") [.type "list", .type "tuple"] = some true ∧ PySem.W.kitAny K (.type "tuple") [.type "list", .type "tuple"] = some true := by
 refine ⟨?_, ?_, ?_, ?_, ?_⟩ <;> with_unfolding_all rfl
theorem Has.or {P : Program} {w : World} {K : PySem.W.Frag} {mg : Str → Option Value} {base : Heap} {k k' n : Nat} {x : Str} {ps : List Str} {sp sp' : Sp} (G : Has P w K mg base k x ps sp) (G' : Has P w K mg base k' x ps sp') (h1 : k ≤ n) (h2 : k' ≤ n) : Has P w K mg base n x ps (fun vs H Q E => sp vs H Q E ∨ sp' vs H Q E) := by
 obtain ⟨f, fd, F, hm, hk, hb, oc, od, osl, lk⟩ := G
 obtain ⟨f', fd', F', hm', hk', hb', oc', od', osl', lk'⟩ := G'
 have e := hm.symm.trans hm'
 cases e
 rw [lk] at lk'
 have e2 := Option.some.inj lk'
 injection e2 with _ _ e3 _
 injection e3 with e4
 subst e4
 refine ⟨f, fd, ⟨fun vs H Q E h => h.elim (F.len vs H Q E) (F'.len vs H Q E), fun A outer s H args us vs Q E hr he hB hv hs => ?_⟩, hm, hk, hb, oc, od, osl, lk⟩
 rcases hs with hs | hs
 ·exact (F.mono h1).run A outer s H args us vs Q E hr he hB hv hs
 ·exact (F'.mono h2).run A outer s H args us vs Q E hr he hB hv hs
section
variable {X : Cx} {K : PySem.W.Frag}
theorem z5f (h : X.K = K := by rfl) : IxR X (rIxT K) := h ▸ ix_tup
theorem zbc (h : X.K = K := by rfl) : IxR X (rIxL K) := h ▸ ix_list
theorem z1y (h : X.K = K := by rfl) : IxR X (rIx K) := h ▸ zdw
theorem z8p (h : X.K = K := by rfl) : OpR X (compareOp .In) (rIn K false) := h ▸ zaw
end
end L2
end
section
namespace L2
open PySem PySem.Spec PyProof.Rows
end L2
namespace L2
open PySem PySem.Spec PyProof.Rows
section
variable (P : Program) (w : World)
end
section
variable {P : Program} {w : World} {H H' : Hp} {h h' : Heap} {a : Addr} {o : HO}
end
section
variable {P : Program} {w : World} {H : Hp} {h h' : Heap} {x e : Addr} {o' : HO}
end
section
variable {fs fs' ex ex' : List Addr} {H H1 H2 : Hp} {h h1 h2 h' : Heap} {a x e : Addr} {o : HO}
end
end L2
namespace L2
open PySem PySem.Spec PyProof.Rows
section
variable {X : Cx} {pins : List (Addr × Obj)} {σ : List (Option V)} {H H' : Hp} {s : Shared} {h' : Heap}
end
end L2
namespace L2
open PySem PySem.Spec PyProof.Rows
section
variable {X : Cx}
variable {a b : Expr} {ta tb : TE} {pos : Pos}
variable {tA tB' : TT} {rest : List Expr}
end
end L2
namespace L2
open PySem PySem.Spec PyProof.Rows
section
variable {X : Cx} {pins : List (Addr × Obj)} {σ : St} {H : Hp} {s : Shared} {a : Addr} {xs ys : List V}
end
section
variable {X : Cx} {pins : List (Addr × Obj)} {σ : St} {H : Hp} {s : Shared} {E : Value → Shared → Prop}
end
section
variable {X : Cx} {st : Stmt} {rest : List Stmt} {t u : TS} {e : Expr} {te : TE} {pos : Pos}
end
section
variable {X : Cx} {pos : Pos}
end
section
variable {X : Cx} {pos : Pos}
end
end L2
namespace L2
open PySem PySem.Spec PyProof.Rows
section
variable {X : Cx} {tg : Expr}
end
end L2
namespace L2
open PySem PySem.Spec PyProof.Rows
section
variable {X : Cx} {a b c : Expr} {ta tb tc : TE} {pos : Pos}
end
section
variable {X : Cx} {a b c : Expr} {ta tb tc : TE} {pos : Pos}
end
end L2
namespace L2
open PySem PySem.Spec PyProof.Rows
section
variable {prog : Program} {w : World} {A : Around} {E : Value → Shared → Prop} {s : Shared} {K : PySem.W.Frag} {x dx C f : Addr} {mA : Str → Option Value} {name : Str} {v : Value}
end
section
variable {P : Program} {w : World} {H H' : Hp} {h h' : Heap} {a C dx : Addr} {fs fs' : List (Str × V)}
end
section
variable {X : Cx} {pins : List (Addr × Obj)} {σ : St} {H : Hp} {s : Shared} {a C dx : Addr} {fs : List (Str × V)} {f : Str} {v : V} {A : Around} {E : Value → Shared → Prop}
end
section
variable {X : Cx} {o e value : Expr} {f : Str} {pos pos' tpos : Pos} {ta tv : TE}
end
section
variable {X : Cx} {pins : List (Addr × Obj)} {σ : St} {H : Hp} {s : Shared} {A : Around} {E : Value → Shared → Prop} {Q : Value → Shared → Prop} {c : Value} {b : Bool}
end
end L2
namespace L2
open PySem PySem.Spec PyProof.Rows
section
variable {X : Cx} {e : Expr} {es : List Expr} {te : TE} {t : TA} {pos : Pos}
end
section
variable {X : Cx} {pins : List (Addr × Obj)} {σ : St} {H : Hp} {s s' : Shared}
end
section
variable {X : Cx} {CX : CXT} {k : Nat} {f C : Addr} {fd : FuncData} {ps : List Str} {sp : Sp} {dvs : List V} {ds : List Value} {E : XK} {x m : Str} {p pos apos : Pos} {e o : Expr} {es : List Expr} {ta : TE} {t : TA}
end
section
variable {X : Cx} {CX : CXT} {k : Nat} {f C : Addr} {fd : FuncData} {ps ks : List Str} {sp : Sp} {E : XK} {x m : Str} {p pos apos kpos : Pos} {e o : Expr} {es : List Expr} {kws : List Keyword} {te ta : TE} {t tk : TA} {nm : Option Str}
variable {g : List Value → List Value → List Value} {gV : List V → List V → List V}
end
end L2
namespace L2
open PySem PySem.Spec PyProof.Rows
section
variable {X : Cx} {x : Str} {p pos : Pos} {e : Expr} {es : List Expr} {t : TA} {id T : String} {r : List V → Hp → VK → Prop}
end
end L2
namespace L2
open PySem PySem.Spec PyProof.Rows
section
variable {κ : Type} [DecidableEq κ]
def valV (kvs : List (κ × V)) (k : κ) : Option V := (kvs.find? fun kv => decide (kv.1 = k)).map (·.2)
def putK (kvs : List (κ × V)) (k : κ) (v : V) : List (κ × V) :=
 if (kvs.any fun kv => decide (kv.1 = k)) = true then kvs.map (fun kv => if kv.1 = k then (kv.1, v) else kv) else kvs ++ [(k, v)]
def z41 (kvs : List (κ × V)) (k : κ) : List (κ × V) := kvs.filter fun kv => decide (kv.1 ≠ k)
theorem z42 {p : κ × V} {r : List (κ × V)} {k : κ} (e : p.1 = k) : valV (p :: r) k = some p.2 := by simp [valV, List.find?_cons, e]
theorem z43 {p : κ × V} {r : List (κ × V)} {k : κ} (e : ¬ p.1 = k) : valV (p :: r) k = valV r k := by simp [valV, List.find?_cons, e]
theorem z5g (k : κ) : ∀ kvs : List (κ × V), (kvs.any fun kv => decide (kv.1 = k)) = (valV kvs k).isSome
 | [] => rfl
 | p :: r => by
  rw [List.any_cons]
  by_cases e : p.1 = k
  ·simp only [z42 e, decide_eq_true e, Bool.true_or, Option.isSome_some]
  ·rw [z43 e, decide_eq_false e, Bool.false_or]; exact z5g k r
theorem z3i (kvs : List (κ × V)) (k : κ) (v : V) : (putK kvs k v).length ≤ kvs.length + 1 := by
 unfold putK
 split
 ·rw [List.length_map]; omega
 ·rw [List.length_append, List.length_cons, List.length_nil]; omega
theorem zc5 {kvs : List (κ × V)} {k : κ} (v : V) (h : valV kvs k = none) : putK kvs k v = kvs ++ [(k, v)] := by
 unfold putK
 rw [z5g, h]
 exact if_neg (by decide)
theorem RelO.isSome_eq {o : Option V} {u : Option Value} (r : RelO o u) : o.isSome = u.isSome := by
 cases o with
 | none => cases u with
  | none => rfl
  | some _ => exact (show False from r).elim
 | some _ => cases u with
  | none => exact (show False from r).elim
  | some _ => rfl
theorem RelO.getD {o : Option V} {u : Option Value} {d : V} {d' : Value} (r : RelO o u) (rd : RelV d d') : RelV (o.getD d) (u.getD d') := by
 cases o with
 | none => cases u with
  | none => exact rd
  | some _ => exact (show False from r).elim
 | some _ => cases u with
  | none => exact (show False from r).elim
  | some _ => exact r
theorem KV.val {kvs : List (κ × V)} {vs : List (κ × Value)} (r : KV kvs vs) (k : κ) : RelO (valV kvs k) (valueAt vs k) := by
 unfold KV at r
 induction r with
 | nil => exact True.intro
 | @cons p q ps qs h t ih =>
  obtain ⟨h1, h2⟩ := h
  by_cases e : p.1 = k
  ·have e' : q.1 = k := h1.symm.trans e
   have b : valueAt (q :: qs) k = some q.2 := by simp [valueAt, List.find?_cons, e']
   rw [z42 e, b]; exact h2
  ·have e' : ¬ q.1 = k := fun z => e (h1.trans z)
   have b : valueAt (q :: qs) k = valueAt qs k := by simp [valueAt, List.find?_cons, e']
   rw [z43 e, b]; exact ih
theorem KV.any {kvs : List (κ × V)} {vs : List (κ × Value)} (r : KV kvs vs) (k : κ) : (kvs.any fun kv => decide (kv.1 = k)) = vs.any fun kv => decide (kv.1 = k) := by
 unfold KV at r
 induction r with
 | nil => rfl
 | cons h t ih => rw [List.any_cons, List.any_cons, ih, h.1]
theorem KV.repl {kvs : List (κ × V)} {vs : List (κ × Value)} (r : KV kvs vs) (k : κ) {y : V} {u : Value} (ry : RelV y u) :
  KV (kvs.map fun kv => if kv.1 = k then (kv.1, y) else kv) (vs.map fun kv => if kv.1 = k then (kv.1, u) else kv) := by
 unfold KV at r ⊢
 induction r with
 | nil => exact .nil
 | @cons p q ps qs h t ih =>
  rw [List.map_cons, List.map_cons]
  refine .cons ?_ ih
  obtain ⟨h1, h2⟩ := h
  by_cases e : p.1 = k
  ·rw [if_pos e, if_pos (h1.symm.trans e)]; exact ⟨h1, ry⟩
  ·rw [if_neg e, if_neg (fun z => e (h1.trans z))]; exact ⟨h1, h2⟩
theorem KV.put {kvs : List (κ × V)} {vs : List (κ × Value)} (r : KV kvs vs) (k : κ) {y : V} {u : Value} (ry : RelV y u) : KV (putK kvs k y) (stored vs k u) := by
 unfold putK stored
 rw [r.any k]
 by_cases e : (vs.any fun kv => decide (kv.1 = k)) = true
 ·rw [if_pos e, if_pos e]; exact r.repl k ry
 ·rw [if_neg e, if_neg e]; exact Paired.snoc r ⟨rfl, ry⟩
theorem KV.drop {kvs : List (κ × V)} {vs : List (κ × Value)} (r : KV kvs vs) (k : κ) : KV (z41 kvs k) (without vs k) := by
 unfold KV at r ⊢
 unfold z41 without
 induction r with
 | nil => exact .nil
 | @cons p q ps qs h t ih =>
  obtain ⟨h1, h2⟩ := h
  rw [List.filter_cons, List.filter_cons]
  by_cases e : p.1 = k
  ·have a : ¬ decide (p.1 ≠ k) = true := by simp [e]
   have b : ¬ decide (q.1 ≠ k) = true := by simp [h1.symm.trans e]
   rw [if_neg a, if_neg b]; exact ih
  ·have e' : ¬ q.1 = k := fun z => e (h1.trans z)
   have a : decide (p.1 ≠ k) = true := by simp [e]
   have b : decide (q.1 ≠ k) = true := by simp [e']
   rw [if_pos a, if_pos b]; exact .cons ⟨h1, h2⟩ ih
theorem KV.keys {kvs : List (κ × V)} {vs : List (κ × Value)} (r : KV kvs vs) : kvs.map (·.1) = vs.map (·.1) := by
 unfold KV at r
 induction r with
 | nil => rfl
 | cons h t ih => rw [List.map_cons, List.map_cons, ih, h.1]
theorem KV.length {kvs : List (κ × V)} {vs : List (κ × Value)} (r : KV kvs vs) : kvs.length = vs.length := Paired.length r
theorem zc6 (kvs : List (κ × V)) (k : κ) : (z41 kvs k).length ≤ kvs.length := List.length_filter_le _ _
end
theorem z4w {P : Program} {w : World} {k : Key} {u : Value} (r : RelV (kV k) u) : (zo P w).is k u = true := by
 cases k with
 | inl i => obtain ⟨t, e⟩ := (show ∃ t, u = Value.int i t from r); subst e; exact z8l P w i t
 | inr x => obtain ⟨t, e⟩ := (show ∃ t, u = Value.str x t from r); subst e; exact z8m P w x t
theorem z6w {P : Program} {w : World} : ∀ {ks : List Key} {us : List Value}, Vals (ks.map kV) us → ItemsAre (zo P w) ks us
 | [], _, r => by rw [List.map_nil] at r; cases r; exact .nil
 | k :: ks, _, r => by
  rw [List.map_cons] at r
  cases r with
  | cons h t => exact .cons (z4w h) (z6w t)
abbrev KT (H : Hp) : List (List Key × V) → List (List Key × Addr × Value) → Prop := Paired fun p q => p.1 = q.1 ∧ H q.2.1 = some (.tup (p.1.map kV)) ∧ RelV p.2 q.2.2
theorem KT.val {H : Hp} {kvs : List (List Key × V)} {xs : List (List Key × Addr × Value)} (r : KT H kvs xs) (k : List Key) : RelO (valV kvs k) ((atKey xs k).map (·.2)) := by
 induction r with
 | nil => exact True.intro
 | @cons p q ps qs h t ih =>
  obtain ⟨h1, _, h2⟩ := h
  by_cases e : p.1 = k
  ·have e' : q.1 = k := h1.symm.trans e
   have b : atKey (q :: qs) k = some q.2 := by simp [atKey, List.find?_cons, e']
   rw [z42 e, b]; exact h2
  ·have e' : ¬ q.1 = k := fun z => e (h1.trans z)
   have b : atKey (q :: qs) k = atKey qs k := by simp [atKey, List.find?_cons, e']
   rw [z43 e, b]; exact ih
theorem KT.repl {H : Hp} {kvs : List (List Key × V)} {xs : List (List Key × Addr × Value)} (r : KT H kvs xs) (k : List Key) {y : V} {u : Value} (ry : RelV y u) :
  KT H (kvs.map fun kv => if kv.1 = k then (kv.1, y) else kv) (xs.map (putAt k u)) := by
 induction r with
 | nil => exact .nil
 | @cons p q ps qs h t ih =>
  rw [List.map_cons, List.map_cons]
  refine .cons ?_ ih
  obtain ⟨h1, h2, h3⟩ := h
  unfold putAt
  by_cases e : p.1 = k
  ·rw [if_pos e, if_pos (h1.symm.trans e)]; exact ⟨h1, h2, ry⟩
  ·rw [if_neg e, if_neg (fun z => e (h1.trans z))]; exact ⟨h1, h2, h3⟩
theorem KT.put {H : Hp} {kvs : List (List Key × V)} {xs : List (List Key × Addr × Value)} (r : KT H kvs xs) (k : List Key) {b : Addr} {y : V} {u : Value} (hb : H b = some (.tup (k.map kV))) (ry : RelV y u) :
  KT H (putK kvs k y) (storedH xs k b u) := by
 have e : (kvs.any fun kv => decide (kv.1 = k)) = (atKey xs k).isSome := by
  rw [z5g, (r.val k).isSome_eq, Option.isSome_map]
 unfold putK storedH
 rw [e]
 by_cases q : (atKey xs k).isSome = true
 ·rw [if_pos q, if_pos q]; exact r.repl k ry
 ·rw [if_neg q, if_neg q]; exact Paired.snoc r ⟨rfl, hb, ry⟩
theorem KT.keeps {H H' : Hp} {kvs : List (List Key × V)} {xs : List (List Key × Addr × Value)} (r : KT H kvs xs) (ht : ∀ b ys, H b = some (.tup ys) → H' b = some (.tup ys)) : KT H' kvs xs :=
 Paired.mapP r fun _ _ z => ⟨z.1, ht _ _ z.2.1, z.2.2⟩
section
variable {P : Program} {w : World} {H : Hp} {h : Heap} {a : Addr}
theorem zcu {u : HO} (ok : HOk P w H h) (e : Rd H a u) : ObjOk P w H h a u := e.ok ok
theorem z7h {kvs : List (Key × V)} (ok : HOk P w H h) (e : Rd H a (.dK kvs)) : kvs.length ≤ sizeLine ∧ (a == sysModules) = false ∧ ∃ vs, KV kvs vs ∧ h.DictOf (zo P w) a vs :=
 show ObjOk P w H h a (.dK kvs) from zcu ok e
theorem z5x {kvs : List (Key × V)} (ok : HOk P w H h) (e : H a = some (.dK kvs)) : kvs.length ≤ sizeLine ∧ (a == sysModules) = false ∧ ∃ vs, KV kvs vs ∧ h.DictOf (zo P w) a vs := z7h ok (.inl e)
theorem z5y {ks : List Key} (ok : HOk P w H h) (e : H a = some (.tup (ks.map kV))) : (tupleKind (zo P w)).is h ks a := by
 obtain ⟨_, its, r, o, h1, h2, n, h3⟩ := (show ObjOk P w H h a (.tup (ks.map kV)) from ok a _ e)
 exact ⟨o, its.toArray, n, h1, h2, h3, by simpa using z6w r⟩
theorem z7i {kvs : List (List Key × V)} (ok : HOk P w H h) (e : Rd H a (.dT kvs)) : kvs.length ≤ sizeLine ∧ (a == sysModules) = false ∧
  ∃ xs, KT H kvs xs ∧ h.DictOfH (tupleKind (zo P w)) a xs := by
 obtain ⟨z, y, xs, r, o, es, ep, h1, h2, h3, h4, h5⟩ := (show ObjOk P w H h a (.dT kvs) from zcu ok e)
 refine ⟨z, y, xs, r, o, es, ep, h1, h2, h3, h4, fun x hx => ?_, h5⟩
 have all : ∀ {l : List (List Key × V)} {m : List (List Key × Addr × Value)}, KT H l m → ∀ x ∈ m, (tupleKind (zo P w)).is h x.1 x.2.1 := by
  intro l m q
  induction q with
  | nil => intro x hx; exact nomatch hx
  | @cons p q ps qs hq t ih =>
   intro x hx
   rcases List.mem_cons.mp hx with e | hx
   ·subst e
    exact z5y ok (by rw [← hq.1]; exact hq.2.1)
   ·exact ih x hx
 exact all r x hx
theorem zei {kvs : List (List Key × V)} (ok : HOk P w H h) (e : H a = some (.dT kvs)) : kvs.length ≤ sizeLine ∧ (a == sysModules) = false ∧
  ∃ xs, KT H kvs xs ∧ h.DictOfH (tupleKind (zo P w)) a xs := z7i ok (.inl e)
end
def DGet (H : Hp) (a : Addr) (y : V) (r : Option V) : Prop :=
 (∃ kvs k, Rd H a (.dK kvs) ∧ y = kV k ∧ r = valV kvs k) ∨ ∃ kvs k b, Rd H a (.dT kvs) ∧ y = .ref b ∧ H b = some (.tup (k.map kV)) ∧ r = valV kvs k
def DPut (H : Hp) (a : Addr) (y v : V) (H' : Hp) : Prop :=
 (∃ kvs k, H a = some (.dK kvs) ∧ y = kV k ∧ kvs.length < sizeLine ∧ H' = upd H a (.dK (putK kvs k v))) ∨
 ∃ kvs k b, H a = some (.dT kvs) ∧ y = .ref b ∧ H b = some (.tup (k.map kV)) ∧ kvs.length < sizeLine ∧ H' = upd H a (.dT (putK kvs k v))
theorem DGet.k {H : Hp} {a : Addr} {kvs : List (Key × V)} {k : Key} (e : H a = some (.dK kvs)) : DGet H a (kV k) (valV kvs k) := .inl ⟨kvs, k, .inl e, rfl, rfl⟩
theorem DGet.t {H : Hp} {a b : Addr} {kvs : List (List Key × V)} {k : List Key} (e : H a = some (.dT kvs)) (eb : H b = some (.tup (k.map kV))) : DGet H a (.ref b) (valV kvs k) := .inr ⟨kvs, k, b, .inl e, rfl, eb, rfl⟩
theorem DPut.k {H : Hp} {a : Addr} {kvs : List (Key × V)} {k : Key} {v : V} (e : H a = some (.dK kvs)) (hl : kvs.length < sizeLine) : DPut H a (kV k) v (upd H a (.dK (putK kvs k v))) := .inl ⟨kvs, k, e, rfl, hl, rfl⟩
theorem DPut.t {H : Hp} {a b : Addr} {kvs : List (List Key × V)} {k : List Key} {v : V} (e : H a = some (.dT kvs)) (eb : H b = some (.tup (k.map kV))) (hl : kvs.length < sizeLine) :
  DPut H a (.ref b) v (upd H a (.dT (putK kvs k v))) := .inr ⟨kvs, k, b, e, rfl, eb, hl, rfl⟩
section
variable {X : Cx} {pins : List (Addr × Obj)} {σ : St} {H : Hp} {s : Shared} {a : Addr} {y v : V} {u r : Value} {o : Option V} {A : Around} {E : Value → Shared → Prop}
theorem Inv.big (I : Inv X pins σ H s) : sysModules < s.heap.objs.size := by
 have h : mainGlobals < s.heap.objs.size := (I.mod.glob.keeps I.bk).lt
 exact Nat.lt_trans (by decide) h
theorem d_in {Q : Value → Shared → Prop} (hu : A.units + 1 < cLine) (I : Inv X pins σ H s) (g : DGet H a y o) (ry : RelV y u) (h : ∀ s', Inv X pins σ H s' → Q (.bool o.isSome) s') :
  wpAny (model X.prog X.w) A (compareOp .In u (.ref a)) Q E s := by
 rcases g with ⟨kvs, k, e, ey, l⟩ | ⟨kvs, k, b, e, ey, eb, l⟩
 ·subst ey
  obtain ⟨z, hd, vs, rel, dd⟩ := z7h I.hok e
  refine wpAny_in_of (z4w ry) hd dd.mapOf ?_
  rw [← (rel.val k).isSome_eq, ← l]
  exact h _ (I.tok _)
 ·subst ey
  cases (show u = Value.ref b from ry)
  obtain ⟨z, hd, xs, rel, dd⟩ := z7i I.hok e
  refine wpAny_in_heap (tupleKind_room_in1 hu) (z5y I.hok eb) hd dd ?_
  have q := (rel.val k).isSome_eq
  rw [Option.isSome_map] at q
  rw [← q, ← l]
  exact h _ (I.tok _)
theorem zdg {Q : Value → Shared → Prop} (hu : A.units + 1 < cLine) (I : Inv X pins σ H s) (g : DGet H a y o) (ry : RelV y u) (h : ∀ s', Inv X pins σ H s' → Q (.bool (!o.isSome)) s') :
  wpAny (model X.prog X.w) A (compareOp .NotIn u (.ref a)) Q E s := by
 rcases g with ⟨kvs, k, e, ey, l⟩ | ⟨kvs, k, b, e, ey, eb, l⟩
 ·subst ey
  obtain ⟨z, hd, vs, rel, dd⟩ := z7h I.hok e
  refine wpAny_notIn_of (z4w ry) hd dd.mapOf ?_
  rw [← (rel.val k).isSome_eq, ← l]
  exact h _ (I.tok _)
 ·subst ey
  cases (show u = Value.ref b from ry)
  obtain ⟨z, hd, xs, rel, dd⟩ := z7i I.hok e
  refine wpAny_notIn_heap (tupleKind_room_in1 hu) (z5y I.hok eb) hd dd ?_
  have q := (rel.val k).isSome_eq
  rw [Option.isSome_map] at q
  rw [← q, ← l]
  exact h _ (I.tok _)
theorem z6c {h' : Heap} {t' : Nat} {ob : HO} (I : Inv X pins σ H s) (mu : Mut (H a)) (hs : Heap.SameBut a s.heap h') (he : ∃ q, h'.get? a = some q) (new : ObjOk X.prog X.w (upd H a ob) h' a ob) :
  Inv X pins σ (upd H a ob) { s with heap := h', toks := t' } :=
 I.write (x := a) (e := a) mu (.inl rfl) (fun b q hb z => (hs.2 b hb).trans z) he new
theorem z7x {P : Program} {w : World} {H' : Hp} {h' : Heap} {kvs : List (Key × V)} {vs : List (Key × Value)} (z : kvs.length ≤ sizeLine) (hd : (a == sysModules) = false) (rel : KV kvs vs) (dd : h'.DictOf (zo P w) a vs) :
  ObjOk P w H' h' a (.dK kvs) := ⟨z, hd, vs, rel, dd⟩
theorem zbd {H' : Hp} {Q : Unit → Shared → Prop} (hu : A.units + 1 < cLine) (I : Inv X pins σ H s) (g : DPut H a y v H') (ry : RelV y u) (rv : RelV v r) (h : ∀ s', Inv X pins σ H' s' → Q () s') :
  wpAny (model X.prog X.w) A (setItem (.ref a) u r) Q E s := by
 rcases g with ⟨kvs, k, e, ey, l, eH⟩ | ⟨kvs, k, b, e, ey, eb, l, eH⟩
 ·subst ey eH
  obtain ⟨z, hd, vs, rel, dd⟩ := z5x I.hok e
  have hz : vs.length ≤ sizeLine := by rw [← rel.length]; exact z
  have hl : (putK kvs k v).length ≤ sizeLine := by have := z3i kvs k v; omega
  refine wpAny_setItem_pairs (hsz := hz) (z4w ry) dd fun h' dd' hs => h _ ?_
  have he : ∃ q, h'.get? a = some q := let ⟨q, _, _, hq, _⟩ := dd'; ⟨q, hq⟩
  exact z6c I (by rw [e]; exact True.intro) hs he (z7x hl hd (rel.put k rv) dd')
 ·subst ey eH
  cases (show u = Value.ref b from ry)
  obtain ⟨z, hd, xs, rel, dd⟩ := zei I.hok e
  have hz : xs.length ≤ sizeLine := by rw [← Paired.length rel]; exact z
  have hl : (putK kvs k v).length ≤ sizeLine := by have := z3i kvs k v; omega
  refine wpAny_setItem_heap (hsz := hz) (tupleKind_room_in1 hu) (z5y I.hok eb) dd fun h' dd' hs => h _ ?_
  obtain ⟨q, es, ep, hq, h2, h3, h4, _, h5⟩ := dd'
  refine z6c I (by rw [e]; exact True.intro) hs ⟨q, hq⟩ ⟨hl, hd, _, (rel.put k eb rv).keeps fun c ys ec => ?_, q, es, ep, hq, h2, h3, h4, h5⟩
  rw [z7 (z19 ec e (fun z => nomatch z))]
  exact ec
end
section
variable {X : Cx} {pins : List (Addr × Obj)} {σ : St} {H : Hp} {s : Shared} {a : Addr} {kvs : List (Key × V)} {k : Key} {u : Value} {A : Around} {E : Value → Shared → Prop}
theorem zej {v : V} {more : List Value} {Q : Value → Shared → Prop} (I : Inv X pins σ H s) (e : H a = some (.dK kvs)) (ry : RelV (kV k) u) (l : valV kvs k = some v) (hm : more = [] ∨ ∃ x, more = [x])
  (h : ∀ w' s', Inv X pins σ (upd H a (.dK (z41 kvs k))) s' → RelV v w' → Q w' s') : wpAny (model X.prog X.w) A (call (.builtin "dict.pop") (.ref a :: u :: more)) Q E s := by
 obtain ⟨z, hd, vs, rel, dd⟩ := z5x I.hok e
 obtain ⟨w', hw, rw'⟩ := RelO.some_of (v := v) (o := valueAt vs k) (by rw [← l]; exact rel.val k)
 have hp : (keyPart u).isSome = true := by
  cases k with
  | inl i => obtain ⟨t, q⟩ := (show ∃ t, u = Value.int i t from ry); subst q; rfl
  | inr x => obtain ⟨t, q⟩ := (show ∃ t, u = Value.str x t from ry); subst q; rfl
 have ha : argsOk "dict.pop" ⟨.ref a :: u :: more, []⟩ := by
  rcases hm with q | ⟨x, q⟩
  ·subst q; exact PySem.F.args_dict_pop_2 _ _
  ·subst q; exact PySem.F.args_dict_pop_3 _ _ _
 refine call_meetsIn PySem.F.slot_dict_pop dd.typeIs PySem.F.entry_dict_pop ha (meets_dict_pop_there (zo X.prog X.w) a (z4w ry) more hm hp)
  ⟨vs, w', dd, by rw [← rel.length]; exact z, hw, fun h' dd' hs => h w' _ ?_ rw'⟩
 have he : ∃ q, h'.get? a = some q := let ⟨q, _, _, hq, _⟩ := dd'; ⟨q, hq⟩
 exact z6c I (by rw [e]; exact True.intro) hs he (z7x (Nat.le_trans (zc6 kvs k) z) hd (rel.drop k) dd')
end
def tDIn (ty td : TE) : TE := fun σ H Q => ty σ H fun y H1 => td σ H1 fun x H2 => ∃ a o, x = .ref a ∧ DGet H2 a y o ∧ Q (.bl o.isSome) H2
def z9b (ty td : TE) : TE := fun σ H Q => ty σ H fun y H1 => td σ H1 fun x H2 => ∃ a o, x = .ref a ∧ DGet H2 a y o ∧ Q (.bl (!o.isSome)) H2
def zcv (td ty tv : TE) : TS := fun D σ H => tv σ H fun v H1 => td σ H1 fun x H2 => ty σ H2 fun y H3 => ∃ a H4, x = .ref a ∧ DPut H3 a y v H4 ∧ D.nx σ H4
section
variable {X : Cx} {o i e value : Expr} {pos pos' tpos : Pos} {td ty tv : TE}
theorem z5z (hu : X.A.units + 1 < cLine) (hi : PE X i ty) (ho : PE X o td) : PC X .In i o (tDIn ty td) := by
 intro pins s σ H Q I h
 refine thn (hi pins s σ H _ I h) fun iv s1 ⟨y, H1, I1, ry, q1⟩ => thn (ho pins s1 σ H1 _ I1 q1) fun u s2 ⟨x, H2, I2, rx, a, ov, ex, g, q2⟩ => ?_
 subst ex
 obtain rfl : u = Value.ref a := rx
 exact d_in hu I2 g ry fun s3 I3 => ⟨.bl ov.isSome, H2, I3, rfl, q2⟩
theorem zbe (hu : X.A.units + 1 < cLine) (hi : PE X i ty) (ho : PE X o td) : PC X .NotIn i o (z9b ty td) := by
 intro pins s σ H Q I h
 refine thn (hi pins s σ H _ I h) fun iv s1 ⟨y, H1, I1, ry, q1⟩ => thn (ho pins s1 σ H1 _ I1 q1) fun u s2 ⟨x, H2, I2, rx, a, ov, ex, g, q2⟩ => ?_
 subst ex
 obtain rfl : u = Value.ref a := rx
 exact zdg hu I2 g ry fun s3 I3 => ⟨.bl (!ov.isSome), H2, I3, rfl, q2⟩
theorem z9c (hu : X.A.units + 1 < cLine) (ho : PE X o td) (hi : PE X i ty) (hv : PE X value tv) (hs : swapsWith value (some (.Subscript o i pos')) pos.line X.env = pure false) :
  PS X (.Assign [.Subscript o i pos'] value pos) (zcv td ty tv) := by
 intro pins s σ H D I h
 refine wpAny_Assign_Subscript (thn (hv pins s σ H _ I h) fun r s1 ⟨v, H1, I1, rv, q1⟩ => thn (ho pins s1 σ H1 _ I1 q1) fun u s2 ⟨x, H2, I2, rx, q2⟩ => thn (hi pins s2 σ H2 _ I2 q2) fun iv s3 ⟨y, H3, I3, ry, a, H4, ex, g, q3⟩ => ?_) hs
 subst ex
 obtain rfl : u = Value.ref a := rx
 exact zbd hu I3 g ry rv fun s4 I4 => ⟨σ, H4, I4, q3⟩
end
theorem zc7 {P : Program} {w : World} {H : Hp} (h : Heap) (hb : sysModules < h.objs.size) : ObjOk P w H (h.push { cls := .type "dict", data := .dict #[] }) h.objs.size (.dK []) :=
 ⟨Nat.zero_le _, beq_eq_false_iff_ne.mpr (Ne.symm (Nat.ne_of_lt hb)), [], .nil, Heap.DictOf.new h⟩
def zbf : TE := fun _ H Q => ∀ p, H p = none → Q (.ref p) (upd H p (.dK []))
section
variable {X : Cx} {pos : Pos}
theorem z44 : PE X (.Dict [] [] pos) zbf := fun pins s σ H Q I h =>
 wpAny_Dict_empty ⟨.ref s.heap.objs.size, _, I.laid (a := s.heap.objs.size) (o := .dK []) (t' := s.toks) (fun _ _ q => Heap.get?_push_of_some _ q) (Nat.le_refl _) (zc7 s.heap I.big), rfl, h _ (I.hok.fresh (Nat.le_refl _))⟩
end
def z2w (kvs more : List (Key × V)) : List (Key × V) := more.foldl (fun acc kv => putK acc kv.1 kv.2) kvs
theorem KV.merge : ∀ {more : List (Key × V)} {rs : List (Key × Value)} {kvs : List (Key × V)} {vs : List (Key × Value)}, KV more rs → KV kvs vs → KV (z2w kvs more) (merged vs rs) := by
 intro more rs kvs vs r
 unfold KV at r
 induction r generalizing kvs vs with
 | nil => intro q; exact q
 | @cons p q ps qs h t ih =>
  intro r0
  have e : KV (putK kvs p.1 p.2) (stored vs q.1 q.2) := by
   have := r0.put p.1 h.2
   rw [← h.1]; exact this
  exact ih e
theorem z49 : ∀ (more kvs : List (Key × V)), (z2w kvs more).length ≤ kvs.length + more.length
 | [], kvs => by show kvs.length ≤ kvs.length + 0; omega
 | p :: r, kvs => by
  have h1 := z49 r (putK kvs p.1 p.2)
  have h2 := z3i kvs p.1 p.2
  show (z2w (putK kvs p.1 p.2) r).length ≤ _
  rw [List.length_cons]; omega
structure M1 (X : Cx) (o : Expr) (m : Str) (apos : Pos) (e : Expr) (cpos : Pos) : Prop where
 base : attributeBase o m X.env (eval o X.env) = eval o X.env
 few : ((backTo cpos (starEach [e] X.env)).all (fun x => !x.1) && (backToKw cpos (keywordEach [] X.env)).all (fun x => x.1.isSome)
  && decide (([e] : List Expr).length + ([] : List Keyword).length + (if ([] : List Keyword).isEmpty then 0 else 1) < 30)) = true
 line : (apos.endLine == cpos.line) = true
 trees : backTo cpos (starEach [e] X.env) = [(false, eval e X.env)]
structure M2 (X : Cx) (o : Expr) (m : Str) (apos : Pos) (e f : Expr) (cpos : Pos) : Prop where
 base : attributeBase o m X.env (eval o X.env) = eval o X.env
 few : ((backTo cpos (starEach [e, f] X.env)).all (fun x => !x.1) && (backToKw cpos (keywordEach [] X.env)).all (fun x => x.1.isSome)
  && decide (([e, f] : List Expr).length + ([] : List Keyword).length + (if ([] : List Keyword).isEmpty then 0 else 1) < 30)) = true
 line : (apos.endLine == cpos.line) = true
 trees : backTo cpos (starEach [e, f] X.env) = [(false, eval e X.env), (false, eval f X.env)]
def IsD (H : Hp) (a : Addr) : Prop := (∃ kvs, Rd H a (.dK kvs)) ∨ ∃ kvs, Rd H a (.dT kvs)
theorem zbg {X : Cx} {pins : List (Addr × Obj)} {σ : St} {H : Hp} {s : Shared} {a : Addr} (I : Inv X pins σ H s) (d : IsD H a) :
  s.TypeIs (.ref a) "dict" ∧ (∀ b, Value.ref a = .ref b → ∃ ob, s.heap.get? b = some ob ∧ ob.dict = none) ∧ (a == sysModules) = false := by
 rcases d with ⟨kvs, e⟩ | ⟨kvs, e⟩
 ·obtain ⟨_, hd, vs, _, dd⟩ := z7h I.hok e
  refine ⟨dd.typeIs, fun b q => ?_, hd⟩
  cases q
  obtain ⟨ob, _, _, h1, h2, _⟩ := dd
  exact ⟨ob, h1, h2.2.1⟩
 ·obtain ⟨_, hd, xs, _, dd⟩ := z7i I.hok e
  refine ⟨dd.typeIs, fun b q => ?_, hd⟩
  cases q
  obtain ⟨ob, _, _, h1, h2, _⟩ := dd
  exact ⟨ob, h1, h2.2.1⟩
section
variable {X : Cx} {pins : List (Addr × Obj)} {σ : St} {H : Hp} {s : Shared} {a : Addr} {y d : V} {u r : Value} {o : Option V} {A : Around} {E : Value → Shared → Prop}
end
def zbh (td ty : TE) : TE := fun σ H Q => td σ H fun x H1 => ∃ a, x = .ref a ∧ IsD H1 a ∧ ty σ H1 fun y H2 => ∃ kvs k v, H2 a = some (.dK kvs) ∧ y = kV k ∧ valV kvs k = some v ∧ Q v (upd H2 a (.dK (z41 kvs k)))
section
variable {X : Cx} {o e f : Expr} {apos cpos : Pos} {td ty tx : TE}
theorem z7y (ho : PE X o td) (he : PE X e ty) (m : M1 X o "pop" apos e cpos) : PE X (.Call (.Attribute o "pop" apos) [e] [] cpos) (zbh td ty) := by
 intro pins s σ H Q I h
 refine wpAny_Call_method m.base m.few m.line PySem.F.plainAttrs_dict PySem.F.slot_dict_pop PySem.F.type_dict_pop (thn (ho pins s σ H _ I h) fun u s1 ⟨x, H1, I1, rx, a, ex, d, q1⟩ => ?_)
 subst ex
 obtain rfl : u = Value.ref a := rx
 obtain ⟨t1, t2, _⟩ := zbg I1 d
 refine ⟨t1, t2, ?_⟩
 rw [m.trees]
 refine Calls.callWith_builtin rfl (Calls.evalArgs_plain (Calls.spliced_cons (thn (he pins s1 σ H1 _ I1 q1) fun iv s2 ⟨y, H2, I2, ry, kvs, k, v, ea, ey, l, q2⟩ => Calls.spliced_nil ?_)))
 subst ey
 exact zej I2 ea ry l (.inl rfl) fun w' s3 I3 rw' => ⟨v, _, I3, rw', q2⟩
end
section
variable {X : Cx} {pins : List (Addr × Obj)} {σ : St} {H : Hp} {s : Shared} {a : Addr} {kvs : List (Key × V)} {A : Around} {E : Value → Shared → Prop}
end
section
variable {X : Cx} {pins : List (Addr × Obj)} {σ : St} {H : Hp} {s : Shared} {a : Addr} {y : V} {u : Value} {A : Around} {E : Value → Shared → Prop}
end
end L2
namespace Att
open PySem PySem.W PySem.Calls PyProof.Rows
section
variable {prog : Program} {w : World} {A : Around} {E : Value → Shared → Prop} {s : Shared} {K : Frag}
end
end Att
namespace L2
open PySem PySem.Spec PyProof.Rows
end L2
namespace L2
open PySem PySem.Spec PyProof.Rows
end L2
namespace L2
open PySem PySem.Spec PyProof.Rows
section
variable {P : Program} {w : World} {K : PySem.W.Frag} {mg : Str → Option Value} {base : Heap}
end
section
variable {X : Cx}
end
section
variable {κ : Type} [DecidableEq κ]
end
end L2
end
section
namespace L2
open PySem PySem.Spec PyProof.Rows
section
variable {X : Cx}
end
end L2
end
section
namespace PySem
open Sem (wp)
open AutoSeq1 (wpAny_loadPart')
end PySem
end
section
namespace PySem
open Sem (wp)
end PySem
end
section
namespace PySem.W
open PySem PySem.Spec PySem.Calls PyProof.Rows
open Builtin Builtin.Getset_descriptor
section
variable {prog : Program} {w : World} {A : Around} {E : Value → Shared → Prop} {s : Shared} {K : Frag} {x C : Addr} {R : Result → Shared → Prop}
structure ErrCls (K : Frag) (C : Addr) : Prop where
 ga : findIn K (.ref C) "__getattribute__" = some (some (.builtin "BaseException.__getattribute__"))
 no : findIn K (.ref C) "__getattr__" = some none
 cl : findIn K (.ref C) "__class__" = some (some (.builtin "object.__class__"))
 sp : specialIn K (.builtin "object.__class__") "__get__" = some (some (.builtin "getset_descriptor.__get__"))
 tk : takesIn K (.builtin "object.__class__") = some true
 mo : mroIn K C (.type "object") = some true
 mb : mroIn K C (.type "BaseException") = some true
end
end PySem.W
namespace L2
open PySem PySem.Spec PyProof.Rows
section
variable {X : Cx}
end
end L2
end
section
namespace PySem
end PySem
namespace L2
open PySem PySem.Spec PyProof.Rows
section
variable {X : Cx}
end
end L2
end
section
namespace L2
open PySem PySem.Spec PyProof.Rows
structure CompScope2 (X : Cx) (sc : Scope) (x y2 : Str) (cap : List Str) (js : List Nat) : Prop where
 kind : sc.kind = .function
 nocell : ∀ y ∈ sc.names, y.2 ≠ .cell
 names : ∀ y ∈ sc.names, y.2 = .local → sc.names.lookup y.1 = some .local
 own : sc.names.lookup x = some .local
 own2 : sc.names.lookup y2 = some .local
 free : ∀ y ∈ sc.names, y.2 = .free → X.env.kindOf y.1 = some .cell ∨ X.env.kindOf y.1 = some .free
 nd : (x :: y2 :: cap).Nodup
 caps : CapOk X sc cap js
section
variable {X : Cx} {sc : Scope} {x y2 : Str} {cap : List Str} {js : List Nat} {pins : List (Addr × Obj)} {σ : St} {H : Hp} {s : Shared}
theorem CompScope2.cells (S : CompScope2 X sc x y2 cap js) (I : Inv X pins σ H s) : ∀ y ∈ sc.names, y.2 = .free → ∃ c, X.env.cells.lookup y.1 = some c := fun y hy hf => I.ok.has y.1 (S.free y hy hf)
theorem CompScope2.sub (S : CompScope2 X sc x y2 cap js) (I : Inv X pins σ H s) {y : Str} {c : Addr} (h : (z1a X.env sc.names []).lookup y = some c) : X.env.cells.lookup y = some c :=
 z3y (S.cells I) (fun _ _ e => by simp at e) h
theorem z8q {s4 : Shared} {h4 : Heap} {t4 : Nat} {fp : List Addr} {C : Addr} {v : Option V} {m : Str → Option Value} (S : CompScope2 X sc x y2 cap js) (I : Inv X pins σ H s) (hfp : ∀ b ∈ fp, FpOk X pins H b) (hlt : ∀ b ∈ fp, b < s.heap.objs.size)
    (hC : s.heap.objs.size ≤ C) (hn : h4.Ns C m) (k : ∀ b o, s.heap.get? b = some o → h4.get? b = some o) :
    Inv (zk X sc (x :: y2 :: cap) s H C fp) [] (none :: none :: capt σ js) H { s with heap := h4, toks := t4 } := by
  have nf : ∀ b ∈ frs X.stack, b < s.heap.objs.size := fun b hb => by
    obtain ⟨_, o, ho, _⟩ := I.stack.mem hb
    exact Heap.lt_size ho
  refine ⟨⟨I.ok.mod, S.kind, I.ok.glob, I.ok.blt, hC, fun y z c h1 h2 => I.ok.inj y z c (S.sub I h1) (S.sub I h2), fun y hy => ?_, fun y c h => absurd h Bool.false_ne_true, I.ok.hd, I.ok.frames, .inl rfl, fun b hb => ⟨Nat.ne_of_lt (Nat.lt_of_lt_of_le (hlt b hb) hC), fun y c e => (hfp b hb).2.2.2.2.1 y c (S.sub I e)⟩, I.bs,
      Nat.le_trans I.ok.bsz I.sz, fun b o e hb => ?_, fun b hb z => ?_, I.stack, I.stkFree⟩, rfl, I.bare, Un.kept k, ⟨m, hn, fun i y v' h1 h2 h3 => ?_⟩, fun y c e => ?_, I.hok.fresh hC, fun y c e => I.freeC y c (S.sub I e), fun p hp => absurd (show p ∈ ([] : List (Addr × Obj)) from hp) (by simp), I.hok.kept k, ?_⟩
  · exact z2h (by
      rcases hy with z | z
      · exact z2r z (.inl rfl) S.nocell
      · exact z2r z (.inr rfl) S.nocell)
  · rcases (hfp b hb).2.2.2.1 with z | z
    · exact I.ok.noex b o e z
    · exact absurd (Nat.lt_of_lt_of_le (Heap.lt_size e) (Nat.le_trans I.ok.bsz z)) (Nat.lt_irrefl _)
  · rcases List.mem_cons.mp (I.stkSub b z) with q | q
    · exact (hfp b hb).2.1 q
    · exact (hfp b hb).2.2.1 q
  · cases i with
    | zero => exact absurd (show (none : Option V) = some v' from Option.some.inj h2) (by simp)
    | succ i =>
     cases i with
     | zero => exact absurd (show (none : Option V) = some v' from Option.some.inj h2) (by simp)
     | succ i =>
      have e1 : cap[i]? = some y := by simpa using h1
      obtain ⟨j, q1, q2, q3, q4⟩ := S.caps.get e1
      have e2 : (capt σ js)[i]? = some (some v') := by simpa using h2
      have e3 : σ[j]? = some (some v') := by
        unfold capt at e2
        rw [List.getElem?_map, q1, Option.map_some] at e2
        have e4 : (σ[j]?).join = some v' := Option.some.inj e2
        cases q : σ[j]? with
        | none => rw [q] at e4; cases e4
        | some w => rw [q] at e4; exact congrArg some e4
      have vis : Vis X.env.scope y := by
        rcases q3 with q3 | q3
        · exact .inr (.inl q3)
        · exact .inr (.inr q3)
      obtain ⟨mX, hnX, hl⟩ := I.loc
      obtain ⟨u, ru, lk⟩ := hl j y v' q2 e3 vis
      refine ⟨u, ru, .inr ?_⟩
      rcases lk with ⟨hk, _⟩ | ⟨hk, c, hc, hcell⟩
      · rcases q3 with q3 | q3
        · rw [q3] at hk; cases hk
        · rw [q3] at hk; cases hk
      · obtain ⟨c', hc'⟩ := z2h (env := X.env) (cs := []) (PySem.mem_of_lookup q4)
        have := S.sub I hc'
        rw [hc] at this
        cases this
        obtain ⟨o, ho, hd⟩ := hcell
        refine ⟨?_, c, hc', ⟨o, k c o ho, hd⟩⟩
        rcases h3 with z | z | z
        · exfalso
          have hz := PySem.mem_of_lookup z
          obtain ⟨⟨n, k'⟩, hn', en⟩ := List.mem_map.mp hz
          by_cases hf : (k' == NameKind.free && X.env.scope.kind == .function && X.env.kindOf n == some .cell) = true
          · simp only [hf, if_true] at en
            cases en
          · simp only [hf, if_false] at en
            cases en
            have := S.names _ hn' rfl
            rw [q4] at this
            cases this
        · exact .inl z
        · exact .inr z
  · obtain ⟨v', o, ho, hd⟩ := I.cell y c (S.sub I e)
    exact ⟨v', o, k c o ho, hd⟩
  · show (none :: none :: capt σ js).length = (x :: y2 :: cap).length
    unfold capt
    rw [List.length_cons, List.length_cons, List.length_cons, List.length_cons, List.length_map, S.caps.len]
end
def z4x (J : It) (g2 : TG) (tc : TT) (te : TE) (js : List Nat) (σ : St) (H1 : Hp) (Q : VK) : Prop :=
 ∃ W : Nat → Nat → List V → Hp → Prop, (∃ m, W 0 m [] H1) ∧ ∀ i m acc H, W i m acc H →
  (J.stop i H ∧ ∀ p, H p = none → Q (.ref p) (upd H p (.lst acc))) ∨
  (J.go i H ∧ acc.length < sizeLine ∧ ∀ x H', J.yld i H x H' → g2 x (none :: none :: capt σ js) H' fun σ2 H4 => (∃ a b, σ2 = a :: b :: capt σ js) ∧ tc σ2 H4 fun b H2 =>
   if b = true then te σ2 H2 fun v H3 => ∃ m', m' < m ∧ W (i + 1) m' (acc ++ [v]) H3 else ∃ m', m' < m ∧ W (i + 1) m' acc H2)
def zbi (wi : TI) (g2 : TG) (tc : TT) (te : TE) (js : List Nat) : TE := fun σ H Q => wi σ H fun J H1 => z4x J g2 tc te js σ H1 Q
section
variable {X : Cx} {sc : Scope} {x y2 : Str} {cap : List Str} {js : List Nat} {pins : List (Addr × Obj)} {σ : St} {H : Hp} {s : Shared} {elt iter tg : Expr} {g2 : TG} {ifs : List Expr} {px pos : Pos} {tc : TT} {te : TE}
theorem z8r {J : It} {it : Addr} {fp : List Addr} {tn : Nat → Heap → Prop} {Q : VK} {E : Value → Shared → Prop} {RR : Value → Addr → Result → Shared → Prop} (S : CompScope2 X sc x y2 cap js) (hgt : ∀ s H C fp, PG (zk X sc (x :: y2 :: cap) s H C fp) tg g2) (hcalm : X.calm = true)
  (hc : ∀ s H C fp, PIf (zk X sc (x :: y2 :: cap) s H C fp) ifs tc) (he : ∀ s H C fp, PE (zk X sc (x :: y2 :: cap) s H C fp) elt te)
  (I : Inv X pins σ H s) (T : Turn X.prog X.w X.K tg J fp it tn) (st : tn 0 s.heap) (hfp : ∀ b ∈ fp, FpOk X pins H b) (go : z4x J g2 tc te js σ H Q)
  (hRR : ∀ D C HB sB σB acc its n, s.heap.objs.size ≤ D → s.heap.objs.size ≤ C → D ≠ C → Inv (zk X sc (x :: y2 :: cap) s H C fp) [] σB HB sB → HB D = none → sB.heap.get? D = some { cls := .type "list", data := .seq (its : List Value).toArray n } → Vals acc its → acc.length ≤ sizeLine →
   (∀ p, HB p = none → Q (.ref p) (upd HB p (.lst acc))) → RR (.ref D) C (.ok .next) sB) :
  wpAny (model X.prog X.w) X.A (newList []) (fun acc s₃ => wpAny (model X.prog X.w) X.A (newFunctionEnv sc X.env.globals (z1a X.env sc.names []) [] X.env.qual none .none (some X.env)) (fun cenv s₄ =>
   codeAny (model X.prog X.w) X.A (.compStart (.ListComp elt [⟨tg, iter, ifs, 0⟩] sc pos) 0 (.ref it) acc { cenv with scope := relabel sc X.env }) (RR acc cenv.locals) s₄) E s₃) E s := by
 refine wpAny_newObj_type (wpAny_newFunctionEnv S.nocell (by intro y hy; simp at hy) (fun h₁ hns₁ hsb₁ => ?_) S.kind)
 dsimp only at hns₁ hsb₁ ⊢
 generalize hH2 : s.heap.push { cls := .type "list", dict := none, data := .seq ([] : List Value).toArray } = H2 at hns₁ hsb₁ ⊢
 have hCs : H2.objs.size = s.heap.objs.size + 1 := by rw [← hH2, Heap.size_push]
 have hDC : s.heap.objs.size ≠ H2.objs.size := by rw [hCs]; exact Nat.ne_of_lt (Nat.lt_succ_self _)
 have hCle : s.heap.objs.size ≤ H2.objs.size := by rw [hCs]; exact Nat.le_succ _
 have below : ∀ b, b < s.heap.objs.size → b ≠ H2.objs.size := fun b hb => by rw [hCs]; exact Nat.ne_of_lt (Nat.lt_succ_of_lt hb)
 have old : ∀ b o, s.heap.get? b = some o → h₁.get? b = some o := fun b o e => hsb₁.extBut b o (below b (Heap.lt_size e)) (Heap.get?_push_of_some _ (hH2 ▸ Heap.get?_push_of_some _ e))
 have hacc : h₁.get? s.heap.objs.size = some { cls := .type "list", data := .seq ([] : List Value).toArray 0 } := hsb₁.extBut _ _ hDC (Heap.get?_push_of_some _ (hH2 ▸ Heap.get?_push_size _ rfl))
 have hlt : ∀ b ∈ fp, b < s.heap.objs.size := fun b hb => by
  obtain ⟨o, e, _⟩ := T.obj _ _ st b hb
  exact Heap.lt_size e
 obtain ⟨W, ⟨m0, w0⟩, turn⟩ := go
 have nD : ∀ b ∈ fp, b ≠ s.heap.objs.size := fun b hb => Nat.ne_of_lt (hlt b hb)
 have nfs : s.heap.objs.size ∉ frs X.stack := fun z => by
  obtain ⟨_, o, ho, _⟩ := I.stack.mem z
  exact absurd (Heap.lt_size ho) (Nat.lt_irrefl _)
 have ncl : ∀ y c, (z1a X.env sc.names []).lookup y = some c → c ≠ s.heap.objs.size := fun y c e => by
  obtain ⟨v, o, ho, _⟩ := I.cell y c (S.sub I e)
  exact Nat.ne_of_lt (Heap.lt_size ho)
 have loop : ∀ s₃ : Shared, s₃ = { s with heap := h₁, toks := s.toks + ([] : List (Str × Value)).length } →
   codeAny (model X.prog X.w) X.A (.compLoop (.ListComp elt [⟨tg, iter, ifs, 0⟩] sc pos) 0 (.ref it) (.ref s.heap.objs.size) (compEnvC sc (z1a X.env sc.names []) H2.objs.size X.env))
    (RR (.ref s.heap.objs.size) H2.objs.size) s₃ := by
  rintro s₃ rfl
  have I0 : Inv (zk X sc (x :: y2 :: cap) s H H2.objs.size fp) [] (none :: none :: capt σ js) H { s with heap := h₁, toks := s.toks + ([] : List (Str × Value)).length } := z8q (v := none) S I hfp hlt hCle hns₁ old (s4 := s)
  refine z59 (fun n s' => ∃ i H' acc its k, Inv (zk X sc (x :: y2 :: cap) s H H2.objs.size fp) [] (none :: none :: capt σ js) H' s' ∧ tn i s'.heap ∧ (∀ b ∈ fp, H' b = none) ∧ H' s.heap.objs.size = none ∧
    s'.heap.get? s.heap.objs.size = some { cls := .type "list", data := .seq (its : List Value).toArray k } ∧ Vals acc its ∧ acc.length ≤ sizeLine ∧ W i n acc H') ?_ m0
   ⟨0, H, [], [], 0, I0, T.keep _ _ _ st fun b _ o e => old b o e, fun b hb => (hfp b hb).1, I.hok.fresh (Nat.le_refl _), hacc, .nil, Nat.zero_le _, w0⟩
  rintro n s3 ⟨i, H3, acc, its, kk, I3, st3, fr3, fD3, d3, r3, z3, w3⟩
  have fpY : ∀ {H' : Hp} {pl : List (Addr × Obj)}, (∀ b ∈ fp, H' b = none) → (∀ p ∈ pl, p.1 = s.heap.objs.size) → ∀ b ∈ fp, FpOk (zk X sc (x :: y2 :: cap) s H H2.objs.size fp) pl H' b := fun {H' pl} hn hp b hb =>
   ⟨hn b hb, below b (hlt b hb), fun z => by
    rcases List.mem_cons.mp (I.stkSub b z) with q | q
    ·exact (hfp b hb).2.1 q
    ·exact (hfp b hb).2.2.1 q, .inl hb, fun y c e => (hfp b hb).2.2.2.2.1 y c (S.sub I e), fun p hp' => by
    rw [hp p hp']
    exact Ne.symm (nD b hb)⟩
  have pin3 : Inv (zk X sc (x :: y2 :: cap) s H H2.objs.size fp) [(s.heap.objs.size, { cls := .type "list", data := .seq its.toArray kk })] (none :: none :: capt σ js) H3 s3 := I3.pins_of fun p hp => by
   have e : p = (s.heap.objs.size, { cls := .type "list", data := .seq its.toArray kk }) := by simpa using hp
   subst e
   exact ⟨d3, fD3, hDC, nfs, fun v z => by cases z⟩
  have onlyD : ∀ p ∈ [(s.heap.objs.size, ({ cls := .type "list", data := .seq its.toArray kk } : Obj))], p.1 = s.heap.objs.size := fun p hp => by
   have e : p = (s.heap.objs.size, { cls := .type "list", data := .seq its.toArray kk }) := by simpa using hp
   rw [e]
  rcases turn i n acc H3 w3 with ⟨stop, qn⟩ | ⟨gon, hlen, step⟩
  ·refine wpAny_mono (T.done (zk X sc (x :: y2 :: cap) s H H2.objs.size fp) rfl rfl rfl hcalm i _ s3 _ H3 (fun _ _ => False) pin3 (fpY fr3 onlyD) st3 stop) (fun r s4 hr => ?_) fun _ _ z => z.elim
   obtain ⟨hr, I4⟩ := hr
   subst hr
   have d4 := (I4.pin _ (List.mem_append_right _ List.mem_cons_self)).1
   exact hRR _ _ H3 s4 _ acc its kk (Nat.le_refl _) hCle hDC (I4.pins_of fun p hp => by simp at hp) fD3 d4 r3 z3 qn
  ·refine wpAny_mono (T.item (zk X sc (x :: y2 :: cap) s H H2.objs.size fp) rfl rfl rfl hcalm i _ s3 _ H3 (fun _ _ => False) pin3 (fpY fr3 onlyD) st3 gon) (fun r s4 hr => ?_) fun _ _ z => z.elim
   obtain ⟨u, hr, h4⟩ := hr
   subst hr
   dsimp only
   refine wpAny_mono h4 (fun _ s5 h5 => ?_) fun _ _ z => z.elim
   obtain ⟨xv, H5, I5, r5, y5, st5, fr5⟩ := h5
   have I5' := I5.pinned (fpY fr5 onlyD) (T.obj _ _ st5)
   refine wpAny_mono (hgt s H H2.objs.size fp _ s5 _ H5 _ _ _ I5' r5 (step xv H5 y5)) (fun _ s6 q6 => ?_) fun _ _ z => z.elim
   obtain ⟨σ6, H6, I6', ⟨va, vb, e6⟩, q6⟩ := q6
   subst e6
   refine wpAny_mono (hc s H H2.objs.size fp _ s6 _ H6 _ I6' q6) (fun b s7 q7 => ?_) fun _ _ z => z.elim
   obtain ⟨H7, I7, q7⟩ := q7
   have weak : ∀ {pl : List (Addr × Obj)} {HH : Hp} {ss : Shared}, Inv (zk X sc (x :: y2 :: cap) s H H2.objs.size fp) pl (va :: vb :: capt σ js) HH ss → Inv (zk X sc (x :: y2 :: cap) s H H2.objs.size fp) pl (none :: none :: capt σ js) HH ss := fun J => J.weak rfl fun k v e => by
    cases k with
    | zero => exact absurd (Option.some.inj e) (by simp)
    | succ k =>
     cases k with
     | zero => exact absurd (Option.some.inj e) (by simp)
     | succ k => simpa using e
   have back : ∀ {HH : Hp} {ss : Shared}, Inv (zk X sc (x :: y2 :: cap) s H H2.objs.size fp) ([(s.heap.objs.size, { cls := .type "list", data := .seq its.toArray kk })] ++ z33 fp s5.heap) (va :: vb :: capt σ js) HH ss →
     tn (i + 1) ss.heap ∧ (∀ b ∈ fp, HH b = none) ∧ HH s.heap.objs.size = none ∧ ss.heap.get? s.heap.objs.size = some { cls := .type "list", data := .seq its.toArray kk } := fun {HH ss} K => by
    refine ⟨T.keep _ _ _ st5 fun b hb o e => (K.pin (b, o) (List.mem_append_right _ (List.mem_append_right _ (z21 hb e)))).1, fun b hb => ?_, ?_, ?_⟩
    ·obtain ⟨o, e, d⟩ := T.obj _ _ st5 b hb
     exact (K.pin (b, o) (List.mem_append_right _ (List.mem_append_right _ (z21 hb e)))).2.1
    ·exact (K.pin _ (List.mem_append_right _ (List.mem_append_left _ List.mem_cons_self))).2.1
    ·exact (K.pin _ (List.mem_append_right _ (List.mem_append_left _ List.mem_cons_self))).1
   cases b with
   | false =>
    rw [if_neg Bool.false_ne_true] at q7 ⊢
    obtain ⟨m', hm, w7⟩ := q7
    obtain ⟨b1, b2, b3, b4⟩ := back I7
    exact ⟨m', hm, i + 1, H7, acc, its, kk, (weak I7).pins_of fun p hp => by simp at hp, b1, b2, b3, b4, r3, z3, w7⟩
   | true =>
    rw [if_pos rfl] at q7 ⊢
    refine wpAny_mono (he s H H2.objs.size fp _ s7 _ H7 _ I7 q7) (fun u8 s8 q8 => ?_) fun _ _ z => z.elim
    obtain ⟨v8, H8, I8, r8, m', hm, w8⟩ := q8
    obtain ⟨b1, b2, b3, b4⟩ := back I8
    have hl3 := r3.length
    refine call_meets F.slot_list_append ⟨_, b4, rfl⟩ F.entry_list_append (F.args_list_append_2 _ _) (PySem.list_append s.heap.objs.size its.toArray kk u8 (by rw [List.size_toArray]; omega)) ⟨b4, ?_⟩
    have q := PySem.IsL.update b4 (·.push u8)
    obtain ⟨n', q'⟩ : ∃ n', (s8.heap.update s.heap.objs.size (Obj.mapSeq (·.push u8))).get? s.heap.objs.size = some { cls := .type "list", data := .seq (its ++ [u8]).toArray n' } := by
     rw [show (its ++ [u8]).toArray = its.toArray.push u8 by simp]
     exact ⟨_, q⟩
    refine ⟨m', hm, i + 1, H8, acc ++ [v8], its ++ [u8], _, ?_, T.keep _ _ _ b1 fun b hb o e => (Heap.get?_update_other s8.heap _ (Ne.symm (nD b hb))).trans e, b2, b3, q', r3.append (.cons r8 .nil), by rw [List.length_append, List.length_singleton]; omega, w8⟩
    exact Inv.turned (X := zk X sc (x :: y2 :: cap) s H H2.objs.size fp) (it := s.heap.objs.size) ((weak I8).pins_of (pins' := []) fun p hp => by simp at hp) (fun b o hb e => (Heap.get?_update_other s8.heap _ (Ne.symm hb)).trans e) b3 hDC (.inr (Nat.le_refl _)) ncl (fun p hp => absurd (show p ∈ ([] : List (Addr × Obj)) from hp) (by simp))
 exact codeAny_compStart_list (loop _ rfl) (T.self _ 0 _ _ _ (T.keep _ _ _ st fun b _ o e => old b o e) (loop _ rfl))
theorem zc8 {wi : TI} (hcalm : X.calm = true) (S : CompScope2 X sc x y2 cap js) (hgt : ∀ s H C fp, PG (zk X sc (x :: y2 :: cap) s H C fp) tg g2) (hi : PI X tg iter wi) (hc : ∀ s H C fp, PIf (zk X sc (x :: y2 :: cap) s H C fp) ifs tc) (he : ∀ s H C fp, PE (zk X sc (x :: y2 :: cap) s H C fp) elt te)
  (hs : ∀ x, foldedSetIterable iter X.env x = pure x := by intro _; rfl) : PE X (.ListComp elt [⟨tg, iter, ifs, 0⟩] sc pos) (zbi wi g2 tc te js) := by
 intro pins s σ H Q I h
 rw [eval_ListComp]
 refine wpAny_comprehension_free (use := none) rfl hs (z5w (S.cells I)) S.kind S.names (thn (hi pins s σ H _ I h) fun v s1 h1 => thn h1 fun itv s2 h2 => ?_)
 obtain ⟨it, fp, tn, J, H2, e, I2, T, st2, f2, go⟩ := h2
 subst e
 refine z8r S hgt hcalm hc he I2 T st2 f2 go fun D C HB sB σB acc its n hD hC hDC IB hHD hd rv hz q => ?_
 obtain ⟨m, hn, _⟩ := IB.loc
 exact ⟨m, hn, fun h' sb => ⟨.ref D, upd HB D (.lst acc), z7u (sc := sc) (x := x) (cap := y2 :: cap) I2 f2 IB hC hD hDC hHD hd rv hz fun b o hb e => sb.extBut b o hb e, rfl, q D hHD⟩⟩
end
end L2
end
section
namespace L2
open PySem PySem.Spec PyProof.Rows
theorem za3 (wi : TI) (g2 : TG) (tc : TT) (te : TE) (js : List Nat) (σ : St) (H : Hp) (Q : VK) : zbi wi g2 tc te js σ H Q = wi σ H fun J H1 => z4x J g2 tc te js σ H1 Q := rfl
section
variable {J : It} {K : PySem.W.Frag} {a : Addr} {xs : List V} {g2 : TG} {tc : TT} {te : TE} {js : List Nat} {σ : St} {H1 : Hp} {Q : VK}
theorem z8s (n : Nat) (hn : n ≤ sizeLine) (Pv : Nat → List V → Hp → Prop) (h0 : Pv 0 [] H1) (hlen : ∀ i acc H, Pv i acc H → acc.length ≤ i)
  (hgo : ∀ i acc H, i < n → Pv i acc H → J.go i H) (hstop : ∀ acc H, Pv n acc H → J.stop n H)
  (hs : ∀ i acc H x H', i < n → Pv i acc H → J.yld i H x H' → g2 x (none :: none :: capt σ js) H' fun σ2 H4 => (∃ a b, σ2 = a :: b :: capt σ js) ∧ tc σ2 H4 fun b H2 => if b = true then te σ2 H2 fun v H3 => Nx n Pv i (acc ++ [v]) H3 else Nx n Pv i acc H2)
  (hd : ∀ acc H, Pv n acc H → ∀ p, H p = none → Q (.ref p) (upd H p (.lst acc))) : z4x J g2 tc te js σ H1 Q := by
 refine ⟨fun i m acc H => m = n - i ∧ i ≤ n ∧ Pv i acc H, ⟨n, by simp, Nat.zero_le _, h0⟩, ?_⟩
 rintro i m acc H ⟨rfl, hi, p⟩
 by_cases hlt : i < n
 ·exact .inr ⟨hgo i acc H hlt p, by have := hlen i acc H p; omega, fun x H' y => hs i acc H x H' hlt p y⟩
 ·have e : i = n := by omega
  subst e
  exact .inl ⟨hstop acc H p, hd acc H p⟩
end
section
variable {X : Cx} {k : Nat} {C : Addr} {m : Str} {ps : List Str} {sp : Sp} {o e : Expr} {es : List Expr} {ta : TE} {t : TA} {apos pos : Pos} {E : XK}
theorem zdh {pl : Sem Bool} (hx : z25 (CX1 X.prog X.w) X E) (G : MHas X.prog X.w X.K X.mg X.base (CX1 X.prog X.w) k C m ps sp) (c : Cls X.K C) (hr : Room k X.A) (he : PE X o ta) (ha : PA X (e :: es) t)
  (hst : starEach (e :: es) X.env = (false, eval e X.env) :: starEach es X.env := by rfl) (hpl : (backTo pos (starEach es X.env)).any (·.1) = false := by rfl)
  (ht : eval (.Call (.Attribute o m apos) (e :: es) [] pos) X.env = (do
   let ov ← eval o X.env
   standAt apos.atName
   let (f, first) ← holding [ov] (getMethod ov m pl)
   callWith pos f first (backTo pos (starEach (e :: es) X.env)) (backToKw pos (keywordEach [] X.env))) := by rfl) :
  PE X (.Call (.Attribute o m apos) (e :: es) [] pos) (z4r C m sp [] E ta t) := by
 obtain ⟨f, fd, F, hm, hb⟩ := G
 exact z95 he c hm F hr hb .nil hx ha hst hpl ht
end
theorem zbj {X : Cx} {K : PySem.W.Frag} {pos : Pos} {es : List Expr} {k : Nat} {t : TGs} (hc : X.calm = true) (h : PGs X es t) (hn : (assignEach es X.env).length = 2 := by rfl) (hst : (assignEach es X.env).findIdx? (·.1) = none := by rfl) (hK : X.K = K := by rfl) : PG X (.Tuple es k pos) (gTup K 2 t) := hK ▸ zaj hc h hn hst
theorem z9d {X : Cx} {k : Nat} {C : Addr} {x : Str} {ps : List Str} {sp : Sp} {p pos : Pos} {e : Expr} {es : List Expr} {t : TA} (G : KHas X.prog X.w X.K X.mg X.base k C ps sp) (hr : Room (k + 1) X.A) (hg : Gl X x) (hm : X.mg x = some (.ref C)) (ha : PA X (e :: es) t) (hdb : (x == ("__debug__" : Str)) = false := by decide)
  (he : starEach (e :: es) X.env = (false, eval e X.env) :: starEach es X.env := by rfl) (hpl : (backTo pos (starEach es X.env)).any (·.1) = false := by rfl) : PE X (.Call (.Name x p) (e :: es) [] pos) (z5s C sp [] E0 t) := by
 obtain ⟨f, fd, F, M, hb⟩ := G
 exact zd7 M F hr hg hm hb .nil z5v ha hdb he hpl
def PSXs (X : Cx) (ss : List Stmt) (t : TSX) : Prop :=
 ∀ (pins : List (Addr × Obj)) (s : Shared) (σ : St) (H : Hp) (D : Ends) (Ex : XK), Inv X pins σ H s → t D Ex σ H → wpAny (model X.prog X.w) X.A (execs ss X.env) (SP X pins D) (XP X pins σ Ex) s
section
variable {X : Cx}
theorem zc9 {st : Stmt} {t : TSX} (h : PSX X st t) : PSXs X [st] t := by
 intro pins s σ H D Ex I hw
 refine wpAny_execs_cons (wpAny_mono (h pins s σ H D Ex I hw) (fun f s1 q => ?_) fun _ _ z => z)
 cases f with
 | next => exact wpAny_execs_nil q
 | ret v => exact q
 | brk => exact q
 | cont => exact q
def tIfX (tc : TT) (tx : TEX) (u : TSX) : TSX := fun D Ex σ H => tc σ H fun b H1 => if b = true then tx σ H1 D.rt Ex else u D Ex σ H1
theorem za4 {c e : Expr} {ss : List Stmt} {p1 p2 : Pos} {tc : TT} {tx : TEX} {u : TSX} (hc : PT X.nox c tc) (he : PEX X e tx) (hr : PSXs X ss u) : PSXs X (.If c [.Return (some e) p1] [] p2 :: ss) (tIfX tc tx u) := by
 intro pins s σ H D Ex I hw
 refine wpAny_execs_cons (wpAny_If (wpAny_mono (hc pins s σ H _ (I.wish _) hw) (fun d s1 hq => ?_) fun _ _ z => z.elim))
 obtain ⟨H1, I1, q1⟩ := hq
 have I1 := I1.unwish
 cases d with
 | true =>
  refine wpAny_execs_cons (wpAny_Return_some (wpAny_mono (he pins s1 σ H1 _ Ex I1 q1) (fun v s2 hq => ?_) fun _ _ z => z))
  obtain ⟨x, H2, I2, r2, q2⟩ := hq
  exact ⟨x, σ, H2, I2, r2, q2⟩
 | false => exact wpAny_execs_nil (hr pins s1 σ H1 D Ex I1 q1)
theorem zdi {ss : List Stmt} {h0 : ExceptHandler} {hs : List ExceptHandler} {pos : Pos} {t : TSX} {th : TH} (hb : PSXs X ss t) (hh : PH X (h0 :: hs) th) (s1 : X.stack = X.env :: X.outer := by rfl) (s2 : X.env.frame = some X.env.locals := by rfl) :
  PS X (.Try ss (h0 :: hs) [] [] pos) (tTry t th) := by
 intro pins s σ H D I h
 refine wpAny_Try_except (wpAny_mono (hb pins s σ H D _ I h) (fun f s3 q => ?_) fun ev s3 q => ?_)
 ·cases f with
  | next => exact wpAny_execs_nil q
  | ret v => exact q
  | brk => exact q
  | cont => exact q
 ·obtain ⟨x, C, t', B, H', rfl, F, hx⟩ := q
  have fl := F.fly
  rw [s1] at fl
  refine wpAny_looks_onW (by rw [← s1]; exact I.ok.frames) s2 fl fun h4 held up4 => ?_
  refine wpAny_landsW held fun h5 fl5 up5 => ?_
  rw [← s1] at fl5
  exact hh pins _ σ H' D x C t' B (F.on fl5 (up4.trans up5)) hx
end
end L2
end
section
namespace PySem
theorem z7z : typeLookup (.type "list") "keys" = pure none := by rw [typeLookup_type, builtinLookup_eq_fast]; kernel_rfl
theorem z4i {prog : Program} {w : World} {A : Around} {E : Value → Shared → Prop} {s : Shared} {a : Addr} {o : Obj} {xs : Array Value} {k : Nat} {name : Str} {Q : Option Value → Shared → Prop}
  (hx : s.heap.get? a = some o) (hc : o.cls = .type "list") (hdat : o.data = .seq xs k) (hd : o.dict = none) (hmiss : typeLookup (.type "list") name = pure none) (hname : (["__module__", "__name__", "__qualname__", "__doc__", "__annotations__"] : List Str).contains name = false) (hA : A.handled = none)
  (h : ∀ h' tk e, Heap.NewExcOf s.heap h' e "AttributeError" → Q none { s with heap := h', toks := tk }) (hsz : name.length + 100 ≤ sizeLine := by size_fits) :
  wpAny (model prog w) A (getAttr? (.ref a) name) Q E s := by
 obtain ⟨c, dct, dat, sl⟩ := o
 simp only at hc hdat hd
 subst hc hdat hd
 obtain ⟨hp, g, d, tk, os⟩ := s
 have hT : ∀ tk', (⟨hp, g, d, tk', os⟩ : Shared).TypeIs (.ref a) "list" := fun _ => ⟨_, hx, rfl⟩
 have f1 := sub_AttributeError
 have f3 := F.slot_list_getattribute.lookup
 have f4 := F.slot_list_getattribute.bind (.ref a)
 have f5 := am_list_getattr_none
 unfold getAttr? getAttrBy? getAttrBy
 repeat (any_goals (first | assumption | exact hT _ | ((with_reducible show wpAny _ _ (call (Value.builtin "list.__getattribute__") _ _) _ _ _); refine call_meets F.slot_list_getattribute (hT _) am_entry_list_getattribute (F.args_list_getattribute_2 _ _) (meets_getattribute_miss_list a xs k sl name _ hmiss hname hsz) ⟨hx, hA, fun h' tk' e hx' => ?_⟩) | wp_step))
 obtain ⟨t', u', he⟩ := hx'.there
 show wpAny _ _ (getattributeRaised _ _ _ _ _ _ _) _ _ _
 unfold getattributeRaised
 repeat (any_goals (first | assumption | wp_step))
 exact h _ _ _ hx'.of
end PySem
end
section
namespace PySem
open PyProof.Rows (StrsAre)
theorem z9e (t : SetTable) (j : Nat) : (t.put j).1.led = t.led ∧ (t.put j).1.plain = t.plain := by
 unfold SetTable.put; exact ⟨rfl, rfl⟩
theorem za5 (t : SetTable) (es : Array (Int × Value)) (h : Int) (x : Value) :
  (layNew t es h x).2.1.led = t.led ∧ (t.plain = false → (layNew t es h x).2.1.plain = false) := by
 unfold layNew
 split
 ·dsimp only
  unfold SetTable.orStandIn
  split
  ·exact ⟨(z9e t _).1, fun p => (z9e t _).2.trans p⟩
  ·exact ⟨rfl, fun _ => rfl⟩
 ·exact ⟨rfl, fun _ => rfl⟩
theorem zca {mask finger moves : Nat} {led plain : Bool} {hs : Array Int} {r : SetTable × Array Nat}
  (e : SetTable.laid mask finger moves led plain hs = some r) : r.1.led = led ∧ r.1.plain = plain := by
 unfold SetTable.laid at e
 simp only [Option.bind_eq_bind, Option.bind_eq_some_iff, Option.some.injEq, Option.pure_def] at e
 obtain ⟨o, _, rfl⟩ := e
 exact ⟨rfl, rfl⟩
theorem z80 (t : SetTable) (es : Array (Int × Value)) (n : Nat) :
  (relayAll t es n).2.1.led = t.led ∧ (t.plain = false → (relayAll t es n).2.1.plain = false) := by
 unfold relayAll
 split
 ·rename_i e
  dsimp only
  split
  ·unfold SetTable.relaid at e
   have := zca e
   exact ⟨this.1, fun p => this.2.trans p⟩
  ·exact ⟨rfl, fun _ => rfl⟩
 ·exact ⟨rfl, fun _ => rfl⟩
def zv (D : List Str) (v : Str) : List Str := if v ∈ D then D else D ++ [v]
def z1b (ss : List Str) : List Str := ss.foldl zv []
theorem z8t (D : List Str) (v k : Str) : k ∈ zv D v ↔ k ∈ D ∨ k = v := by
 unfold zv; split
 ·rename_i h
  exact ⟨.inl, fun o => o.elim id fun e => e ▸ h⟩
 ·simp
theorem z73 {D : List Str} (h : D.Nodup) (v : Str) : (zv D v).Nodup := by
 unfold zv; split
 ·exact h
 ·rename_i hv
  refine List.nodup_append.mpr ⟨h, by simp, ?_⟩
  intro a ha b hb e
  simp at hb; subst hb; subst e; exact hv ha
theorem metFold_nodup : ∀ (ss D : List Str), D.Nodup → (ss.foldl zv D).Nodup
 | [], D, h => h
 | v :: ss, D, h => metFold_nodup ss _ (z73 h v)
theorem metAll_nodup (ss : List Str) : (z1b ss).Nodup := metFold_nodup ss [] .nil
theorem z6d (D : List Str) (v : Str) : (zv D v).length = if decide (v ∈ D) = true then D.length else D.length + 1 := by
 unfold zv; by_cases h : v ∈ D <;> simp [h]
theorem z60 : ∀ (ss D : List Str), (ss.foldl zv D).length ≤ D.length + ss.length
 | [], D => by simp
 | v :: ss, D => by
  have := z60 ss (zv D v)
  have h2 := z6d D v
  rw [List.foldl_cons, List.length_cons]
  split at h2 <;> omega
theorem zbk (ss : List Str) : (z1b ss).length ≤ ss.length := by have := z60 ss []; simpa [z1b] using this
theorem z8u (ss : List Str) (i : Nat) (h : i < ss.length) : z1b (ss.take (i + 1)) = zv (z1b (ss.take i)) ss[i] := by
 unfold z1b; rw [List.take_succ_eq_append_getElem h, List.foldl_append]; rfl
def TextSet (prog : Program) (w : World) (h : Heap) (a : Addr) (D : List Str) (led : Bool) : Prop :=
 ∃ o es ep t, h.get? a = some o ∧ o.ExactSet ∧ o.data = .set es ep t ∧ ElemsOf (strKind prog w) es.toList ∧
  (∀ k, decide (k ∈ D) = true ↔ ∃ e ∈ es.toList, (strKind prog w).is k e.2 = true) ∧
  es.size < scanBound ∧ t.fits es.size = true ∧ es.size = D.length ∧ t.led = led ∧ (es.size ≠ 0 → t.plain = false)
section
variable {prog : Program} {w : World} {A : Around} {E : Value → Shared → Prop} {s : Shared}
theorem TextSet.keep {h h' : Heap} {a : Addr} {D : List Str} {led : Bool} (T : TextSet prog w h a D led)
  (e : ∀ o, h.get? a = some o → h'.get? a = some o) : TextSet prog w h' a D led := by
 obtain ⟨o, es, ep, t, ho, more⟩ := T
 exact ⟨o, es, ep, t, e o ho, more⟩
theorem z4j {g : Bool → Sem Unit} (hg : ∀ (b : Bool) (s₁ : Shared) (Q' : Unit → Shared → Prop), Q' () s₁ → wpAny (model prog w) A (g b) Q' E s₁)
  {a : Addr} {o : Obj} {es : Array (Int × Value)} {ep : Nat} {t : SetTable} (ho : s.heap.get? a = some o) (hx : o.ExactSet)
  (hd : o.data = .set es ep t) {e1 : Array (Int × Value)} {t1 : SetTable} {D : List Str}
  (he : ElemsOf (strKind prog w) e1.toList) (hm : ∀ k, decide (k ∈ D) = true ↔ ∃ e ∈ e1.toList, (strKind prog w).is k e.2 = true)
  (hb : e1.size < scanBound) (hf : t1.fits e1.size = true) (hn : e1.size = D.length) (hp : t1.plain = false)
  {was : Bool} {R : Option Bool → Shared → Prop}
  (h : ∀ h', Heap.SameBut a s.heap h' → TextSet prog w h' a D t1.led → R (some true) { s with heap := h' }) :
  wpAny (model prog w) A (do
   storeSet a e1 t1
   if (!was && t1.tooFull) = true then do
    g (relayAll t1 e1 (SetTable.grown e1.size)).2.2
    storeSet a (relayAll t1 e1 (SetTable.grown e1.size)).1 (relayAll t1 e1 (SetTable.grown e1.size)).2.1
    pure (some true)
   else pure (some true)) R E s := by
 refine wpAny_bind (wpAny_storeSet_of ho hd ?_ (fits_of_scanBound hb))
 obtain ⟨g1, _⟩ := SetOf_store (knd := strKind prog w) ho hx hd he hm hb hf
 have b1 := Heap.SameBut.update s.heap a (Obj.putSet e1 t1)
 split
 ·have pr := relayAll_perm t1 e1 (SetTable.grown e1.size)
  have fr := relayAll_fits t1 e1 (SetTable.grown e1.size)
  have lr := z80 t1 e1 (SetTable.grown e1.size)
  generalize relayAll t1 e1 (SetTable.grown e1.size) = L at pr fr lr ⊢
  obtain ⟨e2, t2, gave⟩ := L
  dsimp only at pr fr lr ⊢
  have sz : e2.size = e1.size := by rw [← Array.length_toList, pr.length_eq, Array.length_toList]
  have hm2 : ∀ k, decide (k ∈ D) = true ↔ ∃ e ∈ e2.toList, (strKind prog w).is k e.2 = true := fun k =>
   (hm k).trans ⟨fun ⟨e, q, z⟩ => ⟨e, pr.mem_iff.mpr q, z⟩, fun ⟨e, q, z⟩ => ⟨e, pr.mem_iff.mp q, z⟩⟩
  refine wpAny_bind (hg _ _ _ ?_)
  refine wpAny_bind (wpAny_storeSet_of g1 rfl ?_ (fits_of_scanBound (by rw [sz]; exact hb)))
  obtain ⟨g2, _⟩ := SetOf_store (knd := strKind prog w) g1 hx rfl (he.perm pr) hm2 (by rw [sz]; exact hb) fr
  refine wpAny_pure (h _ (b1.trans (Heap.SameBut.update _ a _)) ⟨_, e2, _, t2, g2, hx, rfl, he.perm pr, hm2, by rw [sz]; exact hb, fr, sz.trans hn, lr.1, fun _ => lr.2 hp⟩)
 ·exact wpAny_pure (h _ b1 ⟨_, e1, _, t1, g1, hx, rfl, he, hm, hb, hf, hn, rfl, fun _ => hp⟩)
theorem z8v {a : Addr} {D : List Str} {led : Bool} {x : Str} {tk : Tok} {Q : Bool → Shared → Prop} (T : TextSet prog w s.heap a D led)
  (room : D.length + 1 < scanBound)
  (h : ∀ h' b, Heap.SameBut a s.heap h' → TextSet prog w h' a (zv D x) led → Q b { s with heap := h' }) :
  wpAny (model prog w) A (setAddHashed a (.str x tk) ((strKind prog w).hash x)) Q E s := by
 have is := strKind_is prog w x tk
 obtain ⟨o, es, ep, t, ho, hx, hd, he, hm, hb, hf, hn, hl, hp⟩ := T
 unfold setAddHashed setAddHashedIn
 refine wpAny_holding (wpAny_bind (wpAny_setState_of ho hd hf ?_))
 dsimp only
 rw [byScan_of rfl hb he]
 simp only [↓reduceIte]
 unfold setAddByScan
 refine wpAny_bind ?_
 refine wpAny_bind (wpAny_rule ?_)
 refine wpAny_bind (wpAny_setScan_of is ho hd hf he ?_)
 cases hr : List.findIdx? (fun e => (strKind prog w).is x e.2) es.toList with
 | some j =>
  dsimp only
  obtain ⟨hj, pj, _⟩ := List.findIdx?_eq_some_iff_getElem.mp hr
  have xin : x ∈ D := of_decide_eq_true ((hm x).mpr ⟨es.toList[j], List.getElem_mem hj, pj⟩)
  have same : zv D x = D := if_pos xin
  refine wpAny_pure (wpAny_pure ?_)
  have := h s.heap false (Heap.SameBut.refl a s.heap) (by rw [same]; exact ⟨o, es, ep, t, ho, hx, hd, he, hm, hb, hf, hn, hl, hp⟩)
  cases s; exact this
 | none =>
  dsimp only
  have xout : x ∉ D := fun q => by
   obtain ⟨e, qe, z⟩ := (hm x).mp (decide_eq_true q)
   have := List.findIdx?_eq_none_iff.mp hr e qe
   rw [z] at this; cases this
  have grow : zv D x = D ++ [x] := if_neg xout
  have pr := layNew_perm t es ((strKind prog w).hash x) (.str x tk)
  have fr := layNew_fits t es ((strKind prog w).hash x) (.str x tk)
  have lr := za5 t es ((strKind prog w).hash x) (.str x tk)
  generalize layNew t es ((strKind prog w).hash x) (.str x tk) = L at pr fr lr ⊢
  obtain ⟨e1, t1, was, gave⟩ := L
  dsimp only at pr fr lr ⊢
  rw [Array.toList_push] at pr
  have he1 : ElemsOf (strKind prog w) e1.toList := (he.push is rfl).perm pr
  have hm1 : ∀ k, decide (k ∈ zv D x) = true ↔ ∃ e ∈ e1.toList, (strKind prog w).is k e.2 = true := fun k => by
   rw [← mem_push_iff is hm pr k, ← Bool.decide_or, decide_eq_true_eq, decide_eq_true_eq]
   exact z8t D x k
  have sz : e1.size = es.size + 1 := by rw [← Array.length_toList, pr.length_eq, List.length_append, Array.length_toList]; rfl
  have hn1 : e1.size = (zv D x).length := by rw [sz, grow, List.length_append, hn]; rfl
  have hb1 : e1.size < scanBound := by rw [sz, hn]; exact room
  have gw : ∀ (b : Bool) (s₁ : Shared) (Q' : Unit → Shared → Prop), Q' () s₁ →
    wpAny (model prog w) A (match b with | true => rule "set.scan.the-table-gave-way" | false => pure ()) Q' E s₁ := fun b s₁ Q' q => by
   cases b
   ·exact wpAny_pure q
   ·exact wpAny_rule q
  refine wpAny_bind (gw _ _ _ ?_)
  split
  ·refine wpAny_bind ?_
   rw [hashByValue_scannable 8 rfl]
   refine wpAny_pure ?_
   refine z4j (t1 := { t1 with plain := false }) gw ho hx hd he1 hm1 hb1 (SetTable.fits_plain_off fr) hn1 rfl fun h' sb T' => ?_
   dsimp only
   refine wpAny_pure (h h' true sb ?_)
   rw [← hl, ← lr.1]; exact T'
  ·rename_i np
   refine wpAny_bind (wpAny_pure ?_)
   simp only [↓reduceIte]
   refine z4j (t1 := t1) gw ho hx hd he1 hm1 hb1 fr hn1 (by simpa using np) fun h' sb T' => ?_
   dsimp only
   refine wpAny_pure (h h' true sb ?_)
   rw [← hl, ← lr.1]; exact T'
end
section
variable {prog : Program} {w : World} {A : Around} {R : Result → Shared → Prop} {I : Addr}
variable {fp wr : List Addr} {G : Array GenState → Array GenState → Prop} {P : Nat → Value → Prop} {St : Nat → Shared → Prop}
theorem z6e {ss : List Str} (W : WalksS prog w A.in1 I fp wr G ss.length P St) (a : Addr) (ha : a ∉ fp)
  {led : Bool} (hv : ∀ i v (h : i < ss.length), P i v → ∃ t, v = .str ss[i] t) (hb : ss.length + 1 < scanBound) :
  ∀ (k i : Nat) (s : Shared), ss.length - i = k → i ≤ ss.length → St i s → TextSet prog w s.heap a (z1b (ss.take i)) led →
   (∀ s', Moved (a :: wr) G s s' → TextSet prog w s'.heap a (z1b ss) led → R (.ok (.ret .none)) s') →
   codeAny (model prog w) A (.builtin "set.update.loop" ⟨[.ref a, .ref I], []⟩) R s := by
 have haw : a ∉ wr := fun h => ha (W.sub _ h)
 intro k
 induction k with
 | zero =>
  intro i s hk hi st T hR
  have ei : i = ss.length := by omega
  subst ei
  rw [List.take_length] at T
  refine codeAny_builtin PyProof.Rows.F.entry_set_update_loop ?_
  rw [Around.under_plainId PyProof.Rows.F.plain_set_update_loop _]
  refine wpAny_bind (m := pyNext (.ref I)) (W.done s _ _ st fun s' mv => ?_)
  refine wpAny_pure (hR s' (mv.mono fun b h => .tail _ h) (T.keep fun o e => mv.heap a o haw e))
 | succ k ih =>
  intro i s hk hi st T hR
  have lt : i < ss.length := by omega
  refine codeAny_builtin PyProof.Rows.F.entry_set_update_loop ?_
  rw [Around.under_plainId PyProof.Rows.F.plain_set_update_loop _]
  refine wpAny_bind (m := pyNext (.ref I)) (W.item i s _ _ lt st fun v s' hP st' mv => ?_)
  obtain ⟨t, rfl⟩ := hv i v lt hP
  have T' := T.keep (h' := s'.heap) fun o e => mv.heap a o haw e
  refine wpAny_bind (m := holding [Value.str ss[i] t] (setAdd a (.str ss[i] t))) (wpAny_holding ?_)
  unfold setAdd
  refine wpAny_holding ?_
  refine wpAny_bind ((strKind prog w).pyHash (k := ss[i]) (strKind_is prog w _ t) ?_)
  have room : (z1b (ss.take i)).length + 1 < scanBound := by
   have := zbk (ss.take i)
   rw [List.length_take] at this
   omega
  refine z8v (s := { s' with toks := s'.toks + 1 }) T' room fun h2 _ sb T2 => ?_
  have T3 : TextSet prog w h2 a (z1b (ss.take (i + 1))) led := by
   rw [z8u ss i lt]; exact T2
  refine wpAny_pure ⟨plainId_quiet PyProof.Rows.F.plain_set_update_loop _, ih (i + 1) _ (by omega) lt ?_ T3 fun s3 mv3 T4 => ?_⟩
  ·refine W.frame _ s' _ _ st' (Nat.le_succ _) fun b hbf o e => ?_
   rw [sb.2 b fun e' : b = a => ha (e' ▸ hbf)]
   exact e
  ·refine hR s3 (Moved.trans W.gtrans ((mv.mono fun b h => .tail _ h).then_heap (Nat.le_succ _) fun b o hbw e => ?_) mv3) T4
   rw [sb.2 b fun e' : b = a => hbw (e' ▸ .head _)]
   exact e
end
abbrev z2l (w : World) : Bool := !(w.params.followText "set-order")
section
variable {prog : Program} {w : World} {A : Around} {E : Value → Shared → Prop} {s : Shared}
abbrev z1f (led : Bool) : Obj := { cls := .type "set", dict := none, data := .set #[] 0 (.fresh 0 0 led) }
theorem z8w (a : Value) {Q₁ : Value → Shared → Prop}
  (h : Q₁ (.ref s.heap.objs.size) { s with heap := s.heap.push (z1f (z2l w)) }) :
  codeAny (model prog w) A (.call (.builtin "set.__new__") ⟨[.type "set", a], []⟩) (wants Q₁ E) s := by
 refine codeAny_of_tree ?_
 have c := F.newCall_set_1 a
 show wpAny _ A.in1 (checkBuiltinCall "set.__new__" ⟨[.type "set", a], []⟩ >>= fun _ => again (.builtin "set.__new__" ⟨[.type "set", a], []⟩)) _ _ s
 refine wpAny_bind (wpAny_of_eq c (wpAny_pure ⟨plainId_quiet F.plain_set_new _, ?_⟩))
 refine codeAny_builtin F.entry_set_new ?_
 rw [Around.under_plainId F.plain_set_new _]
 unfold Builtin.«set.__new__» Builtin.Frozenset.newClass
 have sub := sub_set_self
 obtain ⟨hp, g, d, tk, os⟩ := s
 dsimp only
 wp_walk
 refine wpAny_askSetting (wpAny_pure ?_)
 dsimp only
 simp only [newObj]
 refine wpAny_bind (wpAny_alloc (wpAny_pure ?_))
 exact wpAny_pure h
theorem z74 {h : Heap} {a : Addr} {led : Bool} (g : h.get? a = some (z1f led)) : TextSet prog w h a [] led :=
 ⟨_, #[], 0, .fresh 0 0 led, g, ⟨rfl, rfl, rfl⟩, rfl, fun e q => by simp at q, fun k => by simp, by decide, by cases led <;> decide, rfl, rfl, fun z => absurd rfl z⟩
end
end PySem
end
section
namespace PySem
open PyProof.Rows (StrsAre)
section
variable {prog : Program} {w : World} {A : Around} {E : Value → Shared → Prop} {s : Shared}
theorem z5a : ∀ {vs : List Value} {ss : List Str}, StrsAre vs ss → ∀ (i : Nat) (v : Value) (h : i < ss.length), vs[i]? = some v → ∃ t, v = .str ss[i] t
 | _, _, .nil, i, v, h, e => by simp at e
 | _, _, .cons y t r, 0, v, h, e => by simp at e; exact ⟨t, e.symm⟩
 | _, _, .cons y t r, i + 1, v, h, e => by
  simp only [List.getElem?_cons_succ] at e
  simpa using z5a r i v (by simpa using h) e
theorem z6f {l : Addr} {items : Array Value} {ss : List Str} {Q : Value → Shared → Prop} (hh : A.handled = none)
  (hl : s.heap.IsList l items) (hi : StrsAre items.toList ss) (hb : ss.length + 1 < scanBound)
  (h : ∀ (h' : Heap) (tk : Nat), TextSet prog w h' s.heap.objs.size (z1b ss) (z2l w) → s.toks ≤ tk →
   (∀ b o, s.heap.get? b = some o → h'.get? b = some o) → Q (.ref s.heap.objs.size) { s with heap := h', toks := tk }) :
  wpAny (model prog w) A (call (.type "set") [.ref l]) Q E s := by
 obtain ⟨_, _, mro⟩ := F.called_set.mro
 have made := F.called_set.made
 have self := F.called_set.sub
 refine wpAny_call (codeAny_of_tree ?_)
 show wpAny _ _ (callAny (.type "set") _) _ _ _
 refine wpAny_pure ⟨Code.quiet_builtin _ (by decide +kernel), ?_⟩
 refine codeAny_builtin F.entry_type_call ?_
 rw [Around.under_plain (weight_type_call_type "set" [.ref l] []) rfl]
 have n1 := F.called_set.notType
 have n2 := F.called_set.canCreate
 have n3 := F.typeCall_set_1 (.ref l)
 repeat (any_goals (first | assumption | wp_step))
 refine codeAny_mono (z8w (.ref l) (E := E)
  (Q₁ := fun x s₁ => ∃ led : Bool, led = z2l w ∧ x = .ref s.heap.objs.size ∧ s₁ = { s with heap := s.heap.push (z1f led) }) ⟨_, rfl, rfl, rfl⟩) fun r s₁ hr => ?_
 match r, hr with
 | .error e, hr => exact hr
 | .ok (.ret x), hr =>
  obtain ⟨led, hled, rfl, rfl⟩ := hr
  have gS : (s.heap.push (z1f led)).get? s.heap.objs.size = some (z1f led) := Heap.get?_push_size _ rfl
  have ty : Shared.TypeIs { s with heap := s.heap.push (z1f led) } (.ref s.heap.objs.size) "set" := ⟨_, gS, rfl⟩
  have look := F.called_set.init.lookup
  have bound := F.called_set.init.bind (.ref s.heap.objs.size)
  repeat (any_goals (first | assumption | wp_step))
  refine codeAny_mono (codeAny_call_builtin (R := wants (fun r s₂ => r = .none ∧ ∃ h' tk, s₂ = { s with heap := h', toks := tk } ∧
   TextSet prog w h' s.heap.objs.size (z1b ss) (z2l w) ∧ s.toks ≤ tk ∧ ∀ b o, s.heap.get? b = some o → h'.get? b = some o) E)
   F.called_set.init.plain F.entry_set_init (check_set_init_1 ty ?_)) fun r₂ s₂ hr₂ => ?_
  ·obtain ⟨ol, gl, cl, nl, dl⟩ := hl
   obtain ⟨ocls, odict, odata, oslots⟩ := ol
   simp only at cl dl
   subst cl dl
   have gl' : (s.heap.push (z1f led)).get? l = some { cls := .type "list", dict := odict, data := .seq items nl, slots := oslots } :=
    Heap.get?_push_of_some _ gl
   have m1 := F.sub_list_set
   have m2 := F.sub_list_frozenset
   have m3 : (Value.type "list" == Value.type "dict") = false := by decide
   have isl : (s.heap.push (z1f led)).IsList l items := ⟨_, gl', rfl, nl, rfl⟩
   unfold Builtin.«set.__init__» noKeywords Builtin.Frozenset.updateFrom
   generalize hPI : pyIter = PI
   wp_walk
   subst hPI
   refine wpAny_pyIter_list isl ?_
   refine wpAny_bind (wpAny_runValue ?_)
   have lt : l < s.heap.objs.size := Heap.lt_size gl
   have h3 : A.in1.in1.in1.handled = none := by simp [hh]
   have lI : l ≠ (s.heap.push (z1f led)).objs.size := by
    rw [Heap.size_push]; exact Nat.ne_of_lt (Nat.lt_succ_of_lt lt)
   have aI : s.heap.objs.size ∉ [(s.heap.push (z1f led)).objs.size, l] := by
    rw [Heap.size_push]; intro m
    rcases List.mem_cons.mp m with e | m
    ·exact Nat.ne_of_lt (Nat.lt_succ_self _) e
    ·exact Nat.ne_of_gt lt (List.mem_singleton.mp m)
   have len : items.size = ss.length := by rw [← Array.length_toList]; exact hi.length
   have hv : ∀ (i : Nat) (v : Value) (h : i < ss.length), items[i]? = some v → ∃ t, v = .str ss[i] t :=
    fun i v h e => z5a hi i v h (by rw [Array.getElem?_toList]; exact e)
   have WW := ((Walks.list (prog := prog) (w := w) h3 _ l lI items).toS)
   rw [len] at WW
   refine z6e (led := z2l w) WW s.heap.objs.size aI hv hb (ss.length - 0) 0 _ (by omega) (Nat.zero_le _)
    ⟨⟨_, Heap.get?_push_size _ rfl, rfl, rfl⟩, (isl.push _)⟩ ?s0 ?sR
   case s0 =>
    have g2 : ((s.heap.push (z1f led)).push { cls := .type "list_iterator", data := .fields #[.ref l, .int 0 0] }).get? s.heap.objs.size = some (z1f led) :=
     Heap.get?_push_of_some _ gS
    rw [← hled]; exact z74 g2
   case sR =>
    intro s' mv T
    obtain ⟨h', g', d', tk', os'⟩ := s'
    obtain rfl : g' = s.gens := mv.gens
    obtain rfl : d' = s.drawn := mv.drawn
    obtain rfl : os' = s.os := mv.os
    show wpAny _ _ _ _ _ _
    refine wpAny_pure ?_
    show wpAny _ _ (ret Value.none) _ _ _
    refine wpAny_pure ⟨rfl, h', tk', rfl, T, mv.toks, fun b o e => ?_⟩
    have bl := Heap.lt_size e
    refine mv.heap b o ?_ (Heap.get?_push_of_some _ (Heap.get?_push_of_some _ e))
    rw [Heap.size_push]; intro m
    rcases List.mem_cons.mp m with e | m
    ·exact Nat.ne_of_lt bl e
    ·exact Nat.ne_of_lt (Nat.lt_succ_of_lt bl) (List.mem_singleton.mp m)
  ·match r₂, hr₂ with
   | .error e, hr₂ => exact hr₂
   | .ok (.ret r), hr₂ =>
    obtain ⟨rfl, h', tk, rfl, T, lt, old⟩ := hr₂
    repeat (any_goals (first | assumption | wp_step))
    exact h _ _ T lt old
end
end PySem
end
section
namespace PySem
open PyProof.Rows (StrsAre)
section
variable {prog : Program} {w : World} {A : Around} {E : Value → Shared → Prop}
end
end PySem
end
section
namespace PySem
open PyProof.Rows (StrsAre)
section
variable {prog : Program} {w : World} {A : Around} {E : Value → Shared → Prop} {s : Shared}
def SetIterAt (h : Heap) (I : Addr) (first : Value) (i : Nat) (a : Addr) (n ep : Nat) : Prop :=
 ∃ o, h.get? I = some o ∧ o.cls = .type "set_iterator" ∧ o.data = .fields #[first, .int i 0, .ref a, .int n 0, .int ep 0]
end
end PySem
end
section
namespace PySem
open PyProof.Rows (StrsAre)
section
variable {prog : Program} {w : World} {A : Around} {E : Value → Shared → Prop} {s : Shared}
end
end PySem
end
section
namespace PySem
open PyProof.Rows (StrsAre)
section
variable {prog : Program} {w : World} {A : Around} {E : Value → Shared → Prop} {s : Shared}
end
end PySem
end
section
namespace PySem
open PyProof.Rows (StrsAre)
section
variable {prog : Program} {w : World} {A : Around} {E : Value → Shared → Prop} {s : Shared}
theorem SetIterAt.keep {h h' : Heap} {I a : Addr} {first : Value} {i n ep : Nat} (t : SetIterAt h I first i a n ep)
  (e : ∀ o, h.get? I = some o → h'.get? I = some o) : SetIterAt h' I first i a n ep := by
 obtain ⟨o, g, r⟩ := t
 exact ⟨o, e o g, r⟩
end
end PySem
end
section
namespace PySem
open PyProof.Rows (StrsAre)
section
variable {prog : Program} {w : World} {A : Around} {E : Value → Shared → Prop} {s : Shared}
end
end PySem
end
section
namespace PySem
open PyProof.Rows (StrsAre)
section
variable {prog : Program} {w : World} {A : Around} {E : Value → Shared → Prop} {s : Shared}
end
end PySem
end
section
namespace PySem
open PyProof.Rows (StrsAre)
section
variable {prog : Program} {w : World} {A : Around} {E : Value → Shared → Prop} {s : Shared}
end
end PySem
end
section
namespace PySem
open PyProof.Rows (StrsAre)
section
variable {prog : Program} {w : World} {A : Around} {E : Value → Shared → Prop} {s : Shared}
end
end PySem
end
section
namespace PySem
open PyProof.Rows
section
variable {prog : Program} {w : World} {A : Around} {E : Value → Shared → Prop} {s : Shared}
end
end PySem
end
section
namespace L2
open PySem PySem.Spec PyProof.Rows
def tso (P : Program) (w : World) (a : Addr) (D : List Str) : HO := .ext fun h => TextSet P w h a D (z2l w)
theorem ze7 {P : Program} {w : World} {H : Hp} {h : Heap} {a : Addr} {D : List Str} (T : TextSet P w h a D (z2l w)) : ObjOk P w H h a (tso P w a D) := by
 refine ⟨T, ?_, fun h1 h2 t k => TextSet.keep t k⟩
 obtain ⟨o, es, ep, t, ho, _⟩ := T
 exact ⟨o, ho⟩
theorem z6g : ∀ {ss : List Str} {us : List Value}, Vals (ss.map V.str) us → StrsAre us ss
 | [], _, h => by cases h; exact .nil
 | s :: ss, _, h => by
  cases h with
  | cons h1 t =>
   obtain ⟨k, rfl⟩ := h1
   exact .cons s k (z6g t)
theorem z4y : ∀ {us : List Value} {ss : List Str}, StrsAre us ss → Vals (ss.map V.str) us
 | _, _, .nil => .nil
 | _, _, .cons y t r => .cons ⟨t, rfl⟩ (z4y r)
theorem z8x {P : Program} {w : World} {H : Hp} {h : Heap} {a : Addr} {o : HO} (x : ObjOk P w H h a o) : ∃ u, h.get? a = some u := by
 cases o with
 | lst xs => obtain ⟨_, _, _, _, e⟩ := x; exact ⟨_, e⟩
 | tup xs => obtain ⟨_, _, _, _, e, _⟩ := x; exact ⟨_, e⟩
 | dK kvs => obtain ⟨_, _, _, _, _, _, _, e, _⟩ := x; exact ⟨_, e⟩
 | dT kvs => obtain ⟨_, _, _, _, _, _, _, e, _⟩ := x; exact ⟨_, e⟩
 | set S n => obtain ⟨_, _, _, _, e, _⟩ := x; exact ⟨_, e⟩
 | ins C dx fs => obtain ⟨_, _, _, e, _⟩ := x; exact ⟨_, e⟩
 | own y => obtain ⟨_, e⟩ := x; exact ⟨_, e⟩
 | xd fs => obtain ⟨_, ⟨_, _, _, e, _⟩, _⟩ := x; exact ⟨_, e⟩
 | rng lo hi => obtain ⟨_, _, _, e⟩ := x; exact ⟨_, e⟩
 | frz ob u => obtain ⟨e, _⟩ := x; exact ⟨_, e⟩
 | tbl ps => exact ⟨_, show h.get? a = some _ from x⟩
 | met f y => exact ⟨_, show h.get? a = some _ from x⟩
 | ext φ => obtain ⟨_, ⟨_, e⟩, _⟩ := x; exact ⟨_, e⟩
section
variable {X : Cx}
theorem zbl (hc : X.calm = true) : CallR X (.type "set") (fun xs H Q => ∃ p ss, xs = [.ref p] ∧ SqL X.K H p ((ss : List Str).map V.str) ∧ ss.length + 1 < scanBound ∧ ∀ d, H d = none → Q (.ref d) (upd H d (tso X.prog X.w d (z1b ss)))) := by
 intro pins s σ H xs us Q I r h
 obtain ⟨p, ss, rfl, hp, hb, q⟩ := h
 obtain ⟨u, rfl, ru⟩ := z2p r
 cases ru
 obtain ⟨its, r1, pl, hz⟩ := I.list hp
 refine z6f (ss := ss) (I.ok.hd hc) pl.isList (by simpa using z6g r1) hb fun h' tk T ht hk => ?_
 exact ⟨.ref _, _, I.laid (t' := tk) hk (Nat.le_refl _) (ze7 T), rfl, q _ I.fresh⟩
end
end L2
end
section
namespace L2
open PySem PySem.Spec PyProof.Rows
section
variable {X : Cx}
end
end L2
end
section
namespace L2
open PySem PySem.Spec PyProof.Rows
section
variable {X : Cx}
end
end L2
end
section
namespace L2
open PySem PySem.Spec PyProof.Rows
theorem MHas.never {P : Program} {w : World} {K : PySem.W.Frag} {mg : Str → Option Value} {base : Heap} {k : Nat} {C : Addr} {m : Str} {ps : List Str} {sp : Sp} (G : MHas P w K mg base (CX1 P w) k C m ps sp) : MHas P w K mg base CX0 k C m ps (fun vs H Q _ => sp vs H Q E0) := by
 obtain ⟨f, fd, F, hm, hb⟩ := G
 refine ⟨f, fd, ⟨fun vs H Q E h => F.len vs H Q E0 h, fun A outer s H args us vs Q E hr he hb hv hs => codeAny_mono (F.run A outer s H args us vs Q E0 hr he hb hv hs) fun r s' h => ?_⟩, hm, hb⟩
 cases r with
 | error e =>
  obtain ⟨_, _, _, _, _, _, _, _, _, _, _, _, _, z⟩ := h
  exact z
 | ok fl => cases fl <;> exact h
section
variable {X : Cx}
theorem PS.nox {st : Stmt} {t : TS} (h : PS X.nox st t) : PS X st t := fun pins s σ H D I hw =>
 wpAny_mono (h pins s σ H D (I.wish _) hw) (fun _ _ q => q.unwish) fun _ _ z => False.elim z
end
end L2
end
section
namespace L2
open PySem PySem.Spec PyProof.Rows
end L2
end
section
namespace PySem
theorem z3f : entryFor table "dict.update.loop" = some Builtin.«dict.update.loop» := entryFor_of_tree (by kernel_rfl)
theorem z1t : plainId "dict.update.loop" = true := by decide +kernel
theorem za6 {K : Type} [DecidableEq K] (kvs : List (K × Value)) (k : K) (v : Value) : (stored kvs k v).length ≤ kvs.length + 1 := by
 unfold stored
 split
 ·simp
 ·simp
theorem z61 {K : Type} [DecidableEq K] : ∀ (more kvs : List (K × Value)), (merged kvs more).length ≤ kvs.length + more.length
 | [], kvs => Nat.le_refl _
 | a :: more, kvs => by
  show (merged (stored kvs a.1 a.2) more).length ≤ _
  have h1 := z61 more (stored kvs a.1 a.2)
  have h2 := za6 kvs a.1 a.2
  simp only [List.length_cons]
  omega
section
open L2
variable {prog : Program} {w : World} {A : Around} {R : Result → Shared → Prop} {I l d : Addr} {h0 : Heap}
theorem z50 (hh : A.in1.handled = none) (hlI : l ≠ I) (hdI : d ≠ I) (hdl : d ≠ l) (items : Array Value) (ps : List (Key × Value)) (hn : ps.length = items.size) (hsz : ps.length ≤ sizeLine)
  (T : ∀ (j : Nat) (kv : Key × Value) (v : Value), items[j]? = some v → ps[j]? = some kv → ∃ (a : Addr) (o : Obj) (e : Nat) (key : Value), v = .ref a ∧ a ≠ I ∧ a ≠ d ∧ h0.get? a = some o ∧ o.cls = .type "tuple" ∧ o.data = .seq #[key, kv.2] e ∧ (zo prog w).is kv.1 key = true) :
  ∀ (k j : Nat) (s : Shared) (i : Int), items.size - j = k → j ≤ items.size → s.heap.IsListIter I l j ∧ s.heap.IsList l items → s.heap.DictOf (zo prog w) d (merged [] (ps.take j)) →
  (∀ b o, h0.get? b = some o → b ≠ I → b ≠ d → s.heap.get? b = some o) →
  (∀ h' tk, h'.DictOf (zo prog w) d (merged [] ps) → (∀ b o, h0.get? b = some o → b ≠ I → b ≠ d → h'.get? b = some o) → R (.ok (.ret .none)) { s with heap := h', toks := tk }) →
  codeAny (model prog w) A (.builtin "dict.update.loop" ⟨[.ref d, .ref I, .int i 0, .none], []⟩) R s := by
 have W := Walks.list (prog := prog) (w := w) (A := A.in1) hh I l hlI items
 intro k
 induction k with
 | zero =>
  intro j s i hk hj hst hD hK hR
  have hin : j = items.size := by omega
  refine codeAny_builtin z3f ?_
  rw [Around.under_plainId z1t _]
  show wpAny _ A.in1 (pyNext (.ref I) >>= _) _ _ s
  refine wpAny_bind (W.done s _ _ (hin ▸ hst) fun h' tk hk' => ?_)
  have hDI : ∀ b ∉ [I], b ≠ I := fun b hb z => hb (by rw [z]; exact List.mem_singleton.mpr rfl)
  have e : ps.take j = ps := List.take_of_length_le (by omega)
  rw [e] at hD
  show wpAny _ _ (Builtin.Dict.addKeywords d [] >>= _) _ _ _
  refine wpAny_bind (wpAny_pure (wpAny_pure (hR h' tk ?_ fun b o hb n1 n2 => hk' b o (fun z => n1 (by simpa using z)) (hK b o hb n1 n2))))
  obtain ⟨od, es, ep, ho, r⟩ := hD
  exact ⟨od, es, ep, hk' d od (fun z => hdI (by simpa using z)) ho, r⟩
 | succ k ih =>
  intro j s i hk hj hst hD hK hR
  have hlt : j < items.size := by omega
  refine codeAny_builtin z3f ?_
  rw [Around.under_plainId z1t _]
  show wpAny _ A.in1 (pyNext (.ref I) >>= _) _ _ s
  refine wpAny_bind (W.item j s _ _ hlt hst fun v h' tk hP hst' hk' => ?_)
  have hP : items[j]? = some v := hP
  have hpj : ps[j]? = some (ps[j]'(by omega)) := List.getElem?_eq_getElem (by omega)
  obtain ⟨a, o, e, key, rfl, na, nd, ho, hc, hdt, hkey⟩ := T j _ v hP hpj
  have ho' := hk' a o (fun z => na (by simpa using z)) (hK a o ho na nd)
  show wpAny _ _ (holding [Value.ref a] _ >>= _) _ _ _
  have hT : ({ s with heap := h', toks := tk } : Shared).TypeIs (.ref a) "tuple" := ⟨_, ho', hc⟩
  refine wpAny_bind (wpAny_holding (wpAny_bind (wpAny_tryCatch ?_)))
  unfold Builtin.Dict.pairItems
  refine wpAny_bind (wpAny_typeOf hT ?_)
  simp only [show (Value.type "tuple" == Value.type "list" || Value.type "tuple" == Value.type "tuple") = true from by decide, if_true]
  refine wpAny_bind (wpAny_seqItems ho' hdt (wpAny_pure ?_))
  show wpAny _ _ (holding [key, (ps[j]'(by omega)).2] (dictSet d key (ps[j]'(by omega)).2)) _ _ _
  have hD' : h'.DictOf (zo prog w) d (merged [] (ps.take j)) := by
   obtain ⟨od, es, ep, ho, r⟩ := hD
   exact ⟨od, es, ep, hk' d od (fun z => hdI (by simpa using z)) ho, r⟩
  refine wpAny_holding (wpAny_dictSet_pairs hkey hD' (fun h2 hD2 hs2 => ?_) ?_)
  ·refine wpAny_pure ⟨plainId_quiet z1t _, ih (j + 1) _ _ (by omega) hlt (W.frame _ _ _ hst' fun b hb o2 e2 => ?_) ?_ (fun b o2 hb n1 n2 => ?_) fun h3 tk3 hD3 hK3 => ?_⟩
   ·have nb : b ≠ d := by
     rcases List.mem_cons.mp hb with z | z
     ·rw [z]; exact hdI.symm
     ·have : b = l := by simpa using z
      rw [this]; exact hdl.symm
    exact (hs2.2 b nb).trans e2
   ·rw [merged_take_succ _ _ _ _ hpj]
    exact hD2
   ·exact (hs2.2 b n2).trans (hk' b o2 (fun z => n1 (by simpa using z)) (hK b o2 hb n1 n2))
   ·exact hR h3 tk3 hD3 hK3
  ·refine Nat.le_trans (z61 _ _) ?_
   rw [List.length_take]
   simp only [List.length_nil]
   omega
end
end PySem
namespace L2
open PySem PySem.Spec PyProof.Rows
section
variable {X : Cx}
theorem z6x {pins : List (Addr × Obj)} {σ : St} {H : Hp} {s : Shared} (I : Inv X pins σ H s) : ∀ L : List (Addr × Key × V), (∀ q ∈ L, H q.1 = some (.tup [kV q.2.1, q.2.2])) →
  ∃ ps : List (Key × Value), KV (L.map (·.2)) ps ∧ ps.length = L.length ∧ ∀ (j : Nat) q kv, L[j]? = some q → ps[j]? = some kv → ∃ (o : Obj) (e : Nat) (key : Value), s.heap.get? q.1 = some o ∧ o.cls = .type "tuple" ∧ o.data = .seq #[key, kv.2] e ∧ (zo X.prog X.w).is kv.1 key = true
 | [], _ => ⟨[], .nil, rfl, fun j q kv e => by simp at e⟩
 | q :: L, h => by
  obtain ⟨ps, k1, k2, k3⟩ := z6x I L fun x hx => h x (List.mem_cons_of_mem _ hx)
  obtain ⟨its, r, ⟨o, ho, hc, n, hd⟩, _⟩ := I.tuple (SqT.of (h q (List.mem_cons_self ..)))
  cases r with
  | @cons a b as bs h1 t1 =>
   cases t1 with
   | @cons a' b' as' bs' h2 t2 =>
    cases t2
    refine ⟨(q.2.1, b') :: ps, .cons ⟨rfl, h2⟩ k1, by simp [k2], fun j x kv e1 e2 => ?_⟩
    cases j with
    | zero =>
     simp at e1 e2
     subst e1 e2
     exact ⟨o, n, b, ho, hc, hd, z4w h1⟩
    | succ j => exact k3 j x kv (by simpa using e1) (by simpa using e2)
theorem z62 (hc : X.calm = true) : CallR X (.type "dict") (fun xs H Q => ∃ p L, xs = [.ref p] ∧ SqL X.K H p ((L : List (Addr × Key × V)).map fun q => V.ref q.1) ∧ (∀ q ∈ L, H q.1 = some (.tup [kV q.2.1, q.2.2])) ∧ ∀ d, H d = none → Q (.ref d) (upd H d (.dK (z2w [] (L.map (·.2)))))) := by
 intro pins s σ H xs us Q I r h
 obtain ⟨p, L, rfl, hp, hL, q⟩ := h
 obtain ⟨u, rfl, ru⟩ := z2p r
 cases ru
 obtain ⟨its, r1, ⟨ol, n, hol, hcl, hdl, hsl⟩, hz⟩ := I.list hp
 obtain ⟨ps, k1, k2, k3⟩ := z6x I L hL
 have hl := r1.length
 rw [List.length_map] at hl hz
 have hlt : p < s.heap.objs.size := Heap.lt_size hol
 refine callType_codes (Q₁ := fun obj s₁ => obj = .ref s.heap.objs.size ∧ s₁ = { s with heap := s.heap.push { cls := .type "dict", data := .dict #[] } }) F.kt_called_dict (F.kt_typeCall_dict_1 _) F.entry_dict_init (kt_code_dict_new _ ⟨rfl, rfl⟩) ?_
 rintro obj s₁ ⟨rfl, rfl⟩
 have hnew : (s.heap.push { cls := .type "dict", data := .dict #[] }).DictOf (zo X.prog X.w) s.heap.objs.size [] := Heap.DictOf.new s.heap
 have hol1 := Heap.get?_push_of_some (h := s.heap) { cls := .type "dict", data := .dict #[] } hol
 refine ⟨hnew.typeIs, F.args_dict_init_2 _ _, ?_⟩
 unfold Builtin.«dict.__init__»
 refine wpAny_bind ?_
 unfold Builtin.Dict.selfAndRest
 refine wpAny_bind (wpAny_notOrdered_dict hnew.typeIs ?_)
 show wpAny _ _ (pure (s.heap.objs.size, [Value.ref p])) _ _ _
 refine wpAny_pure ?_
 show wpAny _ _ (Builtin.Dict.updateFrom "dict.__init__" s.heap.objs.size (.ref p) [] .none) _ _ _
 unfold Builtin.Dict.updateFrom
 refine wpAny_bind (wpAny_typeOf (show Shared.TypeIs _ (.ref p) "list" from ⟨_, hol1, hcl⟩) ?_)
 rw [if_pos (by decide)]
 refine wpAny_bind (z4i hol1 hcl hsl hdl z7z (by decide +kernel) (by exact I.ok.hd hc) (fun h2 tk2 e2 hx2 => ?_) (by decide +kernel))
 have hol2 := hx2.keeps _ _ hol1
 have hpl2 : PlainL h2 p its.toArray := ⟨ol, n, hol2, hcl, hdl, hsl⟩
 show wpAny _ _ (pyIter (.ref p) >>= _) _ _ _
 refine wpAny_bind (wpAny_pyIter_list (s := { s with heap := h2, toks := tk2 }) hpl2.isList ?_)
 have hlt2 : s.heap.objs.size < h2.objs.size := by
  obtain ⟨od, es, ep, ho, _⟩ := hnew
  exact Heap.lt_size (hx2.keeps _ _ ho)
 refine wpAny_pure ⟨plainId_quiet z1t _, ?_⟩
 have hnew3 : (h2.push { cls := .type "list_iterator", data := .fields #[.ref p, .int 0 0] }).DictOf (zo X.prog X.w) s.heap.objs.size (merged [] (ps.take 0)) := by
  obtain ⟨od, es, ep, ho, r⟩ := hnew
  exact ⟨od, es, ep, Heap.get?_push_of_some _ (hx2.keeps _ _ ho), r⟩
 have hps : p ≠ h2.objs.size := Nat.ne_of_lt (Heap.lt_size hol2)
 refine z50 (I := h2.objs.size) (l := p) (d := s.heap.objs.size) (h0 := s.heap) (by exact I.ok.hd hc) hps (Nat.ne_of_lt hlt2) (Nat.ne_of_gt hlt) its.toArray ps (by rw [k2, hl, List.size_toArray]) (by rw [k2]; exact hz) ?_ _ 0 _ 0 rfl (Nat.zero_le _)
  ⟨⟨_, Heap.get?_push_size _ rfl, rfl, rfl⟩, ⟨ol, Heap.get?_push_of_some _ hol2, hcl, n, hsl⟩⟩ hnew3 (fun b o e n1 n2 => Heap.get?_push_of_some _ (hx2.keeps _ _ (Heap.get?_push_of_some _ e))) fun h3 tk3 hD3 hK3 => ?_
 ·intro j kv v e1 e2
  have e0 : its[j]? = some v := by simpa using e1
  have hj : j < its.length := (List.getElem?_eq_some_iff.mp e0).1
  have g1 : L[j]? = some (L[j]'(by omega)) := List.getElem?_eq_getElem (by omega)
  have g2 : (L.map fun q => V.ref q.1)[j]? = some (V.ref (L[j]'(by omega)).1) := by rw [List.getElem?_map, g1]; rfl
  obtain ⟨w', q1, q2⟩ := r1.get g2
  rw [e0] at q1
  cases q1
  cases q2
  obtain ⟨o, e, key, ho, hc', hd', hi⟩ := k3 j _ kv g1 e2
  have hb := Heap.lt_size ho
  exact ⟨_, o, e, key, rfl, Nat.ne_of_lt (Nat.lt_trans hb hlt2), Nat.ne_of_lt hb, ho, hc', hd', hi⟩
 ·refine ⟨rfl, ?_⟩
  have kk : KV (z2w [] (L.map (·.2))) (merged [] ps) := KV.merge k1 .nil
  have zz : (z2w [] (L.map (·.2))).length ≤ sizeLine := Nat.le_trans (z49 _ _) (by simpa using hz)
  refine ⟨.ref _, _, I.laid (a := s.heap.objs.size) (o := .dK (z2w [] (L.map (·.2)))) (t' := tk3) (fun b o hb => ?_) (Nat.le_refl _) (z7x zz (beq_eq_false_iff_ne.mpr (Ne.symm (Nat.ne_of_lt I.big))) kk hD3), rfl, q _ I.fresh⟩
  have hb' := Heap.lt_size hb
  exact hK3 b o hb (Nat.ne_of_lt (Nat.lt_trans hb' hlt2)) (Nat.ne_of_lt hb')
end
end L2
end
section
namespace L2
open PySem PySem.Spec PyProof.Rows
section
variable {X : Cx}
theorem z81 : CallR X (.builtin "len") (fun xs H Q => ∃ a D, xs = [.ref a] ∧ H a = some (tso X.prog X.w a D) ∧ Q (.int (D.length : Nat)) H) := by
 intro pins s σ H xs us Q I r h
 obtain ⟨a, D, rfl, ha, q⟩ := h
 obtain ⟨u, rfl, ru⟩ := z2p r
 cases ru
 obtain ⟨T, -, -⟩ := (show ObjOk X.prog X.w H s.heap a (tso X.prog X.w a D) from I.hok a _ ha)
 obtain ⟨o, es, ep, t, ho, hx, hd, he, hm, hb, hf, hn, hl, hp⟩ := T
 refine PySem.call_len_set ho hx hd hf (by have : scanBound = 4096 := rfl; omega) ⟨.int (D.length : Nat), H, (I.tok _).tok _, ⟨_, by rw [hn]⟩, q⟩
theorem z4k : CallR X (.builtin "sorted") (fun xs H Q => ∃ p ss, xs = [.ref p] ∧ SqL X.K H p ((ss : List Str).map V.str) ∧ ss.length < 64 ∧ ∀ l ks, H l = none → ks.Perm ss → sortedS ks = true → Q (.ref l) (upd H l (.lst ((ks : List Str).map V.str)))) := by
 intro pins s σ H xs us Q I r h
 obtain ⟨p, ss, rfl, hp, h64, q⟩ := h
 obtain ⟨u, rfl, ru⟩ := z2p r
 cases ru
 obtain ⟨its, r1, pl, hz⟩ := I.list hp
 have hl := r1.length
 rw [List.length_map] at hl
 refine sorted_strs pl.isList (z6g r1) (by omega) fun out ss' a1 a2 a3 => ?_
 obtain ⟨e, he⟩ := sortedAll_at s.heap its out
 have zz : (ss'.map V.str).length ≤ sizeLine := by
  rw [List.length_map, a2.length_eq]; exact Nat.le_trans (Nat.le_of_lt h64) (by decide)
 exact ⟨.ref _, _, I.laid (a := s.heap.objs.size + 1) (o := .lst (ss'.map V.str)) (t' := s.toks) (fun _ _ => sortedAll_old) (Nat.le_succ _) ⟨zz, out.toList, e, z4y a1, he⟩, rfl, q _ _ (I.hok.fresh (Nat.le_succ _)) a2 a3⟩
end
def KHasX (P : Program) (w : World) (K : PySem.W.Frag) (mg : Str → Option Value) (base : Heap) (CX : CXT) (k : Nat) (C : Addr) (ps : List Str) (sp : Sp) : Prop :=
 ∃ f fd, FnOk P w K mg base CX k f fd ps sp ∧ Mk K C f ∧ Binds K fd ps []
theorem KDef.okx {P : Program} {w : World} {K : PySem.W.Frag} {mg : Str → Option Value} {base : Heap} {C : Addr} {qual : Str} {st : Stmt} {N ps : List Str} {k : Nat} {sp : Sp} (D : KDef K C qual st ps) (S : FnScope N ps (zc st)) (len : ∀ vs H Q E, sp vs H Q E → vs.length = ps.length)
  (hbody : ∀ (f : Addr) (cdv : Value) (A : Around) (outer : List Env) (s : Shared) (H : Hp) (vs : List V) (Q : VK) (E : XK), Room k (A.deeper (envOfC qual (zc st) s.heap.objs.size f cdv)) → sp vs H Q E →
   ∃ t, PSs (cxOf (CX1 P w) P w K mg base N qual (zc st) f cdv A outer s H E) (z1k st) t ∧ t { nx := fun _ H' => Q .non H', rt := Q } (start N vs) H) : KHasX P w K mg base (CX1 P w) (k + 1) C ps sp := by
 obtain ⟨f, fd, F, hm, hb⟩ := D
 exact ⟨f, fd, F.okx S len (fun cdv A outer s H vs Q E hr h => hbody f cdv A outer s H vs Q E hr h), hm, hb⟩
theorem KHasX.never {P : Program} {w : World} {K : PySem.W.Frag} {mg : Str → Option Value} {base : Heap} {k : Nat} {C : Addr} {ps : List Str} {sp : Sp} (G : KHasX P w K mg base (CX1 P w) k C ps sp) : KHas P w K mg base k C ps (fun vs H Q _ => sp vs H Q E0) := by
 obtain ⟨f, fd, F, hm, hb⟩ := G
 refine ⟨f, fd, ⟨fun vs H Q E h => F.len vs H Q E0 h, fun A outer s H args us vs Q E hr he hb hv hs => codeAny_mono (F.run A outer s H args us vs Q E0 hr he hb hv hs) fun r s' h => ?_⟩, hm, hb⟩
 cases r with
 | error e =>
  obtain ⟨_, _, _, _, _, _, _, _, _, _, _, _, _, z⟩ := h
  exact z
 | ok fl => cases fl <;> exact h
end L2
end
section
namespace L2
open PySem PySem.Spec PyProof.Rows
theorem z4l {P : Program} {w : World} : ∀ {D : List Str} {kvs : List (Key × V)} {vs : List (Key × Value)}, KV kvs vs → kvs.map (·.1) = D.map Sum.inr → ∀ {us : List Value}, us.length = vs.length →
  (∀ (j : Nat) (v : Value), us[j]? = some v → ∃ (k : Key) (x : Value), vs[j]? = some (k, x) ∧ (zo P w).is k v = true) → StrsAre us D
 | [], [], _, r, _, us, hl, _ => by
  cases r
  cases us with
  | nil => exact .nil
  | cons _ _ => simp at hl
 | _ :: _, [], _, _, e, _, _, _ => by simp at e
 | [], _ :: _, _, _, e, _, _, _ => by simp at e
 | d :: D, p :: kvs, vs, r, e, us, hl, h => by
  cases r with
  | @cons _ q _ vs h1 t =>
   cases us with
   | nil => simp at hl
   | cons u us =>
    obtain ⟨k, x, e1, e2⟩ := h 0 u rfl
    simp only [List.getElem?_cons_zero, Option.some.injEq] at e1
    subst e1
    simp only [List.map_cons, List.cons.injEq] at e
    obtain ⟨e3, e4⟩ := e
    have e5 : k = Sum.inr d := by rw [← e3]; exact h1.1.symm
    subst e5
    obtain ⟨tk, rfl⟩ : ∃ tk, u = .str d tk := Value.isStrOf_shape e2
    refine .cons d tk (z4l (P := P) (w := w) t e4 (by simpa using hl) fun j v hj => ?_)
    simpa using h (j + 1) v (by simpa using hj)
theorem Inv.newAt {X : Cx} {pins : List (Addr × Obj)} {σ : St} {H : Hp} {s : Shared} (I : Inv X pins σ H s) {l tk : Nat} {o : HO} {h' : Heap} (hk : ∀ b u, s.heap.get? b = some u → h'.get? b = some u ∧ b ≠ l) (new : ObjOk X.prog X.w (upd H l o) h' l o) :
  H l = none ∧ Inv X pins σ (upd H l o) { s with heap := h', toks := tk } := by
 have k : ∀ b u, s.heap.get? b = some u → h'.get? b = some u := fun b u e => (hk b u e).1
 have hHl : H l = none := by
  cases z : H l with
  | none => rfl
  | some o =>
   obtain ⟨u, hu⟩ := z8x (I.hok l o z)
   exact absurd rfl (hk l u hu).2
 refine ⟨hHl, I.un ⟨fun b u z _ _ _ => k b u z, fun b u z _ _ _ => ⟨u.slots, k b u z⟩, fun b u z n _ => ?_, fun b u z _ => ⟨u, k b u z⟩, fun b ys z => ?_, fun b u ys z => ?_, fun b ps z => ⟨#[], ?_⟩⟩ fun b u e' => ?_⟩
 ·rw [z7 (hk b u z).2]; exact n
 ·rw [z7 (za z hHl)]; exact z
 ·rw [z7 (za z hHl)]; exact z
 ·rw [z7 (za z hHl), z]; simp
 ·by_cases hb : b = l
  ·subst hb; rw [z5] at e'; cases e'
   exact new
  ·rw [z7 hb] at e'
   exact (I.hok b u e').stay (fun c v _ q => k c v q) (fun c q => by rw [z7 (za q hHl)]; exact q) fun c xs q => by rw [z7 (za q hHl)]; exact q
section
variable {X : Cx}
theorem z82 (hc : X.calm = true) : CallR X (.builtin "sorted") (fun xs H Q => ∃ a kvs D, xs = [.ref a] ∧ H a = some (.dK kvs) ∧ kvs.map (·.1) = D.map Sum.inr ∧ D.length < 64 ∧ ∀ l ks, H l = none → ks.Perm D → sortedS ks = true → Q (.ref l) (upd H l (.lst ((ks : List Str).map V.str)))) := by
 intro pins s σ H xs us Q I r h
 obtain ⟨a, kvs, D, rfl, ha, hD, h64, q⟩ := h
 obtain ⟨u, rfl, ru⟩ := z2p r
 cases ru
 obtain ⟨z, hd, vs, rel, dd⟩ := z5x I.hok ha
 obtain ⟨ep, da⟩ := dd.dictAt
 have hcount : vs.length = D.length := by rw [← rel.length, ← List.length_map (f := (·.1)), hD, List.length_map]
 refine Calls.call_function_entry kind_sorted plain_sorted entry_sorted (args_sorted1 _) ?_
 unfold Builtin.«sorted»
 refine wpAny_bind (m := checkCount "sorted" 1 1 _) (wpAny_pure ?_)
 refine wpAny_bind (PySem.W.kdu_collect (PySem.W.kdl_dict (knd := zo X.prog X.w) (kvs := vs) (ep := ep) hd) (by simpa using I.ok.hd hc) da (by rw [← rel.length]; exact z) fun h' tk acc hk ii => ?_)
 have t1 : StrsAre acc.toList D := z4l (P := X.prog) (w := X.w) rel hD (by rw [Array.length_toList]; exact ii.1) fun j v e => ii.2 j v (by rw [← Array.getElem?_toList]; exact e)
 have v64 : acc.toList.length < 64 := by rw [t1.length]; exact h64
 refine wpAny_bind (wpAny_newList ?_ (Nat.le_trans (Nat.le_of_lt v64) (by decide)))
 have hS := Heap.get?_push_size (h := h') (o := seqObj "list" acc.toList.toArray 0) rfl
 refine wpAny_bind (wpAny_holding (wpAny_call_entry slot_list_sort ⟨_, hS, rfl⟩ entry_list_sort
  (list_sort_treeK strKind_oneLt hS t1.keysOf (fun v₁ v₂ rest e => keyKind_strs (by rw [← e]; exact t1)) v64 fun st' a1 a2 => ⟨_, rfl, ?_⟩) (args_list_sort _)))
 obtain ⟨ks', u1, u2, u3⟩ := sorted_out_str t1 a1 a2
 refine wpAny_pure ?_
 obtain ⟨e, ge⟩ := sortedHeap_at (out := (arrOf st').map (·.2)) hS
 have zz : (ks'.map V.str).length ≤ sizeLine := by
  rw [List.length_map, u2.length_eq]; exact Nat.le_trans (Nat.le_of_lt h64) (by decide)
 have hk2 : ∀ b o, s.heap.get? b = some o → (sortedHeap (h'.push (seqObj "list" acc.toList.toArray 0)) h'.objs.size acc.toList ((arrOf st').map (·.2))).get? b = some o ∧ b ≠ h'.objs.size := fun b o q => by
  have lb := Heap.lt_size (hk b o q)
  exact ⟨(sortedHeap_old (Nat.ne_of_lt lb) (by rw [Heap.size_push]; exact Nat.lt_succ_of_lt lb)).trans (Heap.get?_push_of_some _ (hk b o q)), Nat.ne_of_lt lb⟩
 obtain ⟨x1, x2⟩ := I.newAt (l := h'.objs.size) (o := .lst (ks'.map V.str)) (tk := tk) hk2 ⟨zz, _, e, z4y u1, ge⟩
 exact ⟨_, rfl, .ref h'.objs.size, _, x2, rfl, q _ _ x1 u2 u3⟩
theorem za7 (hc : X.calm = true) : CallR X (.type "list") (fun xs H Q => ∃ a kvs D, xs = [.ref a] ∧ H a = some (.dK kvs) ∧ kvs.map (·.1) = D.map Sum.inr ∧ ∀ l, H l = none → Q (.ref l) (upd H l (.lst ((D : List Str).map V.str)))) := by
 intro pins s σ H xs us Q I r h
 obtain ⟨a, kvs, D, rfl, ha, hD, q⟩ := h
 obtain ⟨u, rfl, ru⟩ := z2p r
 cases ru
 obtain ⟨z, hd, vs, rel, dd⟩ := z5x I.hok ha
 obtain ⟨ep, da⟩ := dd.dictAt
 have hcount : kvs.length = D.length := by rw [← List.length_map (f := (·.1)), hD, List.length_map]
 refine PySem.W.kdl_call (PySem.W.kdl_dict (knd := zo X.prog X.w) (kvs := vs) (ep := ep) hd) (I.ok.hd hc) da (by rw [← rel.length]; exact z) fun h' tk acc c hk hg ii => ?_
 have t1 : StrsAre acc.toList D := z4l (P := X.prog) (w := X.w) rel hD (by rw [Array.length_toList]; exact ii.1) fun j v e => ii.2 j v (by rw [← Array.getElem?_toList]; exact e)
 refine ⟨.ref s.heap.objs.size, _, I.laid (a := s.heap.objs.size) (o := .lst (D.map V.str)) (t' := tk) hk (Nat.le_refl _) ⟨by rw [List.length_map, ← hcount]; exact z, _, c, z4y t1, by simpa using hg⟩, rfl, q _ (I.hok.fresh (Nat.le_refl _))⟩
def zcw (t : TE) : TE := fun σ H Q => t σ H fun x H2 => ∃ a o u, H a = some u ∧ Mut (some u) ∧ H2 a = some (.frz o u) ∧ Q x (upd H2 a u)
theorem zdj {e : Expr} {t : TE} (he : PE X e t) : PE X e (zcw t) := by
 intro pins s σ H Q I h
 refine thn (he pins s σ H _ I h) fun v s1 ⟨x, H1, I1, r1, a, o, u, ea, mu, e1, q⟩ => ?_
 refine ⟨x, upd H1 a u, ?_, r1, q⟩
 obtain ⟨g1, g2⟩ := (show ObjOk X.prog X.w H1 s1.heap a (.frz o u) from I1.hok a _ e1)
 have nz : ∀ o' u', X.H₀ a ≠ some (.frz o' u') := fun o' u' z => by
  rw [I.base.frzs a o' u' z] at ea
  cases ea
  exact mu
 have na : ∀ b, H1 b = none → b ≠ a := fun b n z => by rw [z, e1] at n; cases n
 have hok : HOk X.prog X.w (upd H1 a u) s1.heap := fun b ob eb => by
  by_cases hb : b = a
  ·subst hb
   rw [z5] at eb; cases eb
   exact g2.stay (fun c v _ q => q) (fun c zq => by
    by_cases hc : c = b
    ·subst hc; rw [e1] at zq; cases zq
    ·rw [z7 hc]; exact zq) fun c xs zq => by
    by_cases hc : c = b
    ·subst hc; rw [e1] at zq; cases zq
    ·rw [z7 hc]; exact zq
  ·rw [z7 hb] at eb
   exact (I1.hok b ob eb).stay (fun c v _ q => q) (fun c zq => by
    by_cases hc : c = a
    ·subst hc; rw [e1] at zq; cases zq
    ·rw [z7 hc]; exact zq) fun c xs zq => by
    by_cases hc : c = a
    ·subst hc; rw [e1] at zq; cases zq
    ·rw [z7 hc]; exact zq
 refine ⟨I1.ok, I1.os, I1.bare, ⟨I1.base.keep, I1.base.slot, fun b ob e n hx => ?_, I1.base.there, fun b xs e => ?_, fun b ob w' e => ?_, fun b ps e => ?_⟩, I1.loc, I1.cell, ?_, fun y c e => ?_, fun p hp => ?_, hok, I1.len⟩
 ·have := I1.base.free b ob e n hx
  rw [z7 (na b this)]; exact this
 ·have := I1.base.tups b xs e
  rw [z7 (fun z => by rw [z, e1] at this; cases this)]; exact this
 ·have := I1.base.frzs b ob w' e
  rw [z7 (fun z => by subst z; exact nz ob w' e)]; exact this
 ·obtain ⟨m, hm⟩ := I1.base.tbls b ps e
  exact ⟨m, by rw [z7 (fun z => by rw [z, e1] at hm; cases hm)]; exact hm⟩
 ·rw [z7 (na _ I1.free)]; exact I1.free
 ·have := I1.freeC y c e
  rw [z7 (na _ this)]; exact this
 ·obtain ⟨p1, p2, p3, p4, p5⟩ := I1.pin p hp
  exact ⟨p1, by rw [z7 (na _ p2)]; exact p2, p3, p4, p5⟩
end
def It0 (a : Addr) (o : Obj) : It := ⟨fun _ _ => False, fun _ _ _ _ => False, fun i H => i = 0 ∧ H a = some (.frz o (.dK []))⟩
def z9f (td : TE) : TI := fun σ H R => td σ H fun x H1 => ∃ a, x = .ref a ∧ H1 a = some (.dK []) ∧ ∀ o, R (It0 a o) (upd H1 a (.frz o (.dK [])))
theorem z8y {P : Program} {w : World} {K : PySem.W.Frag} {tg : Expr} {a it ep : Addr} {o : Obj} (od : o.data = .dict #[] ep) (ox : o.ExactDict) :
  Turn P w K tg (It0 a o) [it] it (fun i h => i = 0 ∧ PySem.IsItemIter h it a 0 0 ep .none .none) where
 mem := by simp
 obj := fun i h st b hb => by
  have e : b = it := by simpa using hb
  subst e
  exact ⟨_, st.2, fun v z => by
   have z' : Data.fields _ = Data.cell v := z
   cases z'⟩
 keep := fun i h h' st k => ⟨st.1, k it (by simp) _ st.2⟩
 item := fun X hP hw hK hc i pins s σ H E I hf st hg => hg.elim
 done := by
  intro X hP hw hK hc i pins s σ H E I hf st hg
  subst hP hw hK
  obtain ⟨rfl, hz⟩ := hg
  obtain ⟨f0, f1, f2, f3, f4, f5⟩ := hf it (by simp)
  obtain ⟨g1, -⟩ := (show ObjOk X.prog X.w H s.heap a (.frz o (.dK [])) from I.hok a _ hz)
  have dd : s.heap.DictAt (zo X.prog X.w) a [] ep := ⟨o, #[], g1, ox, od, (by intro e he; simp at he), .nil, List.nodup_nil⟩
  exact PySem.wpAny_pyNext_items_end (kvs := ([] : List (Key × Value))) (I.ok.hd hc) st.2 dd rfl fun h' eb => ⟨rfl, I.turned (t' := s.toks) (fun b o hb e => eb b o hb e) f0 f1 f3 f4 f5⟩
 self := fun A i s Q E st h => PySem.W.kcp_self st.2 h
section
variable {X : Cx} {tg : Expr}
theorem zbm {o : Expr} {td : TE} {apos cpos : Pos} (ho : PE X o td) (hbase : attributeBase o "items" X.env (eval o X.env) = eval o X.env := by rfl) (hline : (apos.endLine == cpos.line) = true := by rfl) :
  PI X tg (.Call (.Attribute o "items" apos) [] [] cpos) (z9f td) := by
 intro pins s σ H R I h
 refine wpAny_Call_method0_late hbase hline (thn (ho pins s σ H _ I h) fun v s1 ⟨x, H1, I1, r1, a, ex, ea, q⟩ => ?_)
 subst ex
 obtain rfl : v = Value.ref a := r1
 obtain ⟨t1, t2, hd⟩ := zbg I1 (.inl ⟨_, .inl ea⟩)
 obtain ⟨z, -, vs, rel, dd⟩ := z5x I1.hok ea
 have evs : vs = [] := by cases rel; rfl
 subst evs
 obtain ⟨ep, da⟩ := dd.dictAt
 refine ⟨"dict", "dict.items", PySem.F.plainAttrs_dict, PySem.F.slot_dict_items, PySem.F.type_dict_items, t1, t2, Calls.callWith_builtin rfl (PySem.evalArgs_none ?_)⟩
 refine call_meetsIn PySem.F.slot_dict_items t1 PySem.F.entry_dict_items (PySem.F.args_dict_items_1 _) (meets_dict_items (zo X.prog X.w) a hd) ⟨⟨_, dd⟩, ?_⟩
 have gv : (s1.heap.push { cls := .type "dict_items", data := .fields #[.ref a] }).get? s1.heap.objs.size = some { cls := .type "dict_items", data := .fields #[.ref a] } := Heap.get?_push_size _ rfl
 have da2 : (s1.heap.push { cls := .type "dict_items", data := .fields #[.ref a] }).DictAt (zo X.prog X.w) a [] ep := da.push _
 refine wpAny_pyIter_items (s := { s1 with heap := s1.heap.push { cls := .type "dict_items", data := .fields #[.ref a] } }) ⟨_, gv, rfl, rfl⟩ da2 ?_
 have I2 : Inv X pins σ H1 { s1 with heap := s1.heap.push { cls := .type "dict_items", data := .fields #[.ref a] } } := I1.kept (t' := s1.toks) fun b u e => Heap.get?_push_of_some _ e
 have I3 := I2.kept (t' := s1.toks) (h' := (s1.heap.push { cls := .type "dict_items", data := .fields #[.ref a] }).push { cls := .type "dict_itemiterator", data := .fields #[.none, .bool false, .ref a, .int 0 0, .int 0 0, .int ep 0, .none, .none] }) fun b u e => Heap.get?_push_of_some _ e
 have da3 := da2.push { cls := .type "dict_itemiterator", data := .fields #[.none, .bool false, .ref a, .int 0 0, .int 0 0, .int ep 0, .none, .none] }
 obtain ⟨o, es, g1, g2, g3, g4, g5, g6⟩ := da3
 have ees : es = #[] := by
  have : es.toList = [] := by
   cases e : es.toList with
   | nil => rfl
   | cons _ _ => rw [e] at g5; cases g5
  simpa using this
 subst ees
 have I4 : Inv X pins σ (upd H1 a (.frz o (.dK []))) { s1 with heap := (s1.heap.push { cls := .type "dict_items", data := .fields #[.ref a] }).push { cls := .type "dict_itemiterator", data := .fields #[.none, .bool false, .ref a, .int 0 0, .int 0 0, .int ep 0, .none, .none] } } :=
  I3.write (t' := s1.toks) (e := a) (by rw [ea]; exact True.intro) (.inl rfl) (fun b u _ e => e) ⟨o, g1⟩ ⟨g1, Nat.zero_le _, hd, [], .nil, ⟨o, #[], ep, g1, g2, g3, g4, g5, g6⟩⟩
 have sz : (s1.heap.push { cls := .type "dict_items", data := .fields #[.ref a] }).objs.size = s1.heap.objs.size + 1 := Heap.size_push ..
 refine ⟨_, [(s1.heap.push { cls := .type "dict_items", data := .fields #[.ref a] }).objs.size], _, _, _, rfl, I4, z8y g3 g2, ⟨rfl, Heap.get?_push_size _ rfl⟩, fun b hb => ?_, q o⟩
 have e : b = (s1.heap.push { cls := .type "dict_items", data := .fields #[.ref a] }).objs.size := by simpa using hb
 subst e
 refine I2.fpOk (Nat.le_refl _) ?_
 have la : a < s1.heap.objs.size := da.lt_size
 rw [z7 (Nat.ne_of_gt (show a < _ by rw [sz]; exact Nat.lt_succ_of_lt la))]
 exact I2.hok.fresh (Nat.le_refl _)
end
theorem z63 {P : Program} {w : World} {K : PySem.W.Frag} {mg : Str → Option Value} {base : Heap} {CX : CXT} {C : Addr} {m qual : Str} {st : Stmt} {ps : List Str} {k : Nat} (D : MDef K C m qual st ps) : MHas P w K mg base CX k C m ps z2d := by
 obtain ⟨f, fd, F, hm, hb⟩ := D
 exact ⟨f, fd, ⟨fun _ _ _ _ h => h.elim, fun _ _ _ _ _ _ _ _ _ _ _ _ _ h => h.elim⟩, hm, hb⟩
end L2
end
namespace Fg
open PySem L2
local macro_rules | `(tactic| walk_at "rd") => `(tactic| simp only [cxOf, L2.start, tSeq, zci, tAsg, tBM, z9n, gNil, zck, tRet, tIfS, zcj, tOp, tSl, zcr, z96, zai, tIsN, tCB, zcp, tNil, tTup, tLst, tVar, tC, z9q, tB, tOr, tNot, zch, z7m, z9t, tFld, sFld, z4r, zb8, z5s, zb7, tTry, zct, zbb, gTup, zbf, zcv, zc4, zb1, zb2, zcl, iStr, zb3, za3, tDIn, z9b, zbh, zcw, z9f, z94, rAdd, tIfX, tYes, capt, rI, rI0, rEq, rNe, tyV, scal,
 Option.join_some, List.map_cons, List.map_nil, List.cons_append, List.nil_append, List.append_nil, List.replicate, List.length_cons, List.length_nil, Nat.reduceAdd, Nat.reduceSub, List.getElem?_cons_zero, List.getElem?_cons_succ, List.set_cons_zero, List.set_cons_succ,
 Option.some.injEq, V.str.injEq, V.int.injEq, V.bl.injEq, V.ref.injEq, V.ty.injEq, List.cons.injEq, exists_eq_left', exists_eq_left, exists_and_left, and_true, true_and, reduceCtorEq, if_true, if_false])
def top (i : Nat) : Stmt := PySem.Challenge.pw_fencegate_k26_pauses.main.body.getD i (.Pass ⟨0, 0, 0, 0⟩)
abbrev z3j : Stmt := top 24
abbrev z3k : Stmt := top 25
abbrev z24 : Stmt := z1c (top 30) 0
abbrev z1z : Stmt := z1c (top 32) 0
abbrev z28 : Stmt := z1c (top 34) 0
abbrev z35 : Stmt := top 45
abbrev z36 : Stmt := top 46
abbrev z37 : Stmt := top 47
abbrev z29 : Stmt := z1c (top 48) 0
abbrev z1q : Stmt := z1c (top 48) 1
abbrev z1s : Stmt := z1c (top 48) 4
abbrev z3s : Stmt := z1c (top 48) 8
abbrev z2x : Stmt := z1c (top 48) 19
abbrev z38 : Stmt := z1c (top 48) 20
abbrev z3t : Stmt := z1c (top 48) 21
abbrev z39 : Stmt := z1c (top 48) 25
abbrev z2k : Stmt := z1c (top 48) 26
abbrev z2a : Stmt := z1c (top 48) 34
abbrev z3l : Stmt := z1c (top 48) 36
abbrev z4m : Stmt := top 50
abbrev z1n : Stmt := top 51
abbrev z3m : Stmt := top 52
abbrev z3a : Stmt := top 53
abbrev z3n : Stmt := top 54
abbrev z2y : Stmt := top 55
abbrev z4z : Stmt := top 56
structure Txt (K : PySem.W.Frag) (mg : Str → Option Value) (C_Asleep C_Awake C_BadSetup C_Council C_Keeper C_PausesSpent C_Store C_World : Addr) (t_MOST_HOLDERS t_MOST_KEEPERS t_MOST_LOCKS t_MOST_NAMES t_MOST_PAUSES t_MOST_SIGNS t_MOST_STORES t_MOST_TIME t_NAME_SIGNS : Tok) : Prop where
 z : True
 b_all : mg "all" = none
 b_bool : mg "bool" = none
 b_dict : mg "dict" = none
 b_int : mg "int" = none
 b_isinstance : mg "isinstance" = none
 b_len : mg "len" = none
 b_list : mg "list" = none
 b_range : mg "range" = none
 b_set : mg "set" = none
 b_sorted : mg "sorted" = none
 b_str : mg "str" = none
 b_tuple : mg "tuple" = none
 c_MOST_HOLDERS : mg "MOST_HOLDERS" = some (.int 8 t_MOST_HOLDERS)
 c_MOST_KEEPERS : mg "MOST_KEEPERS" = some (.int 5 t_MOST_KEEPERS)
 c_MOST_LOCKS : mg "MOST_LOCKS" = some (.int 10 t_MOST_LOCKS)
 c_MOST_NAMES : mg "MOST_NAMES" = some (.int 4 t_MOST_NAMES)
 c_MOST_PAUSES : mg "MOST_PAUSES" = some (.int 20 t_MOST_PAUSES)
 c_MOST_SIGNS : mg "MOST_SIGNS" = some (.int 8 t_MOST_SIGNS)
 c_MOST_STORES : mg "MOST_STORES" = some (.int 4 t_MOST_STORES)
 c_MOST_TIME : mg "MOST_TIME" = some (.int 1000 t_MOST_TIME)
 c_NAME_SIGNS : mg "NAME_SIGNS" = some (.str "abcdefghijklmnopqrstuvwxyz0123456789" t_NAME_SIGNS)
 g_Asleep : mg "Asleep" = some (.ref C_Asleep)
 g_Awake : mg "Awake" = some (.ref C_Awake)
 g_BadSetup : mg "BadSetup" = some (.ref C_BadSetup)
 g_Council : mg "Council" = some (.ref C_Council)
 g_Keeper : mg "Keeper" = some (.ref C_Keeper)
 g_PausesSpent : mg "PausesSpent" = some (.ref C_PausesSpent)
 g_Store : mg "Store" = some (.ref C_Store)
 g_World : mg "World" = some (.ref C_World)
 pg_Council : PySem.W.plainGet K C_Council Str.empty = true
 hd_Council : PySem.W.hasDictIn K C_Council = true
 po_Council : PySem.W.plainOver K C_Council = true
 sa_Council : PySem.W.findIn K (.ref C_Council) "__setattr__" = some (some (.builtin "object.__setattr__"))
 n_Council_keepers : NoAttr K C_Council "keepers"
 n_Council_most : NoAttr K C_Council "most"
 pg_Keeper : PySem.W.plainGet K C_Keeper Str.empty = true
 hd_Keeper : PySem.W.hasDictIn K C_Keeper = true
 po_Keeper : PySem.W.plainOver K C_Keeper = true
 sa_Keeper : PySem.W.findIn K (.ref C_Keeper) "__setattr__" = some (some (.builtin "object.__setattr__"))
 n_Keeper_up : NoAttr K C_Keeper "up"
 n_Keeper_top : NoAttr K C_Keeper "top"
 n_Keeper_kept : NoAttr K C_Keeper "kept"
 pg_Store : PySem.W.plainGet K C_Store Str.empty = true
 hd_Store : PySem.W.hasDictIn K C_Store = true
 po_Store : PySem.W.plainOver K C_Store = true
 sa_Store : PySem.W.findIn K (.ref C_Store) "__setattr__" = some (some (.builtin "object.__setattr__"))
 n_Store_top : NoAttr K C_Store "top"
 n_Store_kept : NoAttr K C_Store "kept"
 pg_World : PySem.W.plainGet K C_World Str.empty = true
 hd_World : PySem.W.hasDictIn K C_World = true
 po_World : PySem.W.plainOver K C_World = true
 sa_World : PySem.W.findIn K (.ref C_World) "__setattr__" = some (some (.builtin "object.__setattr__"))
 n_World_now : NoAttr K C_World "now"
 n_World_council : NoAttr K C_World "council"
 n_World_holders : NoAttr K C_World "holders"
 n_World_locks : NoAttr K C_World "locks"
 n_World_shareable : NoAttr K C_World "shareable"
 n_World_stores : NoAttr K C_World "stores"
 n_World_carries : NoAttr K C_World "carries"
 n_World_waiting : NoAttr K C_World "waiting"
 n_World_asleep_since : NoAttr K C_World "asleep_since"
 n_World_pauses : NoAttr K C_World "pauses"
 n_World_logged : NoAttr K C_World "logged"
 n_World_ends : NoAttr K C_World "ends"
 x_Asleep : PySem.W.excIn K C_Asleep [.type "ValueError", .type "Exception", .type "BaseException", .type "object"] "ValueError.__new__" = true
 x_Awake : PySem.W.excIn K C_Awake [.type "ValueError", .type "Exception", .type "BaseException", .type "object"] "ValueError.__new__" = true
 x_BadSetup : PySem.W.excIn K C_BadSetup [.type "ValueError", .type "Exception", .type "BaseException", .type "object"] "ValueError.__new__" = true
 x_PausesSpent : PySem.W.excIn K C_PausesSpent [.type "ValueError", .type "Exception", .type "BaseException", .type "object"] "ValueError.__new__" = true
 sb_Asleep_Asleep : PySem.W.subIn K (.ref C_Asleep) (.ref C_Asleep) = some true
 sb_Asleep_Awake : PySem.W.subIn K (.ref C_Asleep) (.ref C_Awake) = some false
 sb_Asleep_PausesSpent : PySem.W.subIn K (.ref C_Asleep) (.ref C_PausesSpent) = some false
 sb_Awake_Asleep : PySem.W.subIn K (.ref C_Awake) (.ref C_Asleep) = some false
 sb_Awake_Awake : PySem.W.subIn K (.ref C_Awake) (.ref C_Awake) = some true
 sb_Awake_PausesSpent : PySem.W.subIn K (.ref C_Awake) (.ref C_PausesSpent) = some false
 sb_BadSetup_Asleep : PySem.W.subIn K (.ref C_BadSetup) (.ref C_Asleep) = some false
 sb_BadSetup_Awake : PySem.W.subIn K (.ref C_BadSetup) (.ref C_Awake) = some false
 sb_BadSetup_PausesSpent : PySem.W.subIn K (.ref C_BadSetup) (.ref C_PausesSpent) = some false
 sb_PausesSpent_Asleep : PySem.W.subIn K (.ref C_PausesSpent) (.ref C_Asleep) = some false
 sb_PausesSpent_Awake : PySem.W.subIn K (.ref C_PausesSpent) (.ref C_Awake) = some false
 sb_PausesSpent_PausesSpent : PySem.W.subIn K (.ref C_PausesSpent) (.ref C_PausesSpent) = some true
theorem Txt.cl_Council {K : PySem.W.Frag} {mg : Str → Option Value} {C_Asleep C_Awake C_BadSetup C_Council C_Keeper C_PausesSpent C_Store C_World : Addr} {t_MOST_HOLDERS t_MOST_KEEPERS t_MOST_LOCKS t_MOST_NAMES t_MOST_PAUSES t_MOST_SIGNS t_MOST_STORES t_MOST_TIME t_NAME_SIGNS : Tok} (T : Txt K mg C_Asleep C_Awake C_BadSetup C_Council C_Keeper C_PausesSpent C_Store C_World t_MOST_HOLDERS t_MOST_KEEPERS t_MOST_LOCKS t_MOST_NAMES t_MOST_PAUSES t_MOST_SIGNS t_MOST_STORES t_MOST_TIME t_NAME_SIGNS) : Cls K C_Council := ⟨T.pg_Council, T.hd_Council, T.po_Council, T.sa_Council⟩
theorem Txt.cl_Keeper {K : PySem.W.Frag} {mg : Str → Option Value} {C_Asleep C_Awake C_BadSetup C_Council C_Keeper C_PausesSpent C_Store C_World : Addr} {t_MOST_HOLDERS t_MOST_KEEPERS t_MOST_LOCKS t_MOST_NAMES t_MOST_PAUSES t_MOST_SIGNS t_MOST_STORES t_MOST_TIME t_NAME_SIGNS : Tok} (T : Txt K mg C_Asleep C_Awake C_BadSetup C_Council C_Keeper C_PausesSpent C_Store C_World t_MOST_HOLDERS t_MOST_KEEPERS t_MOST_LOCKS t_MOST_NAMES t_MOST_PAUSES t_MOST_SIGNS t_MOST_STORES t_MOST_TIME t_NAME_SIGNS) : Cls K C_Keeper := ⟨T.pg_Keeper, T.hd_Keeper, T.po_Keeper, T.sa_Keeper⟩
theorem Txt.cl_Store {K : PySem.W.Frag} {mg : Str → Option Value} {C_Asleep C_Awake C_BadSetup C_Council C_Keeper C_PausesSpent C_Store C_World : Addr} {t_MOST_HOLDERS t_MOST_KEEPERS t_MOST_LOCKS t_MOST_NAMES t_MOST_PAUSES t_MOST_SIGNS t_MOST_STORES t_MOST_TIME t_NAME_SIGNS : Tok} (T : Txt K mg C_Asleep C_Awake C_BadSetup C_Council C_Keeper C_PausesSpent C_Store C_World t_MOST_HOLDERS t_MOST_KEEPERS t_MOST_LOCKS t_MOST_NAMES t_MOST_PAUSES t_MOST_SIGNS t_MOST_STORES t_MOST_TIME t_NAME_SIGNS) : Cls K C_Store := ⟨T.pg_Store, T.hd_Store, T.po_Store, T.sa_Store⟩
theorem Txt.cl_World {K : PySem.W.Frag} {mg : Str → Option Value} {C_Asleep C_Awake C_BadSetup C_Council C_Keeper C_PausesSpent C_Store C_World : Addr} {t_MOST_HOLDERS t_MOST_KEEPERS t_MOST_LOCKS t_MOST_NAMES t_MOST_PAUSES t_MOST_SIGNS t_MOST_STORES t_MOST_TIME t_NAME_SIGNS : Tok} (T : Txt K mg C_Asleep C_Awake C_BadSetup C_Council C_Keeper C_PausesSpent C_Store C_World t_MOST_HOLDERS t_MOST_KEEPERS t_MOST_LOCKS t_MOST_NAMES t_MOST_PAUSES t_MOST_SIGNS t_MOST_STORES t_MOST_TIME t_NAME_SIGNS) : Cls K C_World := ⟨T.pg_World, T.hd_World, T.po_World, T.sa_World⟩
theorem z83 : FnScope ["text"] ["text"] (zc z3j) := ⟨rfl, rfl, rfl, by decide +kernel, rfl, by decide +kernel, by decide +kernel⟩
theorem sc_good_path : FnScope ["text", "names"] ["text"] (zc z3k) := ⟨rfl, rfl, rfl, by decide +kernel, rfl, by decide +kernel, by decide +kernel⟩
theorem z4n : FnScope ["self"] ["self"] (zc z24) := ⟨rfl, rfl, rfl, by decide +kernel, rfl, by decide +kernel, by decide +kernel⟩
theorem z4a : FnScope ["self", "many"] ["self", "many"] (zc z1z) := ⟨rfl, rfl, rfl, by decide +kernel, rfl, by decide +kernel, by decide +kernel⟩
theorem z51 : FnScope ["self"] ["self"] (zc z28) := ⟨rfl, rfl, rfl, by decide +kernel, rfl, by decide +kernel, by decide +kernel⟩
theorem z75 : FnScope ["texts", "least", "most"] ["texts", "least", "most"] (zc z35) := ⟨rfl, rfl, rfl, by decide +kernel, rfl, by decide +kernel, by decide +kernel⟩
theorem z76 : FnScope ["keepers", "holders", "locks", "shared", "stores"] ["keepers", "holders", "locks", "shared", "stores"] (zc z36) := ⟨rfl, rfl, rfl, by decide +kernel, rfl, by decide +kernel, by decide +kernel⟩
theorem z77 : FnScope ["ticks"] ["ticks"] (zc z37) := ⟨rfl, rfl, rfl, by decide +kernel, rfl, by decide +kernel, by decide +kernel⟩
theorem z52 : FnScope ["self", "keepers", "holders", "locks", "shared", "stores"] ["self", "keepers", "holders", "locks", "shared", "stores"] (zc z29) := ⟨rfl, rfl, rfl, by decide +kernel, rfl, by decide +kernel, by decide +kernel⟩
theorem z3u : FnScope ["self", "holder"] ["self", "holder"] (zc z1q) := ⟨rfl, rfl, rfl, by decide +kernel, rfl, by decide +kernel, by decide +kernel⟩
theorem z45 : FnScope ["self", "holder"] ["self", "holder"] (zc z1s) := ⟨rfl, rfl, rfl, by decide +kernel, rfl, by decide +kernel, by decide +kernel⟩
theorem z6h : FnScope ["self", "holder"] ["self", "holder"] (zc z2x) := ⟨rfl, rfl, rfl, by decide +kernel, rfl, by decide +kernel, by decide +kernel⟩
theorem z78 : FnScope ["self", "holder"] ["self", "holder"] (zc z38) := ⟨rfl, rfl, rfl, by decide +kernel, rfl, by decide +kernel, by decide +kernel⟩
theorem sc_World_tick : FnScope ["self", "many", "step"] ["self", "many"] (zc z39) := ⟨rfl, rfl, rfl, by decide +kernel, rfl, by decide +kernel, by decide +kernel⟩
theorem z5h : FnScope ["self", "holder"] ["self", "holder"] (zc z2k) := ⟨rfl, rfl, rfl, by decide +kernel, rfl, by decide +kernel, by decide +kernel⟩
theorem z53 : FnScope ["self"] ["self"] (zc z2a) := ⟨rfl, rfl, rfl, by decide +kernel, rfl, by decide +kernel, by decide +kernel⟩
theorem z84 : FnScope ["self"] ["self"] (zc z3l) := ⟨rfl, rfl, rfl, by decide +kernel, rfl, by decide +kernel, by decide +kernel⟩
theorem za8 : FnScope ["_law_script", "_law_k"] ["_law_script", "_law_k"] (zc z4m) := ⟨rfl, rfl, rfl, by decide +kernel, rfl, by decide +kernel, by decide +kernel⟩
theorem z3b : FnScope ["_law_found", "_law_due"] ["_law_found", "_law_due"] (zc z1n) := ⟨rfl, rfl, rfl, by decide +kernel, rfl, by decide +kernel, by decide +kernel⟩
theorem sc__law_name : FnScope ["_law_cell", "_law_k", "_law_signs", "_law_rest", "_law_many", "_law_spot", "_law_made", "_law_j", "_law_place"] ["_law_cell", "_law_k"] (zc z3m) := ⟨rfl, rfl, rfl, by decide +kernel, rfl, by decide +kernel, by decide +kernel⟩
theorem z79 : FnScope ["_law_cell", "_law_many"] ["_law_cell", "_law_many"] (zc z3a) := ⟨rfl, rfl, rfl, by decide +kernel, rfl, by decide +kernel, by decide +kernel⟩
theorem sc__law_deed : FnScope ["_law_world", "_law_kind", "_law_holder", "_law_word"] ["_law_world", "_law_kind", "_law_holder"] (zc z3n) := ⟨rfl, rfl, rfl, by decide +kernel, rfl, by decide +kernel, by decide +kernel⟩
theorem sc__law_events : FnScope ["_law_script", "_law_holders", "_law_made", "_law_k", "_law_holder", "_law_rest", "_law_kind"] ["_law_script", "_law_holders"] (zc z2y) := ⟨rfl, rfl, rfl, by decide +kernel, rfl, by decide +kernel, by decide +kernel⟩
theorem sc_law : FnScope ["_law_script", "_law_holders", "_law_world", "_law_since", "_law_log", "_law_many", "_law_tick", "_law_kind", "_law_holder", "_law_found", "_law_due"] ["_law_script"] (zc z4z) := ⟨rfl, rfl, rfl, by decide +kernel, rfl, by decide +kernel, by decide +kernel⟩
variable {C_Asleep C_Awake C_BadSetup C_Council C_Keeper C_PausesSpent C_Store C_World : Addr}
variable {t_MOST_HOLDERS t_MOST_KEEPERS t_MOST_LOCKS t_MOST_NAMES t_MOST_PAUSES t_MOST_SIGNS t_MOST_STORES t_MOST_TIME t_NAME_SIGNS : Tok}
def sp (a : Str) : List Str := Txt.split a "/"
section
variable {P : Program} {w : World} {K : PySem.W.Frag} {mg : Str → Option Value} {base : Heap}
def spAt (K : PySem.W.Frag) : Sp := fun vs H Q _ => ∃ (p : Addr) (ns : List Int) (k : Nat), vs = [.ref p, .int k] ∧ SqL K H p (ns.map V.int) ∧ ns.length ≤ 1000 ∧ Q (.int (ns.getD k 0)) H
theorem za9 (F : Def K mg "_law_at" z4m ["_law_script", "_law_k"]) (T : Txt K mg C_Asleep C_Awake C_BadSetup C_Council C_Keeper C_PausesSpent C_Store C_World t_MOST_HOLDERS t_MOST_KEEPERS t_MOST_LOCKS t_MOST_NAMES t_MOST_PAUSES t_MOST_SIGNS t_MOST_STORES t_MOST_TIME t_NAME_SIGNS) : Has P w K mg base 1 "_law_at" ["_law_script", "_law_k"] (spAt K) := by
 refine F.ok za8 (fun vs H Q E h => ?_) (fun f cdv A outer s H vs Q E hr h => ?_)
 ·obtain ⟨p, ns, k, rfl, _⟩ := h
  rfl
 ·obtain ⟨p, ns, k, rfl, hp, hl, q⟩ := h
  refine ⟨_, (@z6 _ _ _ _ _ (@zn _ _ _ _ _ _ _ _ (@zt _ _ _ _ _ _ _ _ zeh (pv 1) (@z8 _ _ _ _ _ _ _ _ _ zh rfl T.b_len (by decide +kernel) (@z0 _ _ _ _ _ (pv 0) z4 rfl) (by decide) (by decide) rfl rfl) (zj _)) (@z9 _ _ _ (@zg _ _ _ _ (@z15 _ _ _ _ _ _ _ ix_list (pv 0) (pv 1) (fun _ _ => rfl)))) zf) (@z9 _ _ _ (@zg _ _ _ _ zb))), ?_⟩
  walk_at "rd"
  refine ⟨_, .inl hp, ?_⟩
  rw [List.length_map]
  by_cases hk : k < ns.length
  ·rw [if_pos (by simpa using hk)]
   refine ⟨p, _, _, _, rfl, rfl, hp, z23 (v := .int (ns.getD k 0)) ?_, q⟩
   rw [List.getElem?_map, List.getD_eq_getElem?_getD, List.getElem?_eq_getElem hk]
   rfl
  ·rw [if_neg (by simpa using hk)]
   have e : ns.getD k 0 = 0 := by rw [List.getD_eq_getElem?_getD, List.getElem?_eq_none (by omega)]; rfl
   rw [← e]
   exact q
def abc : Str := "abcdefghijklmnopqrstuvwxyz0123456789"
theorem z9g : ∀ n, n < 36 → ∃ c, abc.cps.toList[n]? = some c := by
 intro n hn
 have l : abc.cps.toList.length = 36 := by decide +kernel
 exact ⟨_, List.getElem?_eq_getElem (by omega)⟩
theorem ze8 {d : Nat} {n : Nat} (h : n ≤ 100) : MulOk ⟨#[d]⟩ (n : Int) := by
 have f : ∀ m : _root_.Fin 101, (decide ((m.val : Int) < 1) || (decide (¬ ((1 : Int) > (2 ^ 63 - 1) / (m.val : Int))) && (Builtin.Str.tooLong (1 * m.val) == false))) = true := by decide +kernel
 have g := f ⟨n, by omega⟩
 dsimp only at g
 rw [Bool.or_eq_true, Bool.and_eq_true] at g
 have l : (⟨#[d]⟩ : Str).length = 1 := rfl
 refine ⟨?_, fun h1 _ => ?_, fun h1 _ => ?_⟩
 ·rw [Bool.or_eq_false_iff]
  exact ⟨decide_eq_false (by omega), decide_eq_false (by omega)⟩
 ·rcases g with g | g
  ·exact absurd (of_decide_eq_true g) h1
  ·rw [l]
   exact of_decide_eq_true g.1
 ·rcases g with g | g
  ·exact absurd (of_decide_eq_true g) h1
  ·rw [l, Int.toNat_natCast]
   exact eq_of_beq g.2
theorem z85 (d : Nat) : ∀ (m : Nat) (acc : Array Nat), ((List.replicate m #[d]).foldl (· ++ ·) acc).size = acc.size + m
 | 0, acc => rfl
 | m + 1, acc => by
  rw [List.replicate_succ, List.foldl_cons, z85 d m, Array.size_append]
  show acc.size + 1 + m = _
  omega
theorem z6i (d n : Nat) : (Txt.mul ⟨#[d]⟩ (n : Int)).length = n := by
 unfold Txt.mul
 by_cases h1 : (n : Int) < 1
 ·rw [if_pos h1]
  have : n = 0 := by omega
  subst this
  rfl
 ·rw [if_neg h1]
  by_cases h2 : n = 1
  ·subst h2
   rfl
  ·rw [if_neg (by simp; exact ⟨by omega, by show ¬ (1 = 0); decide⟩)]
   show ((List.replicate (n : Int).toNat #[d]).foldl (· ++ ·) #[]).size = n
   rw [z85, Int.toNat_natCast]
   show 0 + n = n
   omega
def z3c (c : Nat) : Bool := decide (c ∈ abc.cps.toList)
def zr (z : Str) : Bool := decide (1 ≤ z.length) && decide (z.length ≤ 8) && z.cps.toList.all z3c
def z86 : Sp := fun vs H Q _ => ∃ z : Str, vs = [.str z] ∧ z.length ≤ 1000 ∧ z4u H Q (.bl (zr z))
theorem z87 (F : Def K mg "good_name" z3j ["text"]) (T : Txt K mg C_Asleep C_Awake C_BadSetup C_Council C_Keeper C_PausesSpent C_Store C_World t_MOST_HOLDERS t_MOST_KEEPERS t_MOST_LOCKS t_MOST_NAMES t_MOST_PAUSES t_MOST_SIGNS t_MOST_STORES t_MOST_TIME t_NAME_SIGNS) : Has P w K mg base 1 "good_name" ["text"] (z86) := by
  refine F.ok z83 (fun vs H Q E h => ?_) (fun f cdv A outer s H vs Q E hr h => ?_)
  · obtain ⟨z, rfl, _⟩ := h
    rfl
  · obtain ⟨z, rfl, hz, k⟩ := h
    refine ⟨_, (@z9 _ _ _ (@zg _ _ _ _ (@z1i _ _ _ _ _ _ _ (@z5e _ _ _ _ _ _ _ _ _ _ _ _ z2z z2z zb (@z8 _ _ _ _ _ _ _ _ _ z7t rfl T.b_len (by decide +kernel) (@z0 _ _ _ _ _ (pv 0) z4 rfl) (by decide) (by decide) rfl rfl) (@z1r _ _ (.int 8) _ _ rfl T.c_MOST_SIGNS ⟨_, rfl⟩ (by decide)) (by with_unfolding_all rfl)) (@z1h _ _ _ _ _ (@z8 _ _ _ _ _ _ _ _ _ (zy rfl) rfl T.b_all (by decide +kernel) (@z0 _ _ _ _ _ (@z1e _ _ "sign" ([]) ([]) _ _ _ _ _ _ _ _ rfl ⟨rfl, by decide +kernel, by decide +kernel, rfl, zw rfl, by decide +kernel, trivial⟩ (@ze0 _ _ _ _ (pv 0)) (fun _ _ _ _ => z1d) (fun _ _ _ _ => (@z14 _ _ _ _ _ _ _ _ zap (pv 0) (@z1r _ _ (.str "abcdefghijklmnopqrstuvwxyz0123456789") _ _ rfl T.c_NAME_SIGNS ⟨_, rfl⟩ (by decide)) (by with_unfolding_all rfl))) (by intro _; rfl)) z4 rfl) (by decide) (by decide) rfl rfl))))), ?_⟩
    walk_at "rd"
    refine ⟨zu (by omega), ?_⟩
    refine ite2 (fun h1 => ?_) (fun h1 => ?_)
    · have h1 : 1 ≤ z.length := by have : (1 : Int) ≤ z.length := by simpa using h1
                                   omega
      refine ite2 (fun h8 => ?_) (fun h8 => ?_)
      · have h8 : z.length ≤ 8 := by have : (z.length : Int) ≤ 8 := by simpa using h8
                                     omega
        refine za0 (zu (by show z.length ≤ _; omega)) (fun i acc H' => acc = ((z.cps.toList.take i).map z3c).map V.bl ∧ H' = H) ⟨rfl, rfl⟩ (fun i acc H' ⟨e, _⟩ => by rw [e, List.length_map, List.length_map, List.length_take]; omega) ?_ ?_
        · rintro Nt i acc H' c hN hc hi ⟨rfl, rfl⟩
          walk_at "rd"
          refine hN _ _ ⟨?_, rfl⟩
          have e := PySem.StrLaws.found_one abc c
          have e' : (!(Builtin.Str.occurrences abc ⟨#[c]⟩ 0 abc.length 1).isEmpty) = z3c c := e
          show _ ++ [V.bl (!(Builtin.Str.occurrences abc ⟨#[c]⟩ 0 abc.length 1).isEmpty)] = _
          rw [e', List.take_succ, show z.cps.toList[i]? = some c by simpa using hc]
          simp
        · rintro acc H' ⟨rfl, rfl⟩ p hp
          refine ⟨p, rfl, z.cps.toList.map z3c, SqL.of ?_, ?_⟩
          · rw [z5, List.take_of_length_le (by simp)]
          · have e : (List.map z3c z.cps.toList).all id = zr z := by
              unfold zr
              rw [decide_eq_true h1, decide_eq_true h8, List.all_map]
              rfl
            rw [e]
            exact k _ (Same.upd hp)
      · have h8 : ¬ z.length ≤ 8 := by have : ¬ (z.length : Int) ≤ 8 := by simpa using h8
                                       omega
        have e : zr z = false := by unfold zr; rw [decide_eq_false h8, Bool.and_false, Bool.false_and]
        rw [← e]
        exact k _ (Same.refl _)
    · have h1 : ¬ 1 ≤ z.length := by have : ¬ (1 : Int) ≤ z.length := by simpa using h1
                                     omega
      have e : zr z = false := by unfold zr; rw [decide_eq_false h1, Bool.false_and, Bool.false_and]
      rw [← e]
      exact k _ (Same.refl _)
theorem z64 (y : Str) : ∀ (x : Str) (ns : List Str), (Str.join y (x :: ns)).length + y.length = ((x :: ns).map (·.length)).sum + (ns.length + 1) * y.length
 | x, [] => by
  show x.length + y.length = x.length + 0 + (0 + 1) * y.length
  omega
 | x, x2 :: r => by
  have ih := z64 y x2 r
  show (x ++ y ++ Str.join y (x2 :: r)).length + y.length = _
  rw [PySem.Str.length_append, PySem.Str.length_append, List.map_cons, List.sum_cons]
  show _ = _ + ((r.length + 1) + 1) * y.length
  rw [Nat.add_mul (r.length + 1) 1, Nat.one_mul]
  omega
theorem z4o (z : Str) : ((sp z).map (·.length)).sum + (sp z).length ≤ z.length + 1 := by
 have h := PySem.StrLaws.join_split z "/"
 have l : ("/" : Str).length = 1 := rfl
 unfold sp
 cases e : Txt.split z "/" with
 | nil => simp
 | cons x r =>
  have q := z64 "/" x r
  rw [e] at h
  rw [h, l, Nat.mul_one] at q
  show _ + (r.length + 1) ≤ _
  omega
def z20 (z : Str) : Bool := decide ((sp z).length ≤ 4) && (sp z).all zr
theorem ze9 (z : Str) : (sp z).length ≤ z.length + 1 := by
 have := z4o z
 omega
theorem zbn : ∀ {l : List Nat} {x : Nat}, x ∈ l → x ≤ l.sum
 | [], _, h => by cases h
 | a :: l, x, h => by
  rw [List.sum_cons]
  rcases List.mem_cons.mp h with rfl | h
  ·omega
  ·have := zbn h
   omega
theorem zdk (z : Str) : ∀ p ∈ sp z, p.length ≤ z.length := by
 intro p hp
 have h := z4o z
 have h1 : p.length ≤ ((sp z).map (·.length)).sum := zbn (List.mem_map.mpr ⟨p, hp, rfl⟩)
 have h2 : 1 ≤ (sp z).length := List.length_pos_of_mem hp
 omega
def z65 : Sp := fun vs H Q _ => ∃ z : Str, vs = [.str z] ∧ z.length ≤ 1000 ∧ z4u H Q (.bl (z20 z))
theorem z88 (F : Def K mg "good_path" z3k ["text"]) (T : Txt K mg C_Asleep C_Awake C_BadSetup C_Council C_Keeper C_PausesSpent C_Store C_World t_MOST_HOLDERS t_MOST_KEEPERS t_MOST_LOCKS t_MOST_NAMES t_MOST_PAUSES t_MOST_SIGNS t_MOST_STORES t_MOST_TIME t_NAME_SIGNS) (G_good_name : Has P w K mg base 1 "good_name" ["text"] (z86)) : Has P w K mg base 2 "good_path" ["text"] (z65) := by
 refine F.ok sc_good_path (fun vs H Q E h => ?_) (fun f cdv A outer s H vs Q E hr h => ?_)
 ·obtain ⟨z, rfl, _⟩ := h
  rfl
 ·obtain ⟨z, rfl, hz, k⟩ := h
  refine ⟨_, (@z6 _ _ _ _ _ (@zm _ _ 1 _ _ _ _ sc_good_path.nd rfl (Or.inl rfl) (@z4s _ _ _ _ _ _ _ _ _ _ _ _ PySem.F.plainAttrs_str PySem.F.slot_str_split PySem.F.type_str_split zc3 (pv 0) (@z0 _ _ _ _ _ zl z4 rfl) rfl rfl rfl rfl rfl) rfl (Or.inr rfl)) (@z9 _ _ _ (@zg _ _ _ _ (@z1i _ _ _ _ _ _ _ (@z14 _ _ _ _ _ _ _ _ z2z (@z8 _ _ _ _ _ _ _ _ _ zh rfl T.b_len (by decide +kernel) (@z0 _ _ _ _ _ (pv 1) z4 rfl) (by decide) (by decide) rfl rfl) (@z1r _ _ (.int 4) _ _ rfl T.c_MOST_NAMES ⟨_, rfl⟩ (by decide)) (zj _)) (@z1h _ _ _ _ _ (@z8 _ _ _ _ _ _ _ _ _ (zy rfl) rfl T.b_all (by decide +kernel) (@z0 _ _ _ _ _ (@z1e _ _ "name" ([]) ([]) _ _ _ _ _ _ _ _ rfl ⟨rfl, by decide +kernel, by decide +kernel, rfl, zw rfl, by decide +kernel, trivial⟩ (@z2c _ _ _ _ (pv 1)) (fun _ _ _ _ => z1d) (fun _ _ _ _ => (@z10 _ _ _ _ _ _ _ _ _ _ G_good_name (hr.mono (by decide)) rfl (@z0 _ _ _ _ _ (pv 0) z4 rfl) (by decide) rfl rfl)) (by intro _; rfl)) z4 rfl) (by decide) (by decide) rfl rfl)))))), ?_⟩
  walk_at "rd"
  refine zde rfl (by omega) fun p hp => ⟨p, rfl, _, .inl (SqL.of z5), ?_⟩
  rw [List.length_map]
  have l1 := ze9 z
  refine ite2 (fun h4 => ?_) (fun h4 => ?_)
  ·have h4 : (sp z).length ≤ 4 := by
    have : ((Txt.split z "/").length : Int) ≤ 4 := by simpa using h4
    show (Txt.split z "/").length ≤ 4
    omega
   refine ⟨p, rfl, ⟨_, SqL.of z5⟩, ?_⟩
   refine z2t (xs := (sp z).map V.str) (by rw [List.length_map]; exact zu (by omega)) (fun i acc H' => acc = (((sp z).take i).map zr).map V.bl ∧ Same H H' ∧ H' p = some (.lst ((sp z).map V.str))) ⟨rfl, Same.upd hp, z5⟩ (fun i acc H' ⟨e, _⟩ => by rw [e, List.length_map, List.length_map, List.length_take]; omega) (fun i acc H' ⟨_, _, h⟩ => SqL.of h) ?_ ?_
   ·rintro Nt i acc H' x hN hx hi ⟨rfl, sm, hp'⟩
    rw [List.getElem?_map] at hx
    cases e : (sp z)[i]? with
    | none => rw [e] at hx; cases hx
    | some y =>
     rw [e] at hx
     obtain rfl : V.str y = x := Option.some.inj hx
     walk_at "rd"
     have hy := zdk z y (List.mem_of_getElem? e)
     refine ⟨y, rfl, by omega, fun H2 s2 => hN _ _ ⟨?_, sm.trans s2, s2 _ _ hp'⟩⟩
     rw [List.take_succ, e]
     simp
   ·rintro acc H' ⟨rfl, sm, hp'⟩ q hq
    refine ⟨q, rfl, (sp z).map zr, SqL.of ?_, ?_⟩
    ·rw [z5, List.length_map, List.take_of_length_le (Nat.le_refl _)]
    ·have e : ((sp z).map zr).all id = z20 z := by
      unfold z20
      rw [decide_eq_true h4, List.all_map]
      rfl
     rw [e]
     exact k _ (sm.trans (Same.upd hq))
  ·have h4 : ¬ (sp z).length ≤ 4 := by
    have : ¬ ((Txt.split z "/").length : Int) ≤ 4 := by simpa using h4
    show ¬ (Txt.split z "/").length ≤ 4
    omega
   have e : z20 z = false := by unfold z20; rw [decide_eq_false h4, Bool.false_and]
   rw [← e]
   exact k _ (Same.upd hp)
def sgc (j : Int) : Nat := abc.cps.toList.getD (j % 36).toNat 0
theorem zea (j : Int) : atI abc.cps.toList (j % 36) = some (sgc j) := by
 have h0 : 0 ≤ j % 36 := by omega
 have h1 : j % 36 < 36 := by omega
 have e : (((j % 36).toNat : Nat) : Int) = j % 36 := by omega
 obtain ⟨c, hc⟩ := z9g (j % 36).toNat (by omega)
 have := z23 hc
 rw [e] at this
 rw [this]
 unfold sgc
 rw [List.getD_eq_getElem?_getD, hc]
 rfl
theorem zdl {i j : Int} (h : sgc i = sgc j) : i % 36 = j % 36 := by
 have f : ∀ a b : _root_.Fin 36, (abc.cps.toList.getD a.val 0 == abc.cps.toList.getD b.val 0) = (a.val == b.val) := by decide +kernel
 have g := f ⟨(i % 36).toNat, by omega⟩ ⟨(j % 36).toNat, by omega⟩
 dsimp only at g
 unfold sgc at h
 rw [h] at g
 have e : (i % 36).toNat = (j % 36).toNat := by
  have : ((i % 36).toNat == (j % 36).toNat) = true := by rw [← g]; simp
  exact eq_of_beq this
 omega
def Tag (c : Int) (k : Nat) (z : Str) : Prop :=
 (c % 3 = 2 ∧ k < 8 ∧ z.length = k + 1 ∧ z.cps.toList[0]? = some (sgc (c / 3))) ∨
 (c % 3 = 2 ∧ 8 ≤ k ∧ z.length = k - 6 ∧ z.cps.toList[0]? = some (sgc (c / 3 + 1))) ∨
 (c % 3 = 1 ∧ z.cps.toList[0]? = some (sgc (c / 3 + 7 * k))) ∨
 (c % 3 = 0 ∧ z.cps.toList[(c / 3 / 8 % (1 + c / 3 % 8)).toNat]? = some (sgc (c / 3 / 2304 + 7 * k)))
theorem Tag.ne {c : Int} {k k' : Nat} {z : Str} (h : Tag c k z) (h' : Tag c k' z) (b : k ≤ 9) (b' : k' ≤ 9) : k = k' := by
  have key : ∀ i j : Int, sgc i = sgc j → i % 36 = j % 36 := fun _ _ e => zdl e
  rcases h with ⟨m, h1, h2, h3⟩ | ⟨m, h1, h2, h3⟩ | ⟨m, h3⟩ | ⟨m, h3⟩ <;> rcases h' with ⟨m', g1, g2, g3⟩ | ⟨m', g1, g2, g3⟩ | ⟨m', g3⟩ | ⟨m', g3⟩ <;>
    first
    | omega
    | (rw [h3] at g3
       have e := key _ _ (Option.some.inj g3)
       omega)
theorem z9h (d n : Nat) : (Txt.mul ⟨#[d]⟩ (n : Int)).cps.toList = List.replicate n d := by
 unfold Txt.mul
 by_cases h1 : (n : Int) < 1
 ·rw [if_pos h1]
  have : n = 0 := by omega
  subst this
  rfl
 ·rw [if_neg h1]
  by_cases h2 : n = 1
  ·subst h2
   rfl
  ·rw [if_neg (by simp; exact ⟨by omega, by show ¬ (1 = 0); decide⟩)]
   show ((List.replicate (n : Int).toNat #[d]).foldl (· ++ ·) #[]).toList = _
   rw [Int.toNat_natCast]
   have f : ∀ (m : Nat) (acc : Array Nat), ((List.replicate m #[d]).foldl (· ++ ·) acc).toList = acc.toList ++ List.replicate m d := by
    intro m
    induction m with
    | zero => intro acc; simp
    | succ m ih =>
     intro acc
     rw [List.replicate_succ, List.foldl_cons, ih, Array.toList_append, List.replicate_succ]
     simp
   rw [f]
   simp
def GS (z : Str) : Prop := ∀ c ∈ z.cps.toList, c ∈ abc.cps.toList
theorem zcb (z : Str) (u : Option Int) (h : GS z) : GS (Txt.slice z none u) := by
 unfold Txt.slice
 split
 ·exact h
 ·intro c m
  have m' : c ∈ List.filterMap (fun i => z.cps[i]?) (Builtin.Str.strSliceIndices none u 1 z.length) := by simpa using m
  obtain ⟨i, _, hi⟩ := List.mem_filterMap.mp m'
  exact h c (Array.mem_toList_iff.mpr (Array.mem_of_getElem? hi))
theorem z6j (a b : Str) : (a ++ b).cps.toList = a.cps.toList ++ b.cps.toList := by rw [PySem.Str.cps_append, Array.toList_append]
theorem GS.app {a b : Str} (ha : GS a) (hb : GS b) : GS (a ++ b) := fun c m => by
 rw [z6j] at m
 rcases List.mem_append.mp m with m | m
 ·exact ha c m
 ·exact hb c m
theorem z89 (j : Int) : GS ⟨#[sgc j]⟩ := fun c m => by
 have e : c = sgc j := by simpa using m
 obtain ⟨c', hc⟩ := z9g (j % 36).toNat (by omega)
 have e2 : sgc j = c' := by
  unfold sgc
  rw [List.getD_eq_getElem?_getD, hc]
  rfl
 rw [e, e2]
 exact List.mem_of_getElem? hc
theorem GS.good {z : Str} (h : GS z) (h1 : 1 ≤ z.length) (h8 : z.length ≤ 8) : zr z = true := by
 unfold zr
 rw [decide_eq_true h1, decide_eq_true h8]
 simp only [Bool.and_self, Bool.true_and, List.all_eq_true]
 exact fun c m => decide_eq_true (h c m)
def zbo : Sp := fun vs H Q _ => ∃ (c : Int) (k : Nat), vs = [.int c, .int k] ∧ k ≤ 7 ∧ ∀ z : Str, Tag c k z → zr z = true → Q (.str z) H
theorem z8a (F : Def K mg "_law_name" z3m ["_law_cell", "_law_k"]) (T : Txt K mg C_Asleep C_Awake C_BadSetup C_Council C_Keeper C_PausesSpent C_Store C_World t_MOST_HOLDERS t_MOST_KEEPERS t_MOST_LOCKS t_MOST_NAMES t_MOST_PAUSES t_MOST_SIGNS t_MOST_STORES t_MOST_TIME t_NAME_SIGNS) : Has P w K mg base 1 "_law_name" ["_law_cell", "_law_k"] (zbo) := by
 refine F.ok sc__law_name (fun vs H Q E h => ?_) (fun f cdv A outer s H vs Q E hr h => ?_)
 ·obtain ⟨c, k, rfl, _⟩ := h
  rfl
 ·obtain ⟨c, k, rfl, hk, q⟩ := h
  have hu := hr.units0
  refine ⟨_, (@z6 _ _ _ _ _ (@zm _ _ 2 _ _ _ _ sc__law_name.nd rfl (Or.inl rfl) zl rfl (Or.inr rfl)) (@z6 _ _ _ _ _ (@zm _ _ 3 _ _ _ _ sc__law_name.nd rfl (Or.inl rfl) (@zi _ _ _ _ _ _ _ _ z22 (pv 0) zb) rfl (Or.inr rfl)) (@z6 _ _ _ _ _ (@zn _ _ _ _ _ _ _ _ (@zt _ _ _ _ _ _ _ _ z12 (@zi _ _ _ _ _ _ _ _ z1g (pv 0) zb) zb (zj _)) (@z9 _ _ _ (@zg _ _ _ _ (@zi _ _ _ _ _ _ _ _ za1 (@z15 _ _ _ _ _ _ _ z5t (pv 2) (@zi _ _ _ _ _ _ _ _ z1g (pv 3) zb) (fun _ _ => rfl)) (@zi _ _ _ _ _ _ _ _ z1j (pv 1) zb)))) zf) (@z6 _ _ _ _ _ (@zn _ _ _ _ _ _ _ _ (@zt _ _ _ _ _ _ _ _ z12 (@zi _ _ _ _ _ _ _ _ z1g (pv 0) zb) zb (zj _)) (@z9 _ _ _ (@zg _ _ _ _ (@zi _ _ _ _ _ _ _ _ z5p (@z15 _ _ _ _ _ _ _ z5t (pv 2) (@zi _ _ _ _ _ _ _ _ z1g (@zi _ _ _ _ _ _ _ _ z1j (pv 3) (@zi _ _ _ _ _ _ _ _ z5o zb (pv 1))) zb) (fun _ _ => rfl)) (@z7q _ _ _ _ _ _ _ _ _ _ ze1 zl z97 (@z98 _ _ _ (@zi _ _ _ _ _ _ _ _ z1g (@zi _ _ _ _ _ _ _ _ z1j (@zi _ _ _ _ _ _ _ _ z22 (pv 3) zb) (@zi _ _ _ _ _ _ _ _ z5o zb (pv 1))) zb)))))) zf) (@z6 _ _ _ _ _ (@zm _ _ 4 _ _ _ _ sc__law_name.nd rfl (Or.inl rfl) (@zi _ _ _ _ _ _ _ _ z1j zb (@zi _ _ _ _ _ _ _ _ z1g (pv 3) zb)) rfl (Or.inr rfl)) (@z6 _ _ _ _ _ (@zm _ _ 5 _ _ _ _ sc__law_name.nd rfl (Or.inl rfl) (@zi _ _ _ _ _ _ _ _ z1g (@zi _ _ _ _ _ _ _ _ z22 (pv 3) zb) (pv 4)) rfl (Or.inr rfl)) (@z6 _ _ _ _ _ (@zm _ _ 6 _ _ _ _ sc__law_name.nd rfl (Or.inl rfl) zl rfl (Or.inr rfl)) (@z6 _ _ _ _ _ (@z4e _ _ _ _ _ _ _ _ PassesOwn.never rfl (@z1l _ _ _ _ _ _ rfl T.b_range (@z0 _ _ _ _ _ (pv 4) z4 rfl) rfl) (@z2b _ _ 7 _ sc__law_name.nd rfl (Or.inl rfl) (Or.inr rfl)) (@z6 _ _ _ _ _ (@zm _ _ 8 _ _ _ _ sc__law_name.nd rfl (Or.inl rfl) (@zi _ _ _ _ _ _ _ _ z1j (@zi _ _ _ _ _ _ _ _ z22 (pv 3) zb) (@zi _ _ _ _ _ _ _ _ z5o zb (pv 7))) rfl (Or.inr rfl)) (@z31 _ _ _ _ _ (@zn _ _ _ _ _ _ _ _ (@zt _ _ _ _ _ _ _ _ z12 (pv 7) (pv 5) (zj _)) (@z9 _ _ _ (@zm _ _ 8 _ _ _ _ sc__law_name.nd rfl (Or.inl rfl) (@zi _ _ _ _ _ _ _ _ z1j (@zi _ _ _ _ _ _ _ _ z22 (pv 3) zb) (@zi _ _ _ _ _ _ _ _ z5o zb (pv 1))) rfl (Or.inr rfl))) zf) (@z9 _ _ _ (@zm _ _ 6 _ _ _ _ sc__law_name.nd rfl (Or.inl rfl) (@zi _ _ _ _ _ _ _ _ z5p (pv 6) (@z15 _ _ _ _ _ _ _ z5t (pv 2) (@zi _ _ _ _ _ _ _ _ z1g (pv 8) zb) (fun _ _ => rfl))) rfl (Or.inr rfl))))) (by intro _; rfl)) (@z9 _ _ _ (@zg _ _ _ _ (pv 6))))))))))), ?_⟩
  walk_at "rd"
  have sgn : ∀ (j : Int) (R : VK), R (.str ⟨#[sgc j]⟩) H → rIxS (V.str "abcdefghijklmnopqrstuvwxyz0123456789") (V.int (j % 36)) H R := fun j R k => ⟨abc, _, _, rfl, rfl, by decide, zea j, k⟩
  refine ⟨cdiv (by decide) (by decide), by decide, ite2 (fun m2 => ?_) (fun m2 => ⟨by decide, ite2 (fun m1 => ?_) (fun m1 => ?_)⟩)⟩
  ·have e7 : (k : Int) + 1 = ((k + 1 : Nat) : Int) := by omega
   have h8' : k < 8 := by omega
   rw [e7]
   refine ⟨by decide, sgn _ _ ⟨_, rfl, ze8 (by omega), q _ (.inl ⟨of_decide_eq_true m2, h8', ?_, ?_⟩) (GS.good ?_ ?_ ?_)⟩⟩
   ·rw [z6i]
   ·rw [z9h]
    rfl
   ·intro c' h
    rw [z9h] at h
    rw [List.eq_of_mem_replicate h]
    exact z89 (c / 3) _ (by simp)
   ·rw [z6i]
    omega
   ·rw [z6i]
    omega
  ·have l7 : ∀ u, (Txt.slice ("k0stemz" : Str) none u).length ≤ 7 := fun u => Txt.slice_le _ _ _
   have n7 : GS ("k0stemz" : Str) := by unfold GS; decide +kernel
   refine ⟨.inl ⟨by decide, by decide⟩, by decide, sgn _ _ ⟨cdiv (by decide) (by decide), .inl ⟨by decide, by decide⟩, by decide, by decide, _, rfl, ?_, q _ (.inr (.inr (.inl ⟨of_decide_eq_true m1, ?_⟩))) (GS.good ((z89 _).app (zcb _ _ n7)) ?_ ?_)⟩⟩
   ·have := l7 (some ((c / 3 / 36 + 3 * (k : Int)) % 8))
    exact zu (by show 1 + _ ≤ _; omega)
   ·rw [z6j]
    rfl
   ·rw [PySem.Str.length_append]
    show 1 ≤ 1 + _
    omega
   ·have := l7 (some ((c / 3 / 36 + 3 * (k : Int)) % 8))
    rw [PySem.Str.length_append]
    show 1 + _ ≤ _
    omega
  ·have hm0 : c % 3 = 0 := by
    have a2 : ¬ c % 3 = 2 := by simpa using m2
    have a1 : ¬ c % 3 = 1 := by simpa using m1
    omega
   have hs0 := Int.emod_nonneg (c / 3 / 8) (b := 1 + c / 3 % 8) (by omega)
   have hs1 := Int.emod_lt_of_pos (c / 3 / 8) (b := 1 + c / 3 % 8) (by omega)
   refine ⟨by decide, cdiv (by decide) (by decide), by omega, ⟨by omega, by omega⟩, ?_⟩
   generalize hspot : c / 3 / 8 % (1 + c / 3 % 8) = spot at hs0 hs1
   refine z2s (fun i σ H' => H' = H ∧ ∃ (z : Str) (v v' : Option V), σ = [some (V.int c), some (V.int k), some (V.str "abcdefghijklmnopqrstuvwxyz0123456789"), some (V.int (c / 3)), some (V.int (1 + c / 3 % 8)), some (V.int spot), some (V.str z), v, v'] ∧ z.length = i ∧ GS z ∧ (spot < i → z.cps.toList[spot.toNat]? = some (sgc (c / 3 / 2304 + 7 * k)))) ⟨rfl, _, _, _, rfl, rfl, (by intro c h; cases h), fun h => by omega⟩ ?_ ?_
   ·rintro Pv hP i σ H' hi ⟨rfl, z, v, v', rfl, hz, h47, hsp⟩
    walk_at "rd"
    refine ⟨cdiv (by decide) (by decide), .inl ⟨by decide, by decide⟩, ?_⟩
    refine z4v (fun σ H2 => H' = H2 ∧ ∃ (r : Int), (spot = i → r = c / 3 / 2304 + 7 * k) ∧ σ = [some (V.int c), some (V.int k), some (V.str "abcdefghijklmnopqrstuvwxyz0123456789"), some (V.int (c / 3)), some (V.int (1 + c / 3 % 8)), some (V.int spot), some (V.str z), some (V.int (0 + i)), some (V.int r)]) (fun Mid hM => ?_) ?_
    ·walk_at "rd"
     exact ite2 (fun _ => ⟨cdiv (by decide) (by decide), .inl ⟨by decide, by decide⟩, hM _ _ ⟨rfl, _, fun _ => rfl, rfl⟩⟩) (fun e => hM _ _ ⟨rfl, _, fun z => absurd (by rw [z]; simp) e, rfl⟩)
    ·rintro σ H2 ⟨rfl, r, hrr, rfl⟩
     walk_at "rd"
     have lz : z.cps.toList.length = i := by rw [← hz]; rfl
     refine ⟨by decide, sgn _ _ ⟨_, rfl, zu (by show _ + 1 ≤ _; omega), hP _ _ _ ⟨rfl, _, _, _, rfl, ?_, ?_, ?_⟩⟩⟩
     ·rw [PySem.Str.length_append]
      show _ + 1 = _
      omega
     ·exact h47.app (z89 _)
     ·intro hlt
      rw [z6j]
      by_cases he : spot = i
      ·have e2 : spot.toNat = z.cps.toList.length := by omega
       rw [e2, List.getElem?_append_right (Nat.le_refl _), Nat.sub_self, hrr he]
       rfl
      ·rw [List.getElem?_append_left (by omega)]
       exact hsp (by omega)
   ·rintro σ H' ⟨rfl, z, v, v', rfl, hz, h47, hsp⟩
    walk_at "rd"
    refine q z (.inr (.inr (.inr ⟨hm0, ?_⟩))) (h47.good (by omega) (by omega))
    rw [hspot]
    exact hsp (by omega)
def NamesOf (c : Int) (zs : List Str) : Prop := ∀ i z, zs[i]? = some z → Tag c i z ∧ zr z = true
def z9i : Sp := fun vs H Q _ => ∃ (c : Int) (m : Nat), vs = [.int c, .int m] ∧ m ≤ 8 ∧ ∀ (r : Addr) (zs : List Str) (H' : Hp), zs.length = m → NamesOf c zs → H r = none → H' r = some (.lst (zs.map V.str)) → Same H H' → Q (.ref r) H'
theorem z7a (F : Def K mg "_law_names" z3a ["_law_cell", "_law_many"]) (T : Txt K mg C_Asleep C_Awake C_BadSetup C_Council C_Keeper C_PausesSpent C_Store C_World t_MOST_HOLDERS t_MOST_KEEPERS t_MOST_LOCKS t_MOST_NAMES t_MOST_PAUSES t_MOST_SIGNS t_MOST_STORES t_MOST_TIME t_NAME_SIGNS) (G__law_name : Has P w K mg base 1 "_law_name" ["_law_cell", "_law_k"] (zbo)) : Has P w K mg base 2 "_law_names" ["_law_cell", "_law_many"] (z9i) := by
 refine F.ok z79 (fun vs H Q E h => ?_) (fun f cdv A outer s H vs Q E hr h => ?_)
 ·obtain ⟨c, m, rfl, _⟩ := h
  rfl
 ·obtain ⟨c, m, rfl, hm, q⟩ := h
  have hu := hr.units0
  refine ⟨_, (@z9 _ _ _ (@zg _ _ _ _ (@z1e _ _ "_law_k" (["_law_cell"]) ([0]) _ _ _ _ _ _ _ _ rfl ⟨rfl, by decide +kernel, by decide +kernel, rfl, zw rfl, by decide +kernel, ⟨⟨rfl, Or.inl rfl, rfl⟩, trivial⟩⟩ (@z1l _ _ _ _ _ _ rfl T.b_range (@z0 _ _ _ _ _ (pv 1) z4 rfl) rfl) (fun _ _ _ _ => z1d) (fun _ _ _ _ => (@z10 _ _ _ _ _ _ _ _ _ _ G__law_name (hr.mono (by decide)) rfl (@z0 _ _ _ _ _ (pv 1) (@z0 _ _ _ _ _ (pv 0) z4 rfl) rfl) (by decide) rfl rfl)) (by intro _; rfl)))), ?_⟩
  walk_at "rd"
  refine ⟨⟨by omega, by omega⟩, ?_⟩
  rw [Int.toNat_natCast]
  refine z2j (zu (by omega)) (fun i acc H' => H' = H ∧ ∃ zs : List Str, acc = zs.map V.str ∧ zs.length = i ∧ NamesOf c zs) ⟨rfl, [], rfl, rfl, fun i z h => by cases h⟩ ?_ ?_ ?_
  ·rintro i acc H' ⟨-, zs, rfl, rfl, -⟩
   rw [List.length_map]
   exact Nat.le_refl _
  ·rintro Nn i acc H' hN hi ⟨rfl, zs, rfl, hl, hz⟩
   walk_at "rd"
   refine ⟨c, i, by simp, by omega, fun z h1 h2 => hN _ _ ⟨rfl, zs ++ [z], by simp, by simp [hl], ?_⟩⟩
   intro j y hy
   by_cases hj : j < zs.length
   ·rw [List.getElem?_append_left hj] at hy
    exact hz j y hy
   ·have hj2 : j = i := by
     have := (List.getElem?_eq_some_iff.mp hy).1
     rw [List.length_append] at this
     have : j < zs.length + 1 := this
     omega
    subst hj2
    rw [List.getElem?_append_right (by omega), hl, Nat.sub_self] at hy
    have : y = z := by simpa using hy.symm
    rw [this]
    exact ⟨h1, h2⟩
  ·rintro acc H' ⟨rfl, zs, rfl, hl, hz⟩ p hp
   exact q p zs _ hl hz hp z5 (Same.upd hp)
theorem NamesOf.nd {c : Int} {zs : List Str} (h : NamesOf c zs) (hl : zs.length ≤ 8) : zs.Nodup := by
 refine List.pairwise_iff_getElem.mpr fun i j hi hj hij e => ?_
 have a := (h i _ (List.getElem?_eq_getElem hi)).1
 rw [e] at a
 have := a.ne (h j _ (List.getElem?_eq_getElem hj)).1 (by omega) (by omega)
 omega
theorem NamesOf.all {c : Int} {zs : List Str} (h : NamesOf c zs) : ∀ z ∈ zs, zr z = true := fun z m => by
 obtain ⟨i, hi⟩ := List.getElem?_of_mem m
 exact (h i z hi).2
theorem zcc {z : Str} (h : zr z = true) : z.length ≤ 8 := by
 unfold zr at h
 simp only [Bool.and_eq_true, decide_eq_true_eq] at h
 exact h.1.2
structure Nt where
 n : Int
 h : Str
 l : Str
 sh : Bool
 e : Int
deriving DecidableEq
def Nt.vals (x : Nt) : List V := [.int x.n, .str x.h, .str x.l, .bl x.sh, .int x.e]
abbrev NL := List (Addr × Nt)
def refs (L : NL) : List V := L.map fun q => V.ref q.1
structure NotesAt (H : Hp) (L : NL) : Prop where
 tu : ∀ q ∈ L, H q.1 = some (.tup q.2.vals)
 sm : ∀ q ∈ L, q.2.h.length ≤ 1000 ∧ q.2.l.length ≤ 1000
theorem NotesAt.mono {H H' : Hp} {L : NL} (h : NotesAt H L) (s : Same H H') : NotesAt H' L := ⟨fun q hq => s _ _ (h.tu q hq), h.sm⟩
theorem NotesAt.sub {H : Hp} {L L' : NL} (h : NotesAt H L) (s : ∀ q ∈ L', q ∈ L) : NotesAt H L' := ⟨fun q hq => h.tu q (s q hq), fun q hq => h.sm q (s q hq)⟩
theorem n1 : ¬ (("up" : Str) = "top") := by decide +kernel
theorem n2 : ¬ (("up" : Str) = "kept") := by decide +kernel
theorem n3 : ¬ (("top" : Str) = "kept") := by decide +kernel
def kf (u : Bool) (t : Int) (l : Addr) : List (Str × V) := [("up", .bl u), ("top", .int t), ("kept", .ref l)]
theorem zek (u : Bool) (t : Int) (l : Addr) : putF "kept" (.ref l) (putF "top" (.int t) (putF "up" (.bl u) [])) = kf u t l := by
 simp [putF, kf, n1, n2, n3]
structure KeeperAt (C : Addr) (H : Hp) (k : Addr) (u : Bool) (t : Int) (L : NL) : Prop where
 ob : ∃ dx l, H k = some (.ins C dx (kf u t l)) ∧ H l = some (.lst (refs L))
 nt : NotesAt H L
 len : L.length ≤ 1000
theorem KeeperAt.mono {C : Addr} {H H' : Hp} {k : Addr} {u : Bool} {t : Int} {L : NL} (h : KeeperAt C H k u t L) (s : Same H H') : KeeperAt C H' k u t L := by
 obtain ⟨⟨dx, l, h1, h2⟩, h3, h4⟩ := h
 exact ⟨⟨dx, l, s _ _ h1, s _ _ h2⟩, h3.mono s, h4⟩
def But (k : Addr) (H H' : Hp) : Prop := ∀ b o, H b = some o → b ≠ k → H' b = some o
theorem But.of {k : Addr} {H H' : Hp} (s : Same H H') : But k H H' := fun b o e _ => s b o e
def zbp (C : Addr) : Sp := fun vs H Q _ => ∃ (k dx : Addr), vs = [.ref k] ∧ H k = some (.ins C dx []) ∧ ∀ (H' : Hp), KeeperAt C H' k true 0 [] → (∃ dx l, H' k = some (.ins C dx (kf true 0 l)) ∧ H l = none) → But k H H' → Q .non H'
theorem z4p (F : KDef K C_Keeper "Keeper.__init__" z24 ["self"]) (T : Txt K mg C_Asleep C_Awake C_BadSetup C_Council C_Keeper C_PausesSpent C_Store C_World t_MOST_HOLDERS t_MOST_KEEPERS t_MOST_LOCKS t_MOST_NAMES t_MOST_PAUSES t_MOST_SIGNS t_MOST_STORES t_MOST_TIME t_NAME_SIGNS) : KHas P w K mg base 1 C_Keeper ["self"] (zbp C_Keeper) := by
 refine F.ok z4n (fun vs H Q E h => ?_) (fun f cdv A outer s H vs Q E hr h => ?_)
 ·obtain ⟨k, dx, rfl, _⟩ := h
  rfl
 ·obtain ⟨k, dx, rfl, hk, q⟩ := h
  refine ⟨_, (@z6 _ _ _ _ _ (@z13 _ _ _ _ _ _ _ _ (pv 0) z2o rfl) (@z6 _ _ _ _ _ (@z13 _ _ _ _ _ _ _ _ (pv 0) zb rfl) (@z9 _ _ _ (@z13 _ _ _ _ _ _ _ _ (pv 0) (@z1m _ _ _ _ z4) rfl)))), ?_⟩
  walk_at "rd"
  refine ⟨_, _, _, hk, T.cl_Keeper, T.n_Keeper_up, by decide, _, _, _, z5, T.cl_Keeper, T.n_Keeper_top, by show (1 : Nat) < 1000; decide, Nat.zero_le _, fun p hp => ?_⟩
  have nkp : k ≠ p := za z5 hp
  refine ⟨_, _, _, by rw [z7 nkp, z5], T.cl_Keeper, T.n_Keeper_kept, by simp [putF, n1], ?_⟩
  rw [zek]
  refine q _ ⟨⟨dx, p, z5, by rw [z7 nkp.symm, z5]; rfl⟩, ⟨by simp, by simp⟩, by simp⟩ ⟨dx, p, z5, ?_⟩ fun b o e nb => ?_
  ·rw [z7 nkp.symm, z7 nkp.symm] at hp
   exact hp
  have nbp : b ≠ p := fun z => by
   subst z
   rw [z7 nb, z7 nb, e] at hp
   cases hp
  rw [z7 nb, z7 nbp, z7 nb, z7 nb]
  exact e
theorem z9j (y : Str) (zs : List Str) : inV (.str y) (zs.map V.str) = decide (y ∈ zs) := by
 induction zs with
 | nil => rfl
 | cons a zs ih =>
  show (eqV (.str a) (.str y) || inV (.str y) (zs.map V.str)) = _
  rw [ih]
  show ((a == y) || decide (y ∈ zs)) = _
  by_cases h : a = y
  ·subst h; simp
  ·have h' : ¬ y = a := fun z => h z.symm
   simp [h, h']
def spCI (CC : Addr) : Sp := fun vs H Q _ => ∃ (c dx : Addr) (n : Nat), vs = [.ref c, .int n] ∧ n ≤ 100 ∧ H c = some (.ins CC dx []) ∧ ∀ (H' : Hp), (∃ fs, H' c = some (.ins CC dx fs)) → (∀ b o, H b = some o → b ≠ c → H' b = some o) → Q .non H'
theorem z4b (F : KDef K C_Council "Council.__init__" z1z ["self", "many"]) (T : Txt K mg C_Asleep C_Awake C_BadSetup C_Council C_Keeper C_PausesSpent C_Store C_World t_MOST_HOLDERS t_MOST_KEEPERS t_MOST_LOCKS t_MOST_NAMES t_MOST_PAUSES t_MOST_SIGNS t_MOST_STORES t_MOST_TIME t_NAME_SIGNS) (G_Keeper___init__ : KHas P w K mg base 1 C_Keeper ["self"] (zbp C_Keeper)) : KHas P w K mg base 3 C_Council ["self", "many"] (spCI C_Council) := by
 refine F.ok z4a (fun vs H Q E h => ?_) (fun f cdv A outer s H vs Q E hr h => ?_)
 ·obtain ⟨c, dx, n, rfl, _⟩ := h
  rfl
 ·obtain ⟨c, dx, n, rfl, hn, hc, q⟩ := h
  refine ⟨_, (@z6 _ _ _ _ _ (@z13 _ _ _ _ _ _ _ _ (pv 0) (@z1e _ _ "place" ([]) ([]) _ _ _ _ _ _ _ _ rfl ⟨rfl, by decide +kernel, by decide +kernel, rfl, zw rfl, by decide +kernel, trivial⟩ (@z1l _ _ _ _ _ _ rfl T.b_range (@z0 _ _ _ _ _ (pv 1) z4 rfl) rfl) (fun _ _ _ _ => z1d) (fun _ _ _ _ => (@z9a _ _ _ _ _ _ _ _ G_Keeper___init__ (hr.mono (by decide)) rfl T.g_Keeper (by decide))) (by intro _; rfl)) rfl) (@z9 _ _ _ (@z13 _ _ _ _ _ _ _ _ (pv 0) (@zi _ _ _ _ _ _ _ _ z1j (@zi _ _ _ _ _ _ _ _ z22 (@z8 _ _ _ _ _ _ _ _ _ zh rfl T.b_len (by decide +kernel) (@z0 _ _ _ _ _ (@z16 _ _ _ _ _ (pv 0) rfl) z4 rfl) (by decide) (by decide) rfl rfl) zb) zb) rfl))), ?_⟩
  walk_at "rd"
  refine ⟨⟨by omega, by omega⟩, ?_⟩
  rw [Int.toNat_natCast]
  refine z2j (zu (by omega)) (fun i acc H' => acc.length = i ∧ Same H H') ⟨rfl, Same.refl _⟩ ?_ ?_ ?_
  ·rintro i acc H' ⟨rfl, -⟩
   exact Nat.le_refl _
  ·rintro Nn i acc H' hN hi ⟨hl, sH⟩
   walk_at "rd"
   intro x d hx hd hne
   refine ⟨x, d, rfl, z5, fun H3 hk3 hz3 hb3 => ⟨rfl, hN _ _ ⟨by simp [hl], sH.trans fun b o e => ?_⟩⟩⟩
   have n1 : b ≠ x := za e hx
   have n2 : b ≠ d := za e hd
   exact hb3 b o (by rw [z7 n1, z7 n2]; exact e) n1
  ·rintro acc H' ⟨hl, sH⟩ p hp
   have u := Same.upd (o := .lst acc) hp
   have gp : upd H' p (.lst acc) p = some (.lst acc) := z5
   have sp := sH.trans u
   generalize upd H' p (.lst acc) = H1 at u gp sp ⊢
   have ncp : p ≠ c := fun z => by
    have := sp _ _ hc
    rw [← z, gp] at this
    cases this
   refine ⟨_, _, _, sp _ _ hc, T.cl_Council, T.n_Council_keepers, by decide, _, _, _, z5, T.cl_Council, T.n_Council_keepers, _, rfl, _, rfl, acc, .inl (SqL.of (by rw [z7 ncp]; exact gp)), cdiv (by decide) (by decide), _, _, _, z5, T.cl_Council, T.n_Council_most, by show (1 : Nat) < 1000; decide, ?_⟩
   refine q _ ⟨_, z5⟩ fun b o e nb => ?_
   rw [z7 nb, z7 nb]
   exact sp _ _ e
def spSI (C : Addr) : Sp := fun vs H Q _ => ∃ (k dx : Addr), vs = [.ref k] ∧ H k = some (.ins C dx []) ∧ ∀ (H' : Hp), (∃ l, H' k = some (.ins C dx [("top", .int 0), ("kept", .ref l)]) ∧ H' l = some (.lst []) ∧ H l = none) → (∀ b o, H b = some o → b ≠ k → H' b = some o) → Q .non H'
theorem z54 (F : KDef K C_Store "Store.__init__" z28 ["self"]) (T : Txt K mg C_Asleep C_Awake C_BadSetup C_Council C_Keeper C_PausesSpent C_Store C_World t_MOST_HOLDERS t_MOST_KEEPERS t_MOST_LOCKS t_MOST_NAMES t_MOST_PAUSES t_MOST_SIGNS t_MOST_STORES t_MOST_TIME t_NAME_SIGNS) : KHas P w K mg base 1 C_Store ["self"] (spSI C_Store) := by
 refine F.ok z51 (fun vs H Q E h => ?_) (fun f cdv A outer s H vs Q E hr h => ?_)
 ·obtain ⟨k, dx, rfl, _⟩ := h
  rfl
 ·obtain ⟨k, dx, rfl, hk, q⟩ := h
  refine ⟨_, (@z6 _ _ _ _ _ (@z13 _ _ _ _ _ _ _ _ (pv 0) zb rfl) (@z9 _ _ _ (@z13 _ _ _ _ _ _ _ _ (pv 0) (@z1m _ _ _ _ z4) rfl))), ?_⟩
  walk_at "rd"
  refine ⟨_, _, _, hk, T.cl_Store, T.n_Store_top, by decide, Nat.zero_le _, fun p hp => ?_⟩
  have nkp : k ≠ p := za z5 hp
  refine ⟨_, _, _, by rw [z7 nkp, z5], T.cl_Store, T.n_Store_kept, by show (1 : Nat) < 1000; decide, ?_⟩
  refine q _ ⟨p, z5, by rw [z7 nkp.symm, z5], ?_⟩ fun b o e nb => ?_
  ·rw [z7 nkp.symm] at hp
   exact hp
  ·have nbp : b ≠ p := fun z => by
    subst z
    rw [z7 nb, e] at hp
    cases hp
   rw [z7 nb, z7 nbp, z7 nb]
   exact e
theorem z5b : ∀ (zs D : List Str), (zs.foldl zv D).length ≤ D.length + zs.length
 | [], D => by simp
 | z :: zs, D => by
  have := z5b zs (zv D z)
  have h : (zv D z).length ≤ D.length + 1 := by
   unfold zv
   split
   ·omega
   ·simp
  rw [List.foldl_cons, List.length_cons]
  omega
theorem metFold_nodup : ∀ (zs D : List Str), D.Nodup → ((zs.foldl zv D).length = D.length + zs.length ↔ zs.Nodup ∧ ∀ z ∈ zs, z ∉ D)
 | [], D, _ => by simp
 | z :: zs, D, hD => by
  rw [List.foldl_cons, List.length_cons, List.nodup_cons]
  by_cases h : z ∈ D
  ·have e : zv D z = D := by unfold zv; rw [if_pos h]
   rw [e]
   have := z5b zs D
   constructor
   ·intro x; omega
   ·rintro ⟨-, x⟩; exact absurd h (x z (List.mem_cons_self ..))
  ·have e : zv D z = D ++ [z] := by unfold zv; rw [if_neg h]
   rw [e]
   have ih := metFold_nodup zs (D ++ [z]) (by
    rw [List.nodup_append]
    exact ⟨hD, by simp, fun a ha b hb => by rw [List.mem_singleton.mp hb]; rintro rfl; exact h ha⟩)
   rw [List.length_append, List.length_singleton] at ih
   have e2 : D.length + (zs.length + 1) = D.length + 1 + zs.length := by omega
   rw [e2, ih]
   constructor
   ·rintro ⟨a, b⟩
    refine ⟨⟨fun m => b z m (by simp), a⟩, fun y hy => ?_⟩
    rcases List.mem_cons.mp hy with rfl | hy
    ·exact h
    ·exact fun m => b y hy (List.mem_append_left _ m)
   ·rintro ⟨⟨a, b⟩, c⟩
    refine ⟨b, fun y hy m => ?_⟩
    rcases List.mem_append.mp m with m | m
    ·exact c y (List.mem_cons_of_mem _ hy) m
    ·rw [List.mem_singleton.mp m] at hy; exact a hy
theorem metAll_nodup (zs : List Str) : (z1b zs).length = zs.length ↔ zs.Nodup := by
 have := metFold_nodup zs [] List.nodup_nil
 unfold z1b
 simpa using this
def z8b : Sp := fun vs H Q _ => ∃ (p : Addr) (zs : List Str) (lo hi : Int), vs = [.ref p, .int lo, .int hi] ∧ H p = some (.lst (zs.map V.str)) ∧ zs.length ≤ 100 ∧ z4u H Q (.bl (decide (lo ≤ (zs.length : Int)) && decide ((zs.length : Int) ≤ hi) && decide (zs.Nodup)))
theorem z7b (F : Def K mg "all_differ" z35 ["texts", "least", "most"]) (T : Txt K mg C_Asleep C_Awake C_BadSetup C_Council C_Keeper C_PausesSpent C_Store C_World t_MOST_HOLDERS t_MOST_KEEPERS t_MOST_LOCKS t_MOST_NAMES t_MOST_PAUSES t_MOST_SIGNS t_MOST_STORES t_MOST_TIME t_NAME_SIGNS) : Has P w K mg base 1 "all_differ" ["texts", "least", "most"] (z8b) := by
 refine F.ok z75 (fun vs H Q E h => ?_) (fun f cdv A outer s H vs Q E hr h => ?_)
 ·obtain ⟨p, zs, lo, hi, rfl, _⟩ := h
  rfl
 ·obtain ⟨p, zs, lo, hi, rfl, hp, hl, q⟩ := h
  refine ⟨_, (@z9 _ _ _ (@zg _ _ _ _ (@z1i _ _ _ _ _ _ _ (@z5e _ _ _ _ _ _ _ _ _ _ _ _ z2z z2z (pv 1) (@z8 _ _ _ _ _ _ _ _ _ zh rfl T.b_len (by decide +kernel) (@z0 _ _ _ _ _ (pv 0) z4 rfl) (by decide) (by decide) rfl rfl) (pv 2) (by with_unfolding_all rfl)) (@z1h _ _ _ _ _ (@z14 _ _ _ _ _ _ _ _ z12 (@z8 _ _ _ _ _ _ _ _ _ z81 rfl T.b_len (by decide +kernel) (@z0 _ _ _ _ _ (@z1p _ _ _ _ _ _ _ _ _ (zbl rfl) rfl T.b_set (by decide +kernel) (@z0 _ _ _ _ _ (pv 0) z4 rfl) (by decide) (by decide) rfl rfl) z4 rfl) (by decide) (by decide) rfl rfl) (@z8 _ _ _ _ _ _ _ _ _ zh rfl T.b_len (by decide +kernel) (@z0 _ _ _ _ _ (pv 0) z4 rfl) (by decide) (by decide) rfl rfl) (zj _)))))), ?_⟩
  walk_at "rd"
  refine ⟨_, .inl (SqL.of hp), ?_⟩
  rw [List.length_map]
  refine ite2 (fun h1 => ?_) (fun h1 => ?_)
  ·have h1 : lo ≤ (zs.length : Int) := of_decide_eq_true h1
   refine ite2 (fun h2 => ?_) (fun h2 => ?_)
   ·have h2 : (zs.length : Int) ≤ hi := of_decide_eq_true h2
    refine ⟨zs, SqL.of hp, by show zs.length + 1 < 4096; omega, fun d hd => ⟨_, z5, _, .inl (SqL.of ((Same.upd hd) _ _ hp)), ?_⟩⟩
    have e := q _ (Same.upd (o := tso P w d (z1b zs)) hd)
    rw [decide_eq_true h1, decide_eq_true h2, Bool.true_and, Bool.true_and] at e
    rw [List.length_map]
    have e2 : decide (((z1b zs).length : Int) = (zs.length : Int)) = decide zs.Nodup := by
     rw [Bool.eq_iff_iff, decide_eq_true_eq, decide_eq_true_eq, ← metAll_nodup zs]
     omega
    rw [e2]
    exact e
   ·have e := q H (Same.refl _)
    rw [Bool.eq_false_iff.mpr h2, Bool.and_false, Bool.false_and] at e
    exact e
  ·have e := q H (Same.refl _)
   rw [Bool.eq_false_iff.mpr h1, Bool.false_and, Bool.false_and] at e
   exact e
def z2f (k : Int) (hs ls ss ts : List Str) : Bool :=
  [decide (1 ≤ k) && decide (k ≤ 5), decide ((1 : Int) ≤ (hs.length : Int)) && decide ((hs.length : Int) ≤ 8) && decide hs.Nodup, decide ((1 : Int) ≤ (ls.length : Int)) && decide ((ls.length : Int) ≤ 10) && decide ls.Nodup,
   decide ((0 : Int) ≤ (ss.length : Int)) && decide ((ss.length : Int) ≤ 10) && decide ss.Nodup, decide ((0 : Int) ≤ (ts.length : Int)) && decide ((ts.length : Int) ≤ 4) && decide ts.Nodup,
   (hs.map zr).all id, (ts.map zr).all id, (ls.map z20).all id, (ss.map fun z => decide (z ∈ ls)).all id].all id
def z5c : Sp := fun vs H Q _ => ∃ (k : Int) (a b c d : Addr) (hs ls ss ts : List Str), vs = [.int k, .ref a, .ref b, .ref c, .ref d] ∧ H a = some (.lst (hs.map V.str)) ∧ H b = some (.lst (ls.map V.str)) ∧ H c = some (.lst (ss.map V.str)) ∧ H d = some (.lst (ts.map V.str)) ∧
 hs.length ≤ 100 ∧ ls.length ≤ 100 ∧ ss.length ≤ 100 ∧ ts.length ≤ 100 ∧ (∀ z ∈ hs, z.length ≤ 1000) ∧ (∀ z ∈ ls, z.length ≤ 1000) ∧ (∀ z ∈ ts, z.length ≤ 1000) ∧ z4u H Q (.bl (z2f k hs ls ss ts))
theorem z7c (F : Def K mg "good_setup" z36 ["keepers", "holders", "locks", "shared", "stores"]) (T : Txt K mg C_Asleep C_Awake C_BadSetup C_Council C_Keeper C_PausesSpent C_Store C_World t_MOST_HOLDERS t_MOST_KEEPERS t_MOST_LOCKS t_MOST_NAMES t_MOST_PAUSES t_MOST_SIGNS t_MOST_STORES t_MOST_TIME t_NAME_SIGNS) (G_good_name : Has P w K mg base 1 "good_name" ["text"] (z86)) (G_good_path : Has P w K mg base 2 "good_path" ["text"] (z65)) (G_all_differ : Has P w K mg base 1 "all_differ" ["texts", "least", "most"] (z8b)) : Has P w K mg base 3 "good_setup" ["keepers", "holders", "locks", "shared", "stores"] (z5c) := by
 refine F.ok z76 (fun vs H Q E h => ?_) (fun f cdv A outer s H vs Q E hr h => ?_)
 ·obtain ⟨k, a, b, c, d, hs, ls, ss, ts, rfl, _⟩ := h
  rfl
 ·obtain ⟨k, a, b, c, d, hs, ls, ss, ts, rfl, ha, hb, hc, hd, l1, l2, l3, l4, n1, n2, n3, q⟩ := h
  have hu := hr.units0
  refine ⟨_, (@z9 _ _ _ (@zg _ _ _ _ (@z8 _ _ _ _ _ _ _ _ _ (zy rfl) rfl T.b_all (by decide +kernel) (@z0 _ _ _ _ _ (@z1m _ _ _ _ (@z0 _ _ _ _ _ (@z5e _ _ _ _ _ _ _ _ _ _ _ _ z2z z2z zb (pv 0) (@z1r _ _ (.int 5) _ _ rfl T.c_MOST_KEEPERS ⟨_, rfl⟩ (by decide)) (by with_unfolding_all rfl)) (@z0 _ _ _ _ _ (@z10 _ _ _ _ _ _ _ _ _ _ G_all_differ (hr.mono (by decide)) rfl (@z0 _ _ _ _ _ (pv 1) (@z0 _ _ _ _ _ zb (@z0 _ _ _ _ _ (@z1r _ _ (.int 8) _ _ rfl T.c_MOST_HOLDERS ⟨_, rfl⟩ (by decide)) z4 rfl) rfl) rfl) (by decide) rfl rfl) (@z0 _ _ _ _ _ (@z10 _ _ _ _ _ _ _ _ _ _ G_all_differ (hr.mono (by decide)) rfl (@z0 _ _ _ _ _ (pv 2) (@z0 _ _ _ _ _ zb (@z0 _ _ _ _ _ (@z1r _ _ (.int 10) _ _ rfl T.c_MOST_LOCKS ⟨_, rfl⟩ (by decide)) z4 rfl) rfl) rfl) (by decide) rfl rfl) (@z0 _ _ _ _ _ (@z10 _ _ _ _ _ _ _ _ _ _ G_all_differ (hr.mono (by decide)) rfl (@z0 _ _ _ _ _ (pv 3) (@z0 _ _ _ _ _ zb (@z0 _ _ _ _ _ (@z1r _ _ (.int 10) _ _ rfl T.c_MOST_LOCKS ⟨_, rfl⟩ (by decide)) z4 rfl) rfl) rfl) (by decide) rfl rfl) (@z0 _ _ _ _ _ (@z10 _ _ _ _ _ _ _ _ _ _ G_all_differ (hr.mono (by decide)) rfl (@z0 _ _ _ _ _ (pv 4) (@z0 _ _ _ _ _ zb (@z0 _ _ _ _ _ (@z1r _ _ (.int 4) _ _ rfl T.c_MOST_STORES ⟨_, rfl⟩ (by decide)) z4 rfl) rfl) rfl) (by decide) rfl rfl) (@z0 _ _ _ _ _ (@z8 _ _ _ _ _ _ _ _ _ (zy rfl) rfl T.b_all (by decide +kernel) (@z0 _ _ _ _ _ (@z1e _ _ "name" ([]) ([]) _ _ _ _ _ _ _ _ rfl ⟨rfl, by decide +kernel, by decide +kernel, rfl, zw rfl, by decide +kernel, trivial⟩ (@z2c _ _ _ _ (pv 1)) (fun _ _ _ _ => z1d) (fun _ _ _ _ => (@z10 _ _ _ _ _ _ _ _ _ _ G_good_name (hr.mono (by decide)) rfl (@z0 _ _ _ _ _ (pv 0) z4 rfl) (by decide) rfl rfl)) (by intro _; rfl)) z4 rfl) (by decide) (by decide) rfl rfl) (@z0 _ _ _ _ _ (@z8 _ _ _ _ _ _ _ _ _ (zy rfl) rfl T.b_all (by decide +kernel) (@z0 _ _ _ _ _ (@z1e _ _ "name" ([]) ([]) _ _ _ _ _ _ _ _ rfl ⟨rfl, by decide +kernel, by decide +kernel, rfl, zw rfl, by decide +kernel, trivial⟩ (@z2c _ _ _ _ (pv 4)) (fun _ _ _ _ => z1d) (fun _ _ _ _ => (@z10 _ _ _ _ _ _ _ _ _ _ G_good_name (hr.mono (by decide)) rfl (@z0 _ _ _ _ _ (pv 0) z4 rfl) (by decide) rfl rfl)) (by intro _; rfl)) z4 rfl) (by decide) (by decide) rfl rfl) (@z0 _ _ _ _ _ (@z8 _ _ _ _ _ _ _ _ _ (zy rfl) rfl T.b_all (by decide +kernel) (@z0 _ _ _ _ _ (@z1e _ _ "path" ([]) ([]) _ _ _ _ _ _ _ _ rfl ⟨rfl, by decide +kernel, by decide +kernel, rfl, zw rfl, by decide +kernel, trivial⟩ (@z2c _ _ _ _ (pv 2)) (fun _ _ _ _ => z1d) (fun _ _ _ _ => (@z10 _ _ _ _ _ _ _ _ _ _ G_good_path (hr.mono (by decide)) rfl (@z0 _ _ _ _ _ (pv 0) z4 rfl) (by decide) rfl rfl)) (by intro _; rfl)) z4 rfl) (by decide) (by decide) rfl rfl) (@z0 _ _ _ _ _ (@z8 _ _ _ _ _ _ _ _ _ (zy rfl) rfl T.b_all (by decide +kernel) (@z0 _ _ _ _ _ (@z1e _ _ "path" (["locks"]) ([2]) _ _ _ _ _ _ _ _ rfl ⟨rfl, by decide +kernel, by decide +kernel, rfl, zw rfl, by decide +kernel, ⟨⟨rfl, Or.inl rfl, rfl⟩, trivial⟩⟩ (@z2c _ _ _ _ (pv 3)) (fun _ _ _ _ => z1d) (fun _ _ _ _ => (@z14 _ _ _ _ _ _ _ _ (z8p (K := K)) (pv 0) (pv 1) (by with_unfolding_all rfl))) (by intro _; rfl)) z4 rfl) (by decide) (by decide) rfl rfl) z4 rfl) rfl) rfl) rfl) rfl) rfl) rfl) rfl) rfl)) z4 rfl) (by decide) (by decide) rfl rfl))), ?_⟩
  walk_at "rd"
  have bl : ∀ (a : Addr) (zs : List Str) (H0 : Hp) (f : Str → Bool) (te : TE) (σ : St) (R : VK) (js : List Nat), H0 a = some (.lst (zs.map V.str)) → zs.length ≤ 100 →
    (∀ (z : Str) (H1 : Hp) (R1 : VK), z ∈ zs → Same H0 H1 → (∀ H2, Same H1 H2 → R1 (.bl (f z)) H2) → te (some (.str z) :: capt σ js) H1 R1) →
    (∀ (p : Addr) (H1 : Hp), SqL K H1 p (((zs.map f).map V.bl)) → Same H0 H1 → R (.ref p) H1) → z1x (Itl K a) tYes te js σ H0 R := fun a zs H0 f te σ R js hz lz hte hR => by
   refine z2t (xs := zs.map V.str) (by rw [List.length_map]; exact zu (by omega)) (fun i acc H' => acc = ((zs.take i).map f).map V.bl ∧ Same H0 H') ⟨rfl, Same.refl _⟩ ?_ ?_ ?_ ?_
   ·rintro i acc H' ⟨rfl, -⟩
    rw [List.length_map, List.length_map, List.length_take]
    omega
   ·rintro i acc H' ⟨-, sm⟩
    exact SqL.of (sm _ _ hz)
   ·rintro Nn i acc H' x hN hx hi ⟨rfl, sm⟩
    rw [List.getElem?_map] at hx
    cases e : zs[i]? with
    | none => rw [e] at hx; cases hx
    | some z =>
    rw [e] at hx
    cases hx
    simp only [tYes, if_true]
    exact hte z H' _ (List.mem_of_getElem? e) sm fun H2 s2 => hN _ _ ⟨by rw [List.take_succ, e]; simp, sm.trans s2⟩
   ·rintro acc H' ⟨rfl, sm⟩ p hp
    rw [List.length_map, List.take_length]
    exact hR p _ (SqL.of z5) (sm.trans (Same.upd hp))
  refine ite2 (fun h1 => ?_) (fun h1 => ?_)
  all_goals
   refine ⟨a, hs, 1, 8, rfl, ha, l1, fun H1 s1 => ⟨b, ls, 1, 10, rfl, s1 _ _ hb, l2, fun H2 s2 => ⟨c, ss, 0, 10, rfl, s2 _ _ (s1 _ _ hc), l3, fun H3 s3 => ⟨d, ts, 0, 4, rfl, s3 _ _ (s2 _ _ (s1 _ _ hd)), l4, fun H4 s4 => ?_⟩⟩⟩⟩
   have s14 := ((s1.trans s2).trans s3).trans s4
   refine ⟨⟨_, SqL.of (s14 _ _ ha)⟩, bl a hs H4 zr _ _ _ _ (s14 _ _ ha) l1 (fun z H5 R1 hz s5 hR => ?_) fun p5 H5 g5 s5 => ⟨p5, rfl, _, g5, ⟨_, SqL.of (s5 _ _ (s14 _ _ hd))⟩, ?_⟩⟩
   ·walk_at "rd"
    exact ⟨z, rfl, n1 z hz, fun H6 s6 => hR _ s6⟩
   have s15 := s14.trans s5
   refine bl d ts H5 zr _ _ _ _ (s15 _ _ hd) l4 (fun z H6 R1 hz s6 hR => ?_) fun p6 H6 g6 s6 => ⟨p6, rfl, _, g6, ⟨_, SqL.of (s6 _ _ (s15 _ _ hb))⟩, ?_⟩
   ·walk_at "rd"
    exact ⟨z, rfl, n3 z hz, fun H7 s7 => hR _ s7⟩
   have s16 := s15.trans s6
   refine bl b ls H6 z20 _ _ _ _ (s16 _ _ hb) l2 (fun z H7 R1 hz s7 hR => ?_) fun p7 H7 g7 s7 => ⟨p7, rfl, _, g7, ⟨_, SqL.of (s7 _ _ (s16 _ _ hc))⟩, ?_⟩
   ·walk_at "rd"
    exact ⟨z, rfl, n2 z hz, fun H8 s8 => hR _ s8⟩
   have s17 := s16.trans s7
   refine bl c ss H7 (fun z => decide (z ∈ ls)) _ _ _ _ (s17 _ _ hc) l3 (fun z H8 R1 hz s8 hR => ?_) fun p8 H8 g8 s8 => ⟨p8, rfl, _, g8, zu (by decide), fun p9 hp9 => ?_⟩
   ·walk_at "rd"
    refine ⟨_, _, rfl, .inl (SqL.of (s8 _ _ (s17 _ _ hb))), rfl, z7v _, ?_⟩
    rw [if_neg Bool.false_ne_true, z9j]
    exact hR _ (Same.refl _)
   have e := q
   unfold z2f at e
   have sF := s17.trans s8
  ·have h1 : 1 ≤ k := of_decide_eq_true h1
   rw [decide_eq_true h1, Bool.true_and] at e
   exact ⟨_, SqL.of (by rw [z5]; rfl), e _ (sF.trans (Same.upd hp9))⟩
  ·rw [Bool.eq_false_iff.mpr h1, Bool.false_and] at e
   exact ⟨_, SqL.of (by rw [z5]; rfl), e _ (sF.trans (Same.upd hp9))⟩
def Bt (x : Addr) (H H' : Hp) : Prop := ∀ b o, H b = some o → b ≠ x → H' b = some o
structure WB (CW x dx : Addr) (H0 : Hp) (n : Nat) (fs : List (Str × V)) (L : List (Addr × HO)) (H : Hp) : Prop where
 ix : H x = some (.ins CW dx fs)
 len : fs.length ≤ n
 keep : Bt x H0 H
 objs : ∀ q ∈ L, H q.1 = some q.2 ∧ H0 q.1 = none ∧ q.1 ≠ x
 nd : (L.map (·.1)).Nodup
theorem WB.put {CW x dx : Addr} {H0 H : Hp} {n : Nat} {fs : List (Str × V)} {L : List (Addr × HO)} (B : WB CW x dx H0 n fs L H) (f : Str) (v : V) : WB CW x dx H0 (n + 1) (putF f v fs) L (upd H x (.ins CW dx (putF f v fs))) :=
 ⟨z5, by have := z3h f v fs; have := B.len; omega, fun b o e n => by rw [z7 n]; exact B.keep b o e n, fun q m => by
  obtain ⟨h1, h2, h3⟩ := B.objs q m
  exact ⟨by rw [z7 h3]; exact h1, h2, h3⟩, B.nd⟩
theorem WB.step {CW x dx : Addr} {H0 H H' : Hp} {n : Nat} {fs : List (Str × V)} {L : List (Addr × HO)} (B : WB CW x dx H0 n fs L H) (s : Same H H') : WB CW x dx H0 n fs L H' :=
 ⟨s _ _ B.ix, B.len, fun b o e n => s _ _ (B.keep b o e n), fun q m => ⟨s _ _ (B.objs q m).1, (B.objs q m).2⟩, B.nd⟩
theorem WB.new {CW x dx : Addr} {H0 H : Hp} {n : Nat} {fs : List (Str × V)} {L : List (Addr × HO)} (B : WB CW x dx H0 n fs L H) {p : Addr} (hp : H p = none) (o : HO) (ha : ∀ o, H0 x = some o → True) (h0 : ∃ o, H0 x = some o) : WB CW x dx H0 n fs ((p, o) :: L) (upd H p o) := by
 have B' := B.step (Same.upd (o := o) hp)
 have npx : p ≠ x := fun z => by rw [z, B.ix] at hp; cases hp
 have n0 : H0 p = none := by
  cases e : H0 p with
  | none => rfl
  | some u => rw [B.keep p u e npx] at hp; cases hp
 refine ⟨B'.ix, B'.len, B'.keep, fun q m => ?_, List.nodup_cons.mpr ⟨fun m => ?_, B.nd⟩⟩
 ·rcases List.mem_cons.mp m with rfl | m
  ·exact ⟨z5, n0, npx⟩
  ·exact B'.objs q m
 ·obtain ⟨q, mq, e⟩ := List.mem_map.mp m
  have := (B.objs q mq).1
  rw [e] at this
  rw [show H (p, o).1 = none from hp] at this
  cases this
theorem WB.at {CW x dx : Addr} {H0 H : Hp} {n : Nat} {fs : List (Str × V)} {L : List (Addr × HO)} (_ : WB CW x dx H0 n fs L H) : ∃ G, G = H := ⟨_, rfl⟩
def wf (now : Int) (c lh ll lsh st ca wa as : Addr) (n : Int) (lo en : Addr) : List (Str × V) :=
 [("now", .int now), ("council", .ref c), ("holders", .ref lh), ("locks", .ref ll), ("shareable", .ref lsh), ("stores", .ref st), ("carries", .ref ca), ("waiting", .ref wa), ("asleep_since", .ref as), ("pauses", .int n), ("logged", .ref lo), ("ends", .ref en)]
def spWI (CW : Addr) : Sp := fun vs H Q E => ∃ (x dx : Addr) (k : Nat) (a b c d : Addr) (hs ls ss ts : List Str), vs = [.ref x, .int k, .ref a, .ref b, .ref c, .ref d] ∧ H x = some (.ins CW dx []) ∧ H a = some (.lst (hs.map V.str)) ∧ H b = some (.lst (ls.map V.str)) ∧ H c = some (.lst (ss.map V.str)) ∧ H d = some (.lst (ts.map V.str)) ∧
 hs.length ≤ 100 ∧ ls.length ≤ 100 ∧ ss.length ≤ 100 ∧ ts.length ≤ 100 ∧ (∀ z ∈ hs, z.length ≤ 1000) ∧ (∀ z ∈ ls, z.length ≤ 1000) ∧ (∀ z ∈ ts, z.length ≤ 1000) ∧ z2f k hs ls ss ts = true ∧
 ∀ (H' : Hp) (co lh ll lsh st ca wa as lo en : Addr) (dd : List (Key × V)), H' x = some (.ins CW dx (wf 0 co lh ll lsh st ca wa as 0 lo en)) →
  (∀ q ∈ [(en, HO.dK []), (lo, .lst []), (as, .dK []), (wa, .lst []), (ca, .dK []), (st, .dK dd), (lsh, .lst (ss.map V.str)), (ll, .lst (ls.map V.str)), (lh, .lst (hs.map V.str))], H' q.1 = some q.2 ∧ H q.1 = none ∧ q.1 ≠ x) → [en, lo, as, wa, ca, st, lsh, ll, lh].Nodup → Bt x H H' → Q .non H'
theorem z55 (F : KDef K C_World "World.__init__" z29 ["self", "keepers", "holders", "locks", "shared", "stores"]) (T : Txt K mg C_Asleep C_Awake C_BadSetup C_Council C_Keeper C_PausesSpent C_Store C_World t_MOST_HOLDERS t_MOST_KEEPERS t_MOST_LOCKS t_MOST_NAMES t_MOST_PAUSES t_MOST_SIGNS t_MOST_STORES t_MOST_TIME t_NAME_SIGNS) (G_Council___init__ : KHas P w K mg base 3 C_Council ["self", "many"] (spCI C_Council)) (G_Store___init__ : KHas P w K mg base 1 C_Store ["self"] (spSI C_Store)) (G_good_setup : Has P w K mg base 3 "good_setup" ["keepers", "holders", "locks", "shared", "stores"] (z5c)) : KHasX P w K mg base (CX1 P w) 5 C_World ["self", "keepers", "holders", "locks", "shared", "stores"] (spWI C_World) := by
 refine F.okx z52 (fun vs H Q E h => ?_) (fun f cdv A outer s H vs Q E hr h => ?_)
 ·obtain ⟨x, dx, k, a, b, c, d, hs, ls, ss, ts, rfl, _⟩ := h
  rfl
 ·obtain ⟨x, dx, k, a, b, c, d, hs, ls, ss, ts, rfl, hx, ha, hb, hc, hd, l1, l2, l3, l4, n1, n2, n3, h1, q⟩ := h
  have hu := hr.units0
  have hu2 := z4t hr
  refine ⟨_, (@z6 _ _ _ _ _ (@zn _ _ _ _ _ _ _ _ (@z5n _ _ _ _ (@z1u _ _ _ (@z10 _ _ _ _ _ _ _ _ _ _ G_good_setup (hr.mono (by decide)) rfl (@z0 _ _ _ _ _ (pv 1) (@z0 _ _ _ _ _ (pv 2) (@z0 _ _ _ _ _ (pv 3) (@z0 _ _ _ _ _ (pv 4) (@z0 _ _ _ _ _ (pv 5) z4 rfl) rfl) rfl) rfl) rfl) (by decide) rfl rfl) (by intro _; rfl))) (@z9 _ _ _ (@z40 _ _ _ _ _ _ _ _ _ _ _ _ _ _ z3d rfl PySem.F.excBase_ValueError T.x_BadSetup rfl T.g_BadSetup (@z0 _ _ _ _ _ zl z4 rfl) rfl rfl (by decide))) zf) (@z6 _ _ _ _ _ (@z13 _ _ _ _ _ _ _ _ (pv 0) zb rfl) (@z6 _ _ _ _ _ (@z13 _ _ _ _ _ _ _ _ (pv 0) (@z9d _ _ _ _ _ _ _ _ _ _ _ G_Council___init__ (hr.mono (by decide)) rfl T.g_Council (@z0 _ _ _ _ _ (pv 1) z4 rfl) (by decide) rfl rfl) rfl) (@z6 _ _ _ _ _ (@z13 _ _ _ _ _ _ _ _ (pv 0) (@z1p _ _ _ _ _ _ _ _ _ z1v rfl T.b_list (by decide +kernel) (@z0 _ _ _ _ _ (pv 2) z4 rfl) (by decide) (by decide) rfl rfl) rfl) (@z6 _ _ _ _ _ (@z13 _ _ _ _ _ _ _ _ (pv 0) (@z1p _ _ _ _ _ _ _ _ _ z1v rfl T.b_list (by decide +kernel) (@z0 _ _ _ _ _ (pv 3) z4 rfl) (by decide) (by decide) rfl rfl) rfl) (@z6 _ _ _ _ _ (@z13 _ _ _ _ _ _ _ _ (pv 0) (@z1p _ _ _ _ _ _ _ _ _ z1v rfl T.b_list (by decide +kernel) (@z0 _ _ _ _ _ (pv 4) z4 rfl) (by decide) (by decide) rfl rfl) rfl) (@z6 _ _ _ _ _ (@z13 _ _ _ _ _ _ _ _ (pv 0) (@z1p _ _ _ _ _ _ _ _ _ (z62 rfl) rfl T.b_dict (by decide +kernel) (@z0 _ _ _ _ _ (@z1e _ _ "name" ([]) ([]) _ _ _ _ _ _ _ _ rfl ⟨rfl, by decide +kernel, by decide +kernel, rfl, zw rfl, by decide +kernel, trivial⟩ (@z2c _ _ _ _ (pv 5)) (fun _ _ _ _ => z1d) (fun _ _ _ _ => (@z17 _ _ _ _ _ (@z0 _ _ _ _ _ (pv 0) (@z0 _ _ _ _ _ (@z9a _ _ _ _ _ _ _ _ G_Store___init__ (hr.mono (by decide)) rfl T.g_Store (by decide)) z4 rfl) rfl))) (by intro _; rfl)) z4 rfl) (by decide) (by decide) rfl rfl) rfl) (@z6 _ _ _ _ _ (@z13 _ _ _ _ _ _ _ _ (pv 0) z44 rfl) (@z6 _ _ _ _ _ (@z13 _ _ _ _ _ _ _ _ (pv 0) (@z1m _ _ _ _ z4) rfl) (@z6 _ _ _ _ _ (@z13 _ _ _ _ _ _ _ _ (pv 0) z44 rfl) (@z6 _ _ _ _ _ (@z13 _ _ _ _ _ _ _ _ (pv 0) zb rfl) (@z6 _ _ _ _ _ (@z13 _ _ _ _ _ _ _ _ (pv 0) (@z1m _ _ _ _ z4) rfl) (@z9 _ _ _ (@z13 _ _ _ _ _ _ _ _ (pv 0) z44 rfl)))))))))))))), ?_⟩
  walk_at "rd"
  refine ⟨k, a, b, c, d, hs, ls, ss, ts, rfl, ha, hb, hc, hd, l1, l2, l3, l4, n1, n2, n3, fun H1 s1 => ⟨_, rfl, ?_⟩⟩
  rw [h1]
  rw [if_neg (by decide)]
  have hk : 1 ≤ (k : Int) ∧ (k : Int) ≤ 5 := by
   unfold z2f at h1
   simp only [List.all_cons, Bool.and_eq_true, decide_eq_true_eq, id] at h1
   exact h1.1
  have na : a ≠ x := fun z => by rw [z, hx] at ha; cases ha
  have nb : b ≠ x := fun z => by rw [z, hx] at hb; cases hb
  have nc : c ≠ x := fun z => by rw [z, hx] at hc; cases hc
  have nd : d ≠ x := fun z => by rw [z, hx] at hd; cases hd
  have h0 : ∃ o, H x = some o := ⟨_, hx⟩
  have B : WB C_World x dx H 0 [] [] H1 := ⟨s1 _ _ hx, Nat.zero_le _, fun b o e _ => s1 b o e, fun q m => by simp at m, List.nodup_nil⟩
  refine ⟨_, _, _, B.ix, T.cl_World, T.n_World_now, by decide, fun xc dc g1 g2 ne => ?_⟩
  have B := B.put "now" (.int 0)
  obtain ⟨G2, hG⟩ := B.at
  rw [← hG] at B g1 g2 ⊢
  clear hG
  have B2 := B.step (Same.upd (o := .own xc) g2)
  have g1' : upd G2 dc (.own xc) xc = none := by rw [z7 (Ne.symm ne)]; exact g1
  have B3 := B2.step (Same.upd (o := .ins C_Council dc []) g1')
  refine ⟨xc, dc, k, rfl, by omega, z5, fun G3 hcc hk4 => ⟨rfl, ?_⟩⟩
  have B := B2.step (fun b o e => hk4 b o (by rw [z7 (za e g1')]; exact e) (za e g1'))
  refine ⟨_, _, _, B.ix, T.cl_World, T.n_World_council, by have := B.len; omega, ?_⟩
  have B := B.put "council" (.ref xc)
  obtain ⟨G, hG⟩ := B.at
  rw [← hG] at B ⊢
  clear hG
  refine ⟨_, .inl (SqL.of (B.keep _ _ ha na)), fun lh hlh => ?_⟩
  have B := B.new hlh (.lst (hs.map V.str)) (fun _ _ => trivial) h0
  obtain ⟨G, hG⟩ := B.at
  rw [← hG] at B ⊢
  clear hG
  refine ⟨_, _, _, B.ix, T.cl_World, T.n_World_holders, by have := B.len; omega, ?_⟩
  have B := B.put "holders" (.ref lh)
  obtain ⟨G, hG⟩ := B.at
  rw [← hG] at B ⊢
  clear hG
  refine ⟨_, .inl (SqL.of (B.keep _ _ hb nb)), fun ll hll => ?_⟩
  have B := B.new hll (.lst (ls.map V.str)) (fun _ _ => trivial) h0
  obtain ⟨G, hG⟩ := B.at
  rw [← hG] at B ⊢
  clear hG
  refine ⟨_, _, _, B.ix, T.cl_World, T.n_World_locks, by have := B.len; omega, ?_⟩
  have B := B.put "locks" (.ref ll)
  obtain ⟨G, hG⟩ := B.at
  rw [← hG] at B ⊢
  clear hG
  refine ⟨_, .inl (SqL.of (B.keep _ _ hc nc)), fun lsh hlsh => ?_⟩
  have B := B.new hlsh (.lst (ss.map V.str)) (fun _ _ => trivial) h0
  obtain ⟨G, hG⟩ := B.at
  rw [← hG] at B ⊢
  clear hG
  refine ⟨_, _, _, B.ix, T.cl_World, T.n_World_shareable, by have := B.len; omega, ?_⟩
  have B := B.put "shareable" (.ref lsh)
  obtain ⟨G10, hG⟩ := B.at
  rw [← hG] at B ⊢
  clear hG
  refine ⟨⟨_, SqL.of (B.keep _ _ hd nd)⟩, ?_⟩
  refine z2t (xs := ts.map V.str) (by rw [List.length_map]; exact zu (by omega)) (fun i acc H' => ∃ L : List (Addr × Key × V), acc = L.map (fun q => V.ref q.1) ∧ L.length = i ∧ (∀ q ∈ L, H' q.1 = some (.tup [kV q.2.1, q.2.2])) ∧ Same G10 H') ⟨[], rfl, rfl, by simp, Same.refl _⟩ ?_ ?_ ?_ ?_
  ·rintro i acc H' ⟨L, rfl, hl, -, -⟩
   rw [List.length_map, hl]
   omega
  ·rintro i acc H' ⟨L, -, -, -, sm⟩
   exact SqL.of (sm _ _ (B.keep _ _ hd nd))
  ·rintro Nn i acc H' y hN hy hi ⟨L, rfl, hl, hL, sm⟩
   rw [List.getElem?_map] at hy
   cases e : ts[i]? with
   | none => rw [e] at hy; cases hy
   | some z =>
   rw [e] at hy
   cases hy
   walk_at "rd"
   intro k0 d0 g1 g2 ne0
   refine ⟨k0, d0, rfl, z5, fun H3 _ hb3 => ⟨rfl, by decide, fun t0 ht0 => ?_⟩⟩
   have s3 : Same H' H3 := fun b o eb => by
    have m1 : b ≠ k0 := za eb g1
    have m2 : b ≠ d0 := za eb g2
    exact hb3 b o (by rw [z7 m1, z7 m2]; exact eb) m1
   have s4 := s3.trans (Same.upd (o := .tup [.str z, .ref k0]) ht0)
   refine hN _ _ ⟨L ++ [(t0, .inr z, .ref k0)], by rw [List.map_append]; rfl, by rw [List.length_append, hl]; rfl, fun q hq => ?_, sm.trans s4⟩
   rcases List.mem_append.mp hq with hq | hq
   ·exact s4 _ _ (hL q hq)
   ·rw [List.mem_singleton.mp hq]
    exact z5
  rintro acc H11 ⟨L, rfl, hl, hL, sm⟩ p hp
  have B := (B.step sm).step (Same.upd (o := .lst (L.map fun q => V.ref q.1)) hp)
  have hL' : ∀ q ∈ L, upd H11 p (.lst (L.map fun q => V.ref q.1)) q.1 = some (.tup [kV q.2.1, q.2.2]) := fun q hq => by
   have e := hL q hq
   rw [z7 (za e hp)]
   exact e
  refine ⟨p, rfl, L, SqL.of z5, hL', fun st hst => ?_⟩
  have B := B.new hst (.dK (z2w [] (L.map fun q => q.2))) (fun _ _ => trivial) h0
  obtain ⟨G, hG⟩ := B.at
  rw [← hG] at B ⊢
  clear hG
  refine ⟨_, _, _, B.ix, T.cl_World, T.n_World_stores, by have := B.len; omega, ?_⟩
  have B := B.put "stores" (.ref st)
  obtain ⟨G, hG⟩ := B.at
  rw [← hG] at B ⊢
  clear hG
  refine fun ca hca => ?_
  have B := B.new hca (.dK []) (fun _ _ => trivial) h0
  obtain ⟨G, hG⟩ := B.at
  rw [← hG] at B ⊢
  clear hG
  refine ⟨_, _, _, B.ix, T.cl_World, T.n_World_carries, by have := B.len; omega, ?_⟩
  have B := B.put "carries" (.ref ca)
  obtain ⟨G, hG⟩ := B.at
  rw [← hG] at B ⊢
  clear hG
  refine ⟨by decide, fun wa hwa => ?_⟩
  have B := B.new hwa (.lst []) (fun _ _ => trivial) h0
  obtain ⟨G, hG⟩ := B.at
  rw [← hG] at B ⊢
  clear hG
  refine ⟨_, _, _, B.ix, T.cl_World, T.n_World_waiting, by have := B.len; omega, ?_⟩
  have B := B.put "waiting" (.ref wa)
  obtain ⟨G, hG⟩ := B.at
  rw [← hG] at B ⊢
  clear hG
  refine fun as has => ?_
  have B := B.new has (.dK []) (fun _ _ => trivial) h0
  obtain ⟨G, hG⟩ := B.at
  rw [← hG] at B ⊢
  clear hG
  refine ⟨_, _, _, B.ix, T.cl_World, T.n_World_asleep_since, by have := B.len; omega, ?_⟩
  have B := B.put "asleep_since" (.ref as)
  obtain ⟨G, hG⟩ := B.at
  rw [← hG] at B ⊢
  clear hG
  refine ⟨_, _, _, B.ix, T.cl_World, T.n_World_pauses, by have := B.len; omega, ?_⟩
  have B := B.put "pauses" (.int 0)
  obtain ⟨G, hG⟩ := B.at
  rw [← hG] at B ⊢
  clear hG
  refine ⟨by decide, fun lo hlo => ?_⟩
  have B := B.new hlo (.lst []) (fun _ _ => trivial) h0
  obtain ⟨G, hG⟩ := B.at
  rw [← hG] at B ⊢
  clear hG
  refine ⟨_, _, _, B.ix, T.cl_World, T.n_World_logged, by have := B.len; omega, ?_⟩
  have B := B.put "logged" (.ref lo)
  obtain ⟨G, hG⟩ := B.at
  rw [← hG] at B ⊢
  clear hG
  refine fun en hen => ?_
  have B := B.new hen (.dK []) (fun _ _ => trivial) h0
  obtain ⟨G, hG⟩ := B.at
  rw [← hG] at B ⊢
  clear hG
  refine ⟨_, _, _, B.ix, T.cl_World, T.n_World_ends, by have := B.len; omega, ?_⟩
  have B := B.put "ends" (.ref en)
  obtain ⟨G, hG⟩ := B.at
  rw [← hG] at B ⊢
  clear hG
  exact q _ xc lh ll lsh st ca wa as lo en _ B.ix B.objs B.nd B.keep
def z3g (v : V) : Prop := (∃ i, v = .int i) ∨ (∃ z, v = .str z) ∨ (∃ b, v = .bl b)
def Alike (H : Hp) : Nat → V → V → Prop
 | 0, v, v' => v = v' ∧ z3g v
 | n + 1, v, v' => (v = v' ∧ z3g v) ∨ ∃ (a b : Addr) (xs ys : List V), v = .ref a ∧ v' = .ref b ∧ ((H a = some (.lst xs) ∧ H b = some (.lst ys)) ∨ (H a = some (.tup xs) ∧ H b = some (.tup ys))) ∧ xs.length = ys.length ∧ xs.length ≤ 1000 ∧
   ∀ (i : Nat) (x y : V), xs[i]? = some x → ys[i]? = some y → Alike H n x y
theorem Alike.mono {H H' : Hp} (s : Same H H') : ∀ {n : Nat} {v v' : V}, Alike H n v v' → Alike H' n v v'
 | 0, _, _, h => h
 | n + 1, _, _, .inl h => .inl h
 | n + 1, _, _, .inr ⟨a, b, xs, ys, e1, e2, h, hl, hz, k⟩ => .inr ⟨a, b, xs, ys, e1, e2, h.elim (fun z => .inl ⟨s _ _ z.1, s _ _ z.2⟩) (fun z => .inr ⟨s _ _ z.1, s _ _ z.2⟩), hl, hz, fun i x y hx hy => Alike.mono s (k i x y hx hy)⟩
theorem Alike.up {H : Hp} : ∀ {n : Nat} {v v' : V}, Alike H n v v' → Alike H (n + 1) v v'
 | 0, _, _, h => .inl h
 | n + 1, _, _, .inl h => .inl h
 | n + 1, _, _, .inr ⟨a, b, xs, ys, e1, e2, h, hl, hz, k⟩ => .inr ⟨a, b, xs, ys, e1, e2, h, hl, hz, fun i x y hx hy => (k i x y hx hy).up⟩
def z32 (n : Nat) : Sp := fun vs H Q _ => ∃ v v', vs = [v, v'] ∧ Alike H n v v' ∧ z4u H Q (.bl true)
theorem zcd (F : Def K mg "_law_same" z1n ["_law_found", "_law_due"]) (T : Txt K mg C_Asleep C_Awake C_BadSetup C_Council C_Keeper C_PausesSpent C_Store C_World t_MOST_HOLDERS t_MOST_KEEPERS t_MOST_LOCKS t_MOST_NAMES t_MOST_PAUSES t_MOST_SIGNS t_MOST_STORES t_MOST_TIME t_NAME_SIGNS) (G__law_same : Has P w K mg base 0 "_law_same" ["_law_found", "_law_due"] (z2d)) : Has P w K mg base 1 "_law_same" ["_law_found", "_law_due"] (z32 0) := by
 refine F.ok z3b (fun vs H Q E h => ?_) (fun f cdv A outer s H vs Q E hr h => ?_)
 ·obtain ⟨v, v', rfl, _⟩ := h
  rfl
 ·have hu := hr.units0
  obtain ⟨v, v', rfl, pv', q⟩ := h
  replace pv' : v = v' ∧ z3g v := pv'
  ·obtain ⟨rfl, pv'⟩ := pv'
   refine ⟨_, (@z6 _ _ _ _ _ (@zn _ _ _ _ _ _ _ _ (@z2g _ _ _ _ _ _ (@z2u _ _ _ _ _ (pv 1)) (by first | exact z11 _ (by decide) (by decide) | rfl)) (@z9 _ _ _ (@zg _ _ _ _ (@z5l _ _ _ _ _ _ (@z2u _ _ _ _ _ (pv 0)) (by first | exact z11 _ (by decide) (by decide) | rfl)))) zf) (@z6 _ _ _ _ _ (@zn _ _ _ _ _ _ _ _ (@z1u _ _ _ (@z8 _ _ _ _ _ _ _ _ _ z3e rfl T.b_isinstance (by decide +kernel) (@z0 _ _ _ _ _ (pv 1) (@z0 _ _ _ _ _ (@z17 _ _ _ _ _ (@z0 _ _ _ _ _ (@zd _ _ (.ty "list") _ _ rfl T.b_list (by decide +kernel) rfl (by decide) (by decide)) (@z0 _ _ _ _ _ (@zd _ _ (.ty "tuple") _ _ rfl T.b_tuple (by decide +kernel) rfl (by decide) (by decide)) z4 rfl) rfl)) z4 rfl) rfl) (by decide) (by decide) rfl rfl) (by intro _; rfl)) (@z6 _ _ _ _ _ (@zn _ _ _ _ _ _ _ _ (PW.pt (@z5m _ _ _ _ _ _ _ (@zt _ _ _ _ _ _ _ _ z26 (@z8 _ _ _ _ _ _ _ _ _ ze rfl T.b_isinstance (by decide +kernel) (@z0 _ _ _ _ _ (pv 0) (@z0 _ _ _ _ _ (@zd _ _ (.ty "list") _ _ rfl T.b_list (by decide +kernel) rfl (by decide) (by decide)) z4 rfl) rfl) (by decide) (by decide) rfl rfl) (@z8 _ _ _ _ _ _ _ _ _ ze rfl T.b_isinstance (by decide +kernel) (@z0 _ _ _ _ _ (pv 1) (@z0 _ _ _ _ _ (@zd _ _ (.ty "list") _ _ rfl T.b_list (by decide +kernel) rfl (by decide) (by decide)) z4 rfl) rfl) (by decide) (by decide) rfl rfl) (zj _)) (@z4d _ _ _ _ (@zt _ _ _ _ _ _ _ _ z26 (@z8 _ _ _ _ _ _ _ _ _ ze rfl T.b_isinstance (by decide +kernel) (@z0 _ _ _ _ _ (pv 0) (@z0 _ _ _ _ _ (@zd _ _ (.ty "tuple") _ _ rfl T.b_tuple (by decide +kernel) rfl (by decide) (by decide)) z4 rfl) rfl) (by decide) (by decide) rfl rfl) (@z8 _ _ _ _ _ _ _ _ _ ze rfl T.b_isinstance (by decide +kernel) (@z0 _ _ _ _ _ (pv 1) (@z0 _ _ _ _ _ (@zd _ _ (.ty "tuple") _ _ rfl T.b_tuple (by decide +kernel) rfl (by decide) (by decide)) z4 rfl) rfl) (by decide) (by decide) rfl rfl) (zj _))))) (@z9 _ _ _ (@zg _ _ _ _ z2o)) zf) (@z9 _ _ _ (@zg _ _ _ _ (@z1i _ _ _ _ _ _ _ (@z14 _ _ _ _ _ _ _ _ z12 (@z8 _ _ _ _ _ _ _ _ _ zh rfl T.b_len (by decide +kernel) (@z0 _ _ _ _ _ (pv 0) z4 rfl) (by decide) (by decide) rfl rfl) (@z8 _ _ _ _ _ _ _ _ _ zh rfl T.b_len (by decide +kernel) (@z0 _ _ _ _ _ (pv 1) z4 rfl) (by decide) (by decide) rfl rfl) (zj _)) (@z1h _ _ _ _ _ (@z8 _ _ _ _ _ _ _ _ _ (zy rfl) rfl T.b_all (by decide +kernel) (@z0 _ _ _ _ _ (@z1e _ _ "_law_k" (["_law_found", "_law_due"]) ([0, 1]) _ _ _ _ _ _ _ _ rfl ⟨rfl, by decide +kernel, by decide +kernel, rfl, zw rfl, by decide +kernel, ⟨⟨rfl, Or.inl rfl, rfl⟩, ⟨⟨rfl, Or.inl rfl, rfl⟩, trivial⟩⟩⟩ (@z1l _ _ _ _ _ _ rfl T.b_range (@z0 _ _ _ _ _ (@z8 _ _ _ _ _ _ _ _ _ zh rfl T.b_len (by decide +kernel) (@z0 _ _ _ _ _ (pv 1) z4 rfl) (by decide) (by decide) rfl rfl) z4 rfl) rfl) (fun _ _ _ _ => z1d) (fun _ _ _ _ => (@z10 _ _ _ _ _ _ _ _ _ _ G__law_same (hr.mono (by decide)) rfl (@z0 _ _ _ _ _ (@z15 _ _ _ _ _ _ _ (z1y (K := K)) (pv 1) (pv 0) (fun _ _ => rfl)) (@z0 _ _ _ _ _ (@z15 _ _ _ _ _ _ _ (z1y (K := K)) (pv 2) (pv 0) (fun _ _ => rfl)) z4 rfl) rfl) (by decide) rfl rfl)) (by intro _; rfl)) z4 rfl) (by decide) (by decide) rfl rfl)))))) zf) (@z6 _ _ _ _ _ (@zn _ _ _ _ _ _ _ _ (@zt _ _ _ _ _ _ _ _ z26 (@z8 _ _ _ _ _ _ _ _ _ ze rfl T.b_isinstance (by decide +kernel) (@z0 _ _ _ _ _ (pv 0) (@z0 _ _ _ _ _ (@zd _ _ (.ty "bool") _ _ rfl T.b_bool (by decide +kernel) rfl (by decide) (by decide)) z4 rfl) rfl) (by decide) (by decide) rfl rfl) (@z8 _ _ _ _ _ _ _ _ _ ze rfl T.b_isinstance (by decide +kernel) (@z0 _ _ _ _ _ (pv 1) (@z0 _ _ _ _ _ (@zd _ _ (.ty "bool") _ _ rfl T.b_bool (by decide +kernel) rfl (by decide) (by decide)) z4 rfl) rfl) (by decide) (by decide) rfl rfl) (zj _)) (@z9 _ _ _ (@zg _ _ _ _ z2o)) zf) (@z6 _ _ _ _ _ (@zn _ _ _ _ _ _ _ _ (@z1u _ _ _ (@z8 _ _ _ _ _ _ _ _ _ ze rfl T.b_isinstance (by decide +kernel) (@z0 _ _ _ _ _ (pv 1) (@z0 _ _ _ _ _ (@zd _ _ (.ty "int") _ _ rfl T.b_int (by decide +kernel) rfl (by decide) (by decide)) z4 rfl) rfl) (by decide) (by decide) rfl rfl) (by intro _; rfl)) (@z9 _ _ _ (@zg _ _ _ _ (@z1i _ _ _ _ _ _ _ (@z8 _ _ _ _ _ _ _ _ _ ze rfl T.b_isinstance (by decide +kernel) (@z0 _ _ _ _ _ (pv 0) (@z0 _ _ _ _ _ (@zd _ _ (.ty "int") _ _ rfl T.b_int (by decide +kernel) rfl (by decide) (by decide)) z4 rfl) rfl) (by decide) (by decide) rfl rfl) (@z1h _ _ _ _ _ (@z14 _ _ _ _ _ _ _ _ z12 (pv 0) (pv 1) (zj _)))))) zf) (@z9 _ _ _ (@zg _ _ _ _ (@z1i _ _ _ _ _ _ _ (@z8 _ _ _ _ _ _ _ _ _ ze rfl T.b_isinstance (by decide +kernel) (@z0 _ _ _ _ _ (pv 0) (@z0 _ _ _ _ _ (@zd _ _ (.ty "str") _ _ rfl T.b_str (by decide +kernel) rfl (by decide) (by decide)) z4 rfl) rfl) (by decide) (by decide) rfl rfl) (@z1h _ _ _ _ _ (@z14 _ _ _ _ _ _ _ _ z12 (pv 0) (pv 1) (zj _)))))))))), ?_⟩
   walk_at "rd"
   rw [if_neg (by rcases pv' with ⟨i, rfl⟩ | ⟨z, rfl⟩ | ⟨b, rfl⟩ <;> (intro z; cases z))]
   refine ⟨zu (by decide), fun p hp => ?_⟩
   have s1 := q _ (Same.upd (o := .tup [V.ty "list", V.ty "tuple"]) hp)
   rcases pv' with ⟨i, rfl⟩ | ⟨z, rfl⟩ | ⟨b, rfl⟩
   ·refine ⟨_, _, ⟨rfl, rfl⟩, _, _, SqT.of z5, _, .int i, _, (z2e K).1, ?_⟩
    rw [if_neg Bool.false_ne_true]
    refine ⟨_, _, ⟨rfl, rfl⟩, _, .int i, _, z2i K, _, _, ⟨rfl, rfl⟩, _, .int i, _, z2i K, ?_⟩
    rw [if_neg (by decide)]
    refine ⟨_, _, ⟨rfl, rfl⟩, _, .int i, _, (zx K).1, ?_⟩
    rw [if_pos rfl]
    refine ⟨_, _, ⟨rfl, rfl⟩, _, .int i, _, (zx K).1, ?_⟩
    rw [if_pos rfl]
    exact ⟨rfl, by simpa using s1⟩
   ·refine ⟨_, _, ⟨rfl, rfl⟩, _, _, SqT.of z5, _, .str z, _, (z2e K).2.2.1, ?_⟩
    rw [if_neg Bool.false_ne_true]
    refine ⟨_, _, ⟨rfl, rfl⟩, _, .str z, _, (zx K).2.2.2.2.2.1, _, _, ⟨rfl, rfl⟩, _, .str z, _, (zx K).2.2.2.2.2.1, ?_⟩
    rw [if_neg (by decide)]
    refine ⟨_, _, ⟨rfl, rfl⟩, _, .str z, _, (zx K).2.2.1, ?_⟩
    rw [if_neg Bool.false_ne_true]
    refine ⟨_, _, ⟨rfl, rfl⟩, _, .str z, _, (zx K).2.2.2.1, ?_⟩
    rw [if_pos rfl]
    exact ⟨rfl, by simpa using s1⟩
   ·refine ⟨_, _, ⟨rfl, rfl⟩, _, _, SqT.of z5, _, .bl b, _, (z2e K).2.1, ?_⟩
    rw [if_neg Bool.false_ne_true]
    refine ⟨_, _, ⟨rfl, rfl⟩, _, .bl b, _, z27 K, _, _, ⟨rfl, rfl⟩, _, .bl b, _, z27 K, ?_⟩
    rw [if_neg (by decide)]
    refine ⟨_, _, ⟨rfl, rfl⟩, _, .bl b, _, (zx K).2.1, ?_⟩
    rw [if_pos rfl]
    refine ⟨_, _, ⟨rfl, rfl⟩, _, .bl b, _, (zx K).2.1, ?_⟩
    rw [if_pos rfl]
    exact ⟨rfl, by simpa using s1⟩
theorem z8c {n : Nat} (F : Def K mg "_law_same" z1n ["_law_found", "_law_due"]) (T : Txt K mg C_Asleep C_Awake C_BadSetup C_Council C_Keeper C_PausesSpent C_Store C_World t_MOST_HOLDERS t_MOST_KEEPERS t_MOST_LOCKS t_MOST_NAMES t_MOST_PAUSES t_MOST_SIGNS t_MOST_STORES t_MOST_TIME t_NAME_SIGNS) (G__law_same : Has P w K mg base (n + 1) "_law_same" ["_law_found", "_law_due"] (z32 n)) : Has P w K mg base (n + 1 + 1) "_law_same" ["_law_found", "_law_due"] (z32 (n + 1)) := by
 refine F.ok z3b (fun vs H Q E h => ?_) (fun f cdv A outer s H vs Q E hr h => ?_)
 ·obtain ⟨v, v', rfl, _⟩ := h
  rfl
 ·have hu := hr.units0
  obtain ⟨v, v', rfl, pv', q⟩ := h
  rcases pv' with pv' | ⟨a, b, xs, ys, rfl, rfl, hab, hlm, hz, kk⟩
  ·obtain ⟨rfl, pv'⟩ := pv'
   refine ⟨_, (@z6 _ _ _ _ _ (@zn _ _ _ _ _ _ _ _ (@z2g _ _ _ _ _ _ (@z2u _ _ _ _ _ (pv 1)) (by first | exact z11 _ (by decide) (by decide) | rfl)) (@z9 _ _ _ (@zg _ _ _ _ (@z5l _ _ _ _ _ _ (@z2u _ _ _ _ _ (pv 0)) (by first | exact z11 _ (by decide) (by decide) | rfl)))) zf) (@z6 _ _ _ _ _ (@zn _ _ _ _ _ _ _ _ (@z1u _ _ _ (@z8 _ _ _ _ _ _ _ _ _ z3e rfl T.b_isinstance (by decide +kernel) (@z0 _ _ _ _ _ (pv 1) (@z0 _ _ _ _ _ (@z17 _ _ _ _ _ (@z0 _ _ _ _ _ (@zd _ _ (.ty "list") _ _ rfl T.b_list (by decide +kernel) rfl (by decide) (by decide)) (@z0 _ _ _ _ _ (@zd _ _ (.ty "tuple") _ _ rfl T.b_tuple (by decide +kernel) rfl (by decide) (by decide)) z4 rfl) rfl)) z4 rfl) rfl) (by decide) (by decide) rfl rfl) (by intro _; rfl)) (@z6 _ _ _ _ _ (@zn _ _ _ _ _ _ _ _ (PW.pt (@z5m _ _ _ _ _ _ _ (@zt _ _ _ _ _ _ _ _ z26 (@z8 _ _ _ _ _ _ _ _ _ ze rfl T.b_isinstance (by decide +kernel) (@z0 _ _ _ _ _ (pv 0) (@z0 _ _ _ _ _ (@zd _ _ (.ty "list") _ _ rfl T.b_list (by decide +kernel) rfl (by decide) (by decide)) z4 rfl) rfl) (by decide) (by decide) rfl rfl) (@z8 _ _ _ _ _ _ _ _ _ ze rfl T.b_isinstance (by decide +kernel) (@z0 _ _ _ _ _ (pv 1) (@z0 _ _ _ _ _ (@zd _ _ (.ty "list") _ _ rfl T.b_list (by decide +kernel) rfl (by decide) (by decide)) z4 rfl) rfl) (by decide) (by decide) rfl rfl) (zj _)) (@z4d _ _ _ _ (@zt _ _ _ _ _ _ _ _ z26 (@z8 _ _ _ _ _ _ _ _ _ ze rfl T.b_isinstance (by decide +kernel) (@z0 _ _ _ _ _ (pv 0) (@z0 _ _ _ _ _ (@zd _ _ (.ty "tuple") _ _ rfl T.b_tuple (by decide +kernel) rfl (by decide) (by decide)) z4 rfl) rfl) (by decide) (by decide) rfl rfl) (@z8 _ _ _ _ _ _ _ _ _ ze rfl T.b_isinstance (by decide +kernel) (@z0 _ _ _ _ _ (pv 1) (@z0 _ _ _ _ _ (@zd _ _ (.ty "tuple") _ _ rfl T.b_tuple (by decide +kernel) rfl (by decide) (by decide)) z4 rfl) rfl) (by decide) (by decide) rfl rfl) (zj _))))) (@z9 _ _ _ (@zg _ _ _ _ z2o)) zf) (@z9 _ _ _ (@zg _ _ _ _ (@z1i _ _ _ _ _ _ _ (@z14 _ _ _ _ _ _ _ _ z12 (@z8 _ _ _ _ _ _ _ _ _ zh rfl T.b_len (by decide +kernel) (@z0 _ _ _ _ _ (pv 0) z4 rfl) (by decide) (by decide) rfl rfl) (@z8 _ _ _ _ _ _ _ _ _ zh rfl T.b_len (by decide +kernel) (@z0 _ _ _ _ _ (pv 1) z4 rfl) (by decide) (by decide) rfl rfl) (zj _)) (@z1h _ _ _ _ _ (@z8 _ _ _ _ _ _ _ _ _ (zy rfl) rfl T.b_all (by decide +kernel) (@z0 _ _ _ _ _ (@z1e _ _ "_law_k" (["_law_found", "_law_due"]) ([0, 1]) _ _ _ _ _ _ _ _ rfl ⟨rfl, by decide +kernel, by decide +kernel, rfl, zw rfl, by decide +kernel, ⟨⟨rfl, Or.inl rfl, rfl⟩, ⟨⟨rfl, Or.inl rfl, rfl⟩, trivial⟩⟩⟩ (@z1l _ _ _ _ _ _ rfl T.b_range (@z0 _ _ _ _ _ (@z8 _ _ _ _ _ _ _ _ _ zh rfl T.b_len (by decide +kernel) (@z0 _ _ _ _ _ (pv 1) z4 rfl) (by decide) (by decide) rfl rfl) z4 rfl) rfl) (fun _ _ _ _ => z1d) (fun _ _ _ _ => (@z10 _ _ _ _ _ _ _ _ _ _ G__law_same (hr.mono (by omega)) rfl (@z0 _ _ _ _ _ (@z15 _ _ _ _ _ _ _ (z1y (K := K)) (pv 1) (pv 0) (fun _ _ => rfl)) (@z0 _ _ _ _ _ (@z15 _ _ _ _ _ _ _ (z1y (K := K)) (pv 2) (pv 0) (fun _ _ => rfl)) z4 rfl) rfl) (by decide) rfl rfl)) (by intro _; rfl)) z4 rfl) (by decide) (by decide) rfl rfl)))))) zf) (@z6 _ _ _ _ _ (@zn _ _ _ _ _ _ _ _ (@zt _ _ _ _ _ _ _ _ z26 (@z8 _ _ _ _ _ _ _ _ _ ze rfl T.b_isinstance (by decide +kernel) (@z0 _ _ _ _ _ (pv 0) (@z0 _ _ _ _ _ (@zd _ _ (.ty "bool") _ _ rfl T.b_bool (by decide +kernel) rfl (by decide) (by decide)) z4 rfl) rfl) (by decide) (by decide) rfl rfl) (@z8 _ _ _ _ _ _ _ _ _ ze rfl T.b_isinstance (by decide +kernel) (@z0 _ _ _ _ _ (pv 1) (@z0 _ _ _ _ _ (@zd _ _ (.ty "bool") _ _ rfl T.b_bool (by decide +kernel) rfl (by decide) (by decide)) z4 rfl) rfl) (by decide) (by decide) rfl rfl) (zj _)) (@z9 _ _ _ (@zg _ _ _ _ z2o)) zf) (@z6 _ _ _ _ _ (@zn _ _ _ _ _ _ _ _ (@z1u _ _ _ (@z8 _ _ _ _ _ _ _ _ _ ze rfl T.b_isinstance (by decide +kernel) (@z0 _ _ _ _ _ (pv 1) (@z0 _ _ _ _ _ (@zd _ _ (.ty "int") _ _ rfl T.b_int (by decide +kernel) rfl (by decide) (by decide)) z4 rfl) rfl) (by decide) (by decide) rfl rfl) (by intro _; rfl)) (@z9 _ _ _ (@zg _ _ _ _ (@z1i _ _ _ _ _ _ _ (@z8 _ _ _ _ _ _ _ _ _ ze rfl T.b_isinstance (by decide +kernel) (@z0 _ _ _ _ _ (pv 0) (@z0 _ _ _ _ _ (@zd _ _ (.ty "int") _ _ rfl T.b_int (by decide +kernel) rfl (by decide) (by decide)) z4 rfl) rfl) (by decide) (by decide) rfl rfl) (@z1h _ _ _ _ _ (@z14 _ _ _ _ _ _ _ _ z12 (pv 0) (pv 1) (zj _)))))) zf) (@z9 _ _ _ (@zg _ _ _ _ (@z1i _ _ _ _ _ _ _ (@z8 _ _ _ _ _ _ _ _ _ ze rfl T.b_isinstance (by decide +kernel) (@z0 _ _ _ _ _ (pv 0) (@z0 _ _ _ _ _ (@zd _ _ (.ty "str") _ _ rfl T.b_str (by decide +kernel) rfl (by decide) (by decide)) z4 rfl) rfl) (by decide) (by decide) rfl rfl) (@z1h _ _ _ _ _ (@z14 _ _ _ _ _ _ _ _ z12 (pv 0) (pv 1) (zj _)))))))))), ?_⟩
   walk_at "rd"
   rw [if_neg (by rcases pv' with ⟨i, rfl⟩ | ⟨z, rfl⟩ | ⟨b, rfl⟩ <;> (intro z; cases z))]
   refine ⟨zu (by decide), fun p hp => ?_⟩
   have s1 := q _ (Same.upd (o := .tup [V.ty "list", V.ty "tuple"]) hp)
   rcases pv' with ⟨i, rfl⟩ | ⟨z, rfl⟩ | ⟨b, rfl⟩
   ·refine ⟨_, _, ⟨rfl, rfl⟩, _, _, SqT.of z5, _, .int i, _, (z2e K).1, ?_⟩
    rw [if_neg Bool.false_ne_true]
    refine ⟨_, _, ⟨rfl, rfl⟩, _, .int i, _, z2i K, _, _, ⟨rfl, rfl⟩, _, .int i, _, z2i K, ?_⟩
    rw [if_neg (by decide)]
    refine ⟨_, _, ⟨rfl, rfl⟩, _, .int i, _, (zx K).1, ?_⟩
    rw [if_pos rfl]
    refine ⟨_, _, ⟨rfl, rfl⟩, _, .int i, _, (zx K).1, ?_⟩
    rw [if_pos rfl]
    exact ⟨rfl, by simpa using s1⟩
   ·refine ⟨_, _, ⟨rfl, rfl⟩, _, _, SqT.of z5, _, .str z, _, (z2e K).2.2.1, ?_⟩
    rw [if_neg Bool.false_ne_true]
    refine ⟨_, _, ⟨rfl, rfl⟩, _, .str z, _, (zx K).2.2.2.2.2.1, _, _, ⟨rfl, rfl⟩, _, .str z, _, (zx K).2.2.2.2.2.1, ?_⟩
    rw [if_neg (by decide)]
    refine ⟨_, _, ⟨rfl, rfl⟩, _, .str z, _, (zx K).2.2.1, ?_⟩
    rw [if_neg Bool.false_ne_true]
    refine ⟨_, _, ⟨rfl, rfl⟩, _, .str z, _, (zx K).2.2.2.1, ?_⟩
    rw [if_pos rfl]
    exact ⟨rfl, by simpa using s1⟩
   ·refine ⟨_, _, ⟨rfl, rfl⟩, _, _, SqT.of z5, _, .bl b, _, (z2e K).2.1, ?_⟩
    rw [if_neg Bool.false_ne_true]
    refine ⟨_, _, ⟨rfl, rfl⟩, _, .bl b, _, z27 K, _, _, ⟨rfl, rfl⟩, _, .bl b, _, z27 K, ?_⟩
    rw [if_neg (by decide)]
    refine ⟨_, _, ⟨rfl, rfl⟩, _, .bl b, _, (zx K).2.1, ?_⟩
    rw [if_pos rfl]
    refine ⟨_, _, ⟨rfl, rfl⟩, _, .bl b, _, (zx K).2.1, ?_⟩
    rw [if_pos rfl]
    exact ⟨rfl, by simpa using s1⟩
  ·skip
   refine ⟨_, (@z6 _ _ _ _ _ (@zn _ _ _ _ _ _ _ _ (@z2g _ _ _ _ _ _ (@z2u _ _ _ _ _ (pv 1)) (by first | exact z11 _ (by decide) (by decide) | rfl)) (@z9 _ _ _ (@zg _ _ _ _ (@z5l _ _ _ _ _ _ (@z2u _ _ _ _ _ (pv 0)) (by first | exact z11 _ (by decide) (by decide) | rfl)))) zf) (@z6 _ _ _ _ _ (@zn _ _ _ _ _ _ _ _ (@z1u _ _ _ (@z8 _ _ _ _ _ _ _ _ _ z3e rfl T.b_isinstance (by decide +kernel) (@z0 _ _ _ _ _ (pv 1) (@z0 _ _ _ _ _ (@z17 _ _ _ _ _ (@z0 _ _ _ _ _ (@zd _ _ (.ty "list") _ _ rfl T.b_list (by decide +kernel) rfl (by decide) (by decide)) (@z0 _ _ _ _ _ (@zd _ _ (.ty "tuple") _ _ rfl T.b_tuple (by decide +kernel) rfl (by decide) (by decide)) z4 rfl) rfl)) z4 rfl) rfl) (by decide) (by decide) rfl rfl) (by intro _; rfl)) (@z6 _ _ _ _ _ (@zn _ _ _ _ _ _ _ _ (PW.pt (@z5m _ _ _ _ _ _ _ (@zt _ _ _ _ _ _ _ _ z26 (@z8 _ _ _ _ _ _ _ _ _ ze rfl T.b_isinstance (by decide +kernel) (@z0 _ _ _ _ _ (pv 0) (@z0 _ _ _ _ _ (@zd _ _ (.ty "list") _ _ rfl T.b_list (by decide +kernel) rfl (by decide) (by decide)) z4 rfl) rfl) (by decide) (by decide) rfl rfl) (@z8 _ _ _ _ _ _ _ _ _ ze rfl T.b_isinstance (by decide +kernel) (@z0 _ _ _ _ _ (pv 1) (@z0 _ _ _ _ _ (@zd _ _ (.ty "list") _ _ rfl T.b_list (by decide +kernel) rfl (by decide) (by decide)) z4 rfl) rfl) (by decide) (by decide) rfl rfl) (zj _)) (@z4d _ _ _ _ (@zt _ _ _ _ _ _ _ _ z26 (@z8 _ _ _ _ _ _ _ _ _ ze rfl T.b_isinstance (by decide +kernel) (@z0 _ _ _ _ _ (pv 0) (@z0 _ _ _ _ _ (@zd _ _ (.ty "tuple") _ _ rfl T.b_tuple (by decide +kernel) rfl (by decide) (by decide)) z4 rfl) rfl) (by decide) (by decide) rfl rfl) (@z8 _ _ _ _ _ _ _ _ _ ze rfl T.b_isinstance (by decide +kernel) (@z0 _ _ _ _ _ (pv 1) (@z0 _ _ _ _ _ (@zd _ _ (.ty "tuple") _ _ rfl T.b_tuple (by decide +kernel) rfl (by decide) (by decide)) z4 rfl) rfl) (by decide) (by decide) rfl rfl) (zj _))))) (@z9 _ _ _ (@zg _ _ _ _ z2o)) zf) (@z9 _ _ _ (@zg _ _ _ _ (@z1i _ _ _ _ _ _ _ (@z14 _ _ _ _ _ _ _ _ z12 (@z8 _ _ _ _ _ _ _ _ _ zh rfl T.b_len (by decide +kernel) (@z0 _ _ _ _ _ (pv 0) z4 rfl) (by decide) (by decide) rfl rfl) (@z8 _ _ _ _ _ _ _ _ _ zh rfl T.b_len (by decide +kernel) (@z0 _ _ _ _ _ (pv 1) z4 rfl) (by decide) (by decide) rfl rfl) (zj _)) (@z1h _ _ _ _ _ (@z8 _ _ _ _ _ _ _ _ _ (zy rfl) rfl T.b_all (by decide +kernel) (@z0 _ _ _ _ _ (@z1e _ _ "_law_k" (["_law_found", "_law_due"]) ([0, 1]) _ _ _ _ _ _ _ _ rfl ⟨rfl, by decide +kernel, by decide +kernel, rfl, zw rfl, by decide +kernel, ⟨⟨rfl, Or.inl rfl, rfl⟩, ⟨⟨rfl, Or.inl rfl, rfl⟩, trivial⟩⟩⟩ (@z1l _ _ _ _ _ _ rfl T.b_range (@z0 _ _ _ _ _ (@z8 _ _ _ _ _ _ _ _ _ zh rfl T.b_len (by decide +kernel) (@z0 _ _ _ _ _ (pv 1) z4 rfl) (by decide) (by decide) rfl rfl) z4 rfl) rfl) (fun _ _ _ _ => z1d) (fun _ _ _ _ => (@z10 _ _ _ _ _ _ _ _ _ _ G__law_same (hr.mono (by omega)) rfl (@z0 _ _ _ _ _ (@z15 _ _ _ _ _ _ _ (z1y (K := K)) (pv 1) (pv 0) (fun _ _ => rfl)) (@z0 _ _ _ _ _ (@z15 _ _ _ _ _ _ _ (z1y (K := K)) (pv 2) (pv 0) (fun _ _ => rfl)) z4 rfl) rfl) (by decide) rfl rfl)) (by intro _; rfl)) z4 rfl) (by decide) (by decide) rfl rfl)))))) zf) (@z6 _ _ _ _ _ (@zn _ _ _ _ _ _ _ _ (@zt _ _ _ _ _ _ _ _ z26 (@z8 _ _ _ _ _ _ _ _ _ ze rfl T.b_isinstance (by decide +kernel) (@z0 _ _ _ _ _ (pv 0) (@z0 _ _ _ _ _ (@zd _ _ (.ty "bool") _ _ rfl T.b_bool (by decide +kernel) rfl (by decide) (by decide)) z4 rfl) rfl) (by decide) (by decide) rfl rfl) (@z8 _ _ _ _ _ _ _ _ _ ze rfl T.b_isinstance (by decide +kernel) (@z0 _ _ _ _ _ (pv 1) (@z0 _ _ _ _ _ (@zd _ _ (.ty "bool") _ _ rfl T.b_bool (by decide +kernel) rfl (by decide) (by decide)) z4 rfl) rfl) (by decide) (by decide) rfl rfl) (zj _)) (@z9 _ _ _ (@zg _ _ _ _ z2o)) zf) (@z6 _ _ _ _ _ (@zn _ _ _ _ _ _ _ _ (@z1u _ _ _ (@z8 _ _ _ _ _ _ _ _ _ ze rfl T.b_isinstance (by decide +kernel) (@z0 _ _ _ _ _ (pv 1) (@z0 _ _ _ _ _ (@zd _ _ (.ty "int") _ _ rfl T.b_int (by decide +kernel) rfl (by decide) (by decide)) z4 rfl) rfl) (by decide) (by decide) rfl rfl) (by intro _; rfl)) (@z9 _ _ _ (@zg _ _ _ _ (@z1i _ _ _ _ _ _ _ (@z8 _ _ _ _ _ _ _ _ _ ze rfl T.b_isinstance (by decide +kernel) (@z0 _ _ _ _ _ (pv 0) (@z0 _ _ _ _ _ (@zd _ _ (.ty "int") _ _ rfl T.b_int (by decide +kernel) rfl (by decide) (by decide)) z4 rfl) rfl) (by decide) (by decide) rfl rfl) (@z1h _ _ _ _ _ (@z14 _ _ _ _ _ _ _ _ z12 (pv 0) (pv 1) (zj _)))))) zf) (@z9 _ _ _ (@zg _ _ _ _ (@z1i _ _ _ _ _ _ _ (@z8 _ _ _ _ _ _ _ _ _ ze rfl T.b_isinstance (by decide +kernel) (@z0 _ _ _ _ _ (pv 0) (@z0 _ _ _ _ _ (@zd _ _ (.ty "str") _ _ rfl T.b_str (by decide +kernel) rfl (by decide) (by decide)) z4 rfl) rfl) (by decide) (by decide) rfl rfl) (@z1h _ _ _ _ _ (@z14 _ _ _ _ _ _ _ _ z12 (pv 0) (pv 1) (zj _)))))))))), ?_⟩
   walk_at "rd"
   refine ⟨zu (by decide), fun p hp => ?_⟩
   have s1 := Same.upd (o := .tup [V.ty "list", V.ty "tuple"]) hp
   rcases hab with ⟨ha, hb⟩ | ⟨ha, hb⟩
   ·have ha1 := s1 _ _ ha
    have hb1 := s1 _ _ hb
    refine ⟨_, _, ⟨rfl, rfl⟩, _, _, SqT.of z5, _, .lst hb1, _, (z2e K).2.2.2.1, ?_⟩
    rw [if_pos rfl]
    refine ⟨_, _, ⟨rfl, rfl⟩, _, .lst ha1, _, z48 K, _, _, ⟨rfl, rfl⟩, _, .lst hb1, _, z48 K, ?_⟩
    rw [if_neg (by decide)]
    refine ⟨_, _, ⟨rfl, rfl⟩, _, .lst ha1, _, (zx K).2.2.2.2.2.2.2.2, _, _, ⟨rfl, rfl⟩, _, .lst hb1, _, (zx K).2.2.2.2.2.2.2.2, ?_⟩
    rw [if_neg (by decide)]
    refine ⟨xs, .inl (SqL.of ha1), ys, .inl (SqL.of hb1), ?_⟩
    rw [if_pos (by rw [hlm]; simp)]
    refine ⟨ys, .inl (SqL.of hb1), ⟨by omega, by omega⟩, ?_⟩
    rw [Int.toNat_natCast, ← hlm]
    refine z2j (zu (by omega)) (fun i acc H' => acc = (List.replicate i true).map V.bl ∧ Same (upd H p (.tup [V.ty "list", V.ty "tuple"])) H') ⟨rfl, Same.refl _⟩ ?_ ?_ ?_
    ·rintro i acc H' ⟨rfl, -⟩
     simp
    ·rintro Nn i acc H' hN hi ⟨rfl, s2⟩
     walk_at "rd"
     have ei : ((0 : Int) + (i : Int)) = (i : Int) := by omega
     rw [ei]
     have gx : xs[i]? = some xs[i] := List.getElem?_eq_getElem hi
     have gy : ys[i]? = some (ys[i]'(by omega)) := List.getElem?_eq_getElem (by omega)
     refine (.inl ⟨_, _, _, _, rfl, rfl, SqL.of (s2 _ _ ha1), z23 gx, ?_⟩)
     refine (.inl ⟨_, _, _, _, rfl, rfl, SqL.of (s2 _ _ hb1), z23 gy, ?_⟩)
     refine ⟨_, _, rfl, (kk i _ _ gx gy).mono (s1.trans s2), fun H3 s3 => hN _ _ ⟨?_, s2.trans s3⟩⟩
     rw [List.replicate_succ', List.map_append]
     rfl
    ·rintro acc H' ⟨rfl, s2⟩ r hr'
     refine ⟨_, rfl, _, SqL.of z5, ?_⟩
     have e : (List.replicate xs.length true).all id = true := by simp
     rw [e]
     exact q _ ((s1.trans s2).trans (Same.upd hr'))
   ·have ha1 := s1 _ _ ha
    have hb1 := s1 _ _ hb
    refine ⟨_, _, ⟨rfl, rfl⟩, _, _, SqT.of z5, _, .tup hb1, _, (z2e K).2.2.2.2, ?_⟩
    rw [if_pos rfl]
    refine ⟨_, _, ⟨rfl, rfl⟩, _, .tup ha1, _, (zx K).2.2.2.2.2.2.2.1, _, _, ⟨rfl, rfl⟩, _, .tup hb1, _, (zx K).2.2.2.2.2.2.2.1, ?_⟩
    rw [if_neg (by decide)]
    refine ⟨_, _, ⟨rfl, rfl⟩, _, .tup ha1, _, (zx K).2.2.2.2.2.2.1, _, _, ⟨rfl, rfl⟩, _, .tup hb1, _, (zx K).2.2.2.2.2.2.1, ?_⟩
    rw [if_neg (by decide)]
    refine ⟨xs, .inr (SqT.of ha1), ys, .inr (SqT.of hb1), ?_⟩
    rw [if_pos (by rw [hlm]; simp)]
    refine ⟨ys, .inr (SqT.of hb1), ⟨by omega, by omega⟩, ?_⟩
    rw [Int.toNat_natCast, ← hlm]
    refine z2j (zu (by omega)) (fun i acc H' => acc = (List.replicate i true).map V.bl ∧ Same (upd H p (.tup [V.ty "list", V.ty "tuple"])) H') ⟨rfl, Same.refl _⟩ ?_ ?_ ?_
    ·rintro i acc H' ⟨rfl, -⟩
     simp
    ·rintro Nn i acc H' hN hi ⟨rfl, s2⟩
     walk_at "rd"
     have ei : ((0 : Int) + (i : Int)) = (i : Int) := by omega
     rw [ei]
     have gx : xs[i]? = some xs[i] := List.getElem?_eq_getElem hi
     have gy : ys[i]? = some (ys[i]'(by omega)) := List.getElem?_eq_getElem (by omega)
     refine (.inr (.inl ⟨_, _, _, _, rfl, rfl, SqT.of (s2 _ _ ha1), z23 gx, ?_⟩))
     refine (.inr (.inl ⟨_, _, _, _, rfl, rfl, SqT.of (s2 _ _ hb1), z23 gy, ?_⟩))
     refine ⟨_, _, rfl, (kk i _ _ gx gy).mono (s1.trans s2), fun H3 s3 => hN _ _ ⟨?_, s2.trans s3⟩⟩
     rw [List.replicate_succ', List.map_append]
     rfl
    ·rintro acc H' ⟨rfl, s2⟩ r hr'
     refine ⟨_, rfl, _, SqL.of z5, ?_⟩
     have e : (List.replicate xs.length true).all id = true := by simp
     rw [e]
     exact q _ ((s1.trans s2).trans (Same.upd hr'))
theorem zce (F : Def K mg "_law_same" z1n ["_law_found", "_law_due"]) (T : Txt K mg C_Asleep C_Awake C_BadSetup C_Council C_Keeper C_PausesSpent C_Store C_World t_MOST_HOLDERS t_MOST_KEEPERS t_MOST_LOCKS t_MOST_NAMES t_MOST_PAUSES t_MOST_SIGNS t_MOST_STORES t_MOST_TIME t_NAME_SIGNS) (G__law_same : Has P w K mg base 2 "_law_same" ["_law_found", "_law_due"] (z32 1)) : Has P w K mg base 3 "_law_same" ["_law_found", "_law_due"] (z32 2) := z8c F T G__law_same
def spNN : Sp := fun vs H Q _ => vs = [.non, .non] ∧ z4u H Q (.bl true)
theorem zcf (F : Def K mg "_law_same" z1n ["_law_found", "_law_due"]) (T : Txt K mg C_Asleep C_Awake C_BadSetup C_Council C_Keeper C_PausesSpent C_Store C_World t_MOST_HOLDERS t_MOST_KEEPERS t_MOST_LOCKS t_MOST_NAMES t_MOST_PAUSES t_MOST_SIGNS t_MOST_STORES t_MOST_TIME t_NAME_SIGNS) (G__law_same : Has P w K mg base 0 "_law_same" ["_law_found", "_law_due"] (z2d)) : Has P w K mg base 1 "_law_same" ["_law_found", "_law_due"] (spNN) := by
 refine F.ok z3b (fun vs H Q E h => ?_) (fun f cdv A outer s H vs Q E hr h => ?_)
 ·obtain ⟨rfl, _⟩ := h
  rfl
 ·have hu := hr.units0
  obtain ⟨rfl, q⟩ := h
  refine ⟨_, (@z6 _ _ _ _ _ (@zn _ _ _ _ _ _ _ _ (@z2g _ _ _ _ _ _ (@z2u _ _ _ _ _ (pv 1)) (by first | exact z11 _ (by decide) (by decide) | rfl)) (@z9 _ _ _ (@zg _ _ _ _ (@z5l _ _ _ _ _ _ (@z2u _ _ _ _ _ (pv 0)) (by first | exact z11 _ (by decide) (by decide) | rfl)))) zf) (@z6 _ _ _ _ _ (@zn _ _ _ _ _ _ _ _ (@z1u _ _ _ (@z8 _ _ _ _ _ _ _ _ _ z3e rfl T.b_isinstance (by decide +kernel) (@z0 _ _ _ _ _ (pv 1) (@z0 _ _ _ _ _ (@z17 _ _ _ _ _ (@z0 _ _ _ _ _ (@zd _ _ (.ty "list") _ _ rfl T.b_list (by decide +kernel) rfl (by decide) (by decide)) (@z0 _ _ _ _ _ (@zd _ _ (.ty "tuple") _ _ rfl T.b_tuple (by decide +kernel) rfl (by decide) (by decide)) z4 rfl) rfl)) z4 rfl) rfl) (by decide) (by decide) rfl rfl) (by intro _; rfl)) (@z6 _ _ _ _ _ (@zn _ _ _ _ _ _ _ _ (PW.pt (@z5m _ _ _ _ _ _ _ (@zt _ _ _ _ _ _ _ _ z26 (@z8 _ _ _ _ _ _ _ _ _ ze rfl T.b_isinstance (by decide +kernel) (@z0 _ _ _ _ _ (pv 0) (@z0 _ _ _ _ _ (@zd _ _ (.ty "list") _ _ rfl T.b_list (by decide +kernel) rfl (by decide) (by decide)) z4 rfl) rfl) (by decide) (by decide) rfl rfl) (@z8 _ _ _ _ _ _ _ _ _ ze rfl T.b_isinstance (by decide +kernel) (@z0 _ _ _ _ _ (pv 1) (@z0 _ _ _ _ _ (@zd _ _ (.ty "list") _ _ rfl T.b_list (by decide +kernel) rfl (by decide) (by decide)) z4 rfl) rfl) (by decide) (by decide) rfl rfl) (zj _)) (@z4d _ _ _ _ (@zt _ _ _ _ _ _ _ _ z26 (@z8 _ _ _ _ _ _ _ _ _ ze rfl T.b_isinstance (by decide +kernel) (@z0 _ _ _ _ _ (pv 0) (@z0 _ _ _ _ _ (@zd _ _ (.ty "tuple") _ _ rfl T.b_tuple (by decide +kernel) rfl (by decide) (by decide)) z4 rfl) rfl) (by decide) (by decide) rfl rfl) (@z8 _ _ _ _ _ _ _ _ _ ze rfl T.b_isinstance (by decide +kernel) (@z0 _ _ _ _ _ (pv 1) (@z0 _ _ _ _ _ (@zd _ _ (.ty "tuple") _ _ rfl T.b_tuple (by decide +kernel) rfl (by decide) (by decide)) z4 rfl) rfl) (by decide) (by decide) rfl rfl) (zj _))))) (@z9 _ _ _ (@zg _ _ _ _ z2o)) zf) (@z9 _ _ _ (@zg _ _ _ _ (@z1i _ _ _ _ _ _ _ (@z14 _ _ _ _ _ _ _ _ z12 (@z8 _ _ _ _ _ _ _ _ _ zh rfl T.b_len (by decide +kernel) (@z0 _ _ _ _ _ (pv 0) z4 rfl) (by decide) (by decide) rfl rfl) (@z8 _ _ _ _ _ _ _ _ _ zh rfl T.b_len (by decide +kernel) (@z0 _ _ _ _ _ (pv 1) z4 rfl) (by decide) (by decide) rfl rfl) (zj _)) (@z1h _ _ _ _ _ (@z8 _ _ _ _ _ _ _ _ _ (zy rfl) rfl T.b_all (by decide +kernel) (@z0 _ _ _ _ _ (@z1e _ _ "_law_k" (["_law_found", "_law_due"]) ([0, 1]) _ _ _ _ _ _ _ _ rfl ⟨rfl, by decide +kernel, by decide +kernel, rfl, zw rfl, by decide +kernel, ⟨⟨rfl, Or.inl rfl, rfl⟩, ⟨⟨rfl, Or.inl rfl, rfl⟩, trivial⟩⟩⟩ (@z1l _ _ _ _ _ _ rfl T.b_range (@z0 _ _ _ _ _ (@z8 _ _ _ _ _ _ _ _ _ zh rfl T.b_len (by decide +kernel) (@z0 _ _ _ _ _ (pv 1) z4 rfl) (by decide) (by decide) rfl rfl) z4 rfl) rfl) (fun _ _ _ _ => z1d) (fun _ _ _ _ => (@z10 _ _ _ _ _ _ _ _ _ _ G__law_same (hr.mono (by decide)) rfl (@z0 _ _ _ _ _ (@z15 _ _ _ _ _ _ _ (z1y (K := K)) (pv 1) (pv 0) (fun _ _ => rfl)) (@z0 _ _ _ _ _ (@z15 _ _ _ _ _ _ _ (z1y (K := K)) (pv 2) (pv 0) (fun _ _ => rfl)) z4 rfl) rfl) (by decide) rfl rfl)) (by intro _; rfl)) z4 rfl) (by decide) (by decide) rfl rfl)))))) zf) (@z6 _ _ _ _ _ (@zn _ _ _ _ _ _ _ _ (@zt _ _ _ _ _ _ _ _ z26 (@z8 _ _ _ _ _ _ _ _ _ ze rfl T.b_isinstance (by decide +kernel) (@z0 _ _ _ _ _ (pv 0) (@z0 _ _ _ _ _ (@zd _ _ (.ty "bool") _ _ rfl T.b_bool (by decide +kernel) rfl (by decide) (by decide)) z4 rfl) rfl) (by decide) (by decide) rfl rfl) (@z8 _ _ _ _ _ _ _ _ _ ze rfl T.b_isinstance (by decide +kernel) (@z0 _ _ _ _ _ (pv 1) (@z0 _ _ _ _ _ (@zd _ _ (.ty "bool") _ _ rfl T.b_bool (by decide +kernel) rfl (by decide) (by decide)) z4 rfl) rfl) (by decide) (by decide) rfl rfl) (zj _)) (@z9 _ _ _ (@zg _ _ _ _ z2o)) zf) (@z6 _ _ _ _ _ (@zn _ _ _ _ _ _ _ _ (@z1u _ _ _ (@z8 _ _ _ _ _ _ _ _ _ ze rfl T.b_isinstance (by decide +kernel) (@z0 _ _ _ _ _ (pv 1) (@z0 _ _ _ _ _ (@zd _ _ (.ty "int") _ _ rfl T.b_int (by decide +kernel) rfl (by decide) (by decide)) z4 rfl) rfl) (by decide) (by decide) rfl rfl) (by intro _; rfl)) (@z9 _ _ _ (@zg _ _ _ _ (@z1i _ _ _ _ _ _ _ (@z8 _ _ _ _ _ _ _ _ _ ze rfl T.b_isinstance (by decide +kernel) (@z0 _ _ _ _ _ (pv 0) (@z0 _ _ _ _ _ (@zd _ _ (.ty "int") _ _ rfl T.b_int (by decide +kernel) rfl (by decide) (by decide)) z4 rfl) rfl) (by decide) (by decide) rfl rfl) (@z1h _ _ _ _ _ (@z14 _ _ _ _ _ _ _ _ z12 (pv 0) (pv 1) (zj _)))))) zf) (@z9 _ _ _ (@zg _ _ _ _ (@z1i _ _ _ _ _ _ _ (@z8 _ _ _ _ _ _ _ _ _ ze rfl T.b_isinstance (by decide +kernel) (@z0 _ _ _ _ _ (pv 0) (@z0 _ _ _ _ _ (@zd _ _ (.ty "str") _ _ rfl T.b_str (by decide +kernel) rfl (by decide) (by decide)) z4 rfl) rfl) (by decide) (by decide) rfl rfl) (@z1h _ _ _ _ _ (@z14 _ _ _ _ _ _ _ _ z12 (pv 0) (pv 1) (zj _)))))))))), ?_⟩
  walk_at "rd"
  have := q H (Same.refl _)
  simpa using this
def z5i : Sp := fun vs H Q E => z32 2 vs H Q E ∨ spNN vs H Q E
theorem zbq : ∀ (l : List Str) (p : Str), PyProof.Rows.risingS p l = true → (p :: l).Pairwise (fun a b => a.cps.toList ≤ b.cps.toList)
 | [], p, _ => List.pairwise_singleton _ _
 | x :: l, p, h => by
  unfold PyProof.Rows.risingS at h
  rw [Bool.and_eq_true, PyProof.Rows.ltCps_eq] at h
  obtain ⟨h1, h2⟩ := h
  have hle : p.cps.toList ≤ x.cps.toList := by simpa using h1
  have ih := zbq l x h2
  refine List.pairwise_cons.mpr ⟨fun y m => ?_, ih⟩
  rcases List.mem_cons.mp m with rfl | m
  ·exact hle
  ·exact List.le_trans hle ((List.pairwise_cons.mp ih).1 y m)
theorem z6y : ∀ (l : List Str), PyProof.Rows.sortedS l = true → l.Pairwise (fun a b => a.cps.toList ≤ b.cps.toList)
 | [], _ => List.Pairwise.nil
 | x :: l, h => zbq l x h
theorem zaa {l l' : List Str} (h : PyProof.Rows.sortedS l = true) (h' : PyProof.Rows.sortedS l' = true) (p : l.Perm l') : l = l' :=
 List.Perm.eq_of_pairwise (fun a b _ _ h1 h2 => by
  have e := List.le_antisymm h1 h2
  cases a; cases b
  simpa using e) (z6y l h) (z6y l' h') p
structure Ad where
 x : Addr
 dx : Addr
 c : Addr
 lh : Addr
 ll : Addr
 ls : Addr
 st : Addr
 ca : Addr
 wa : Addr
 as : Addr
 lo : Addr
 en : Addr
def asD (D : List (Str × Int)) : List (Key × V) := D.map fun q => (Sum.inr q.1, V.int q.2)
structure WAt (CW : Addr) (A : Ad) (hs : List Str) (now n : Int) (D : List (Str × Int)) (T : List (Addr × List V)) (H : Hp) : Prop where
 ix : H A.x = some (.ins CW A.dx (wf now A.c A.lh A.ll A.ls A.st A.ca A.wa A.as n A.lo A.en))
 gh : H A.lh = some (.lst (hs.map V.str))
 gc : H A.ca = some (.dK [])
 ge : H A.en = some (.dK [])
 gs : H A.as = some (.dK (asD D))
 gl : H A.lo = some (.lst (T.map fun q => V.ref q.1))
 gt : ∀ q ∈ T, H q.1 = some (.tup q.2)
 n1 : A.as ≠ A.ca
 n2 : A.as ≠ A.en
 n3 : A.lo ≠ A.lh
def WAd (A : Ad) : List Addr := [A.x, A.as, A.lo]
def BtA (L : List Addr) (H H' : Hp) : Prop := ∀ b o, H b = some o → b ∉ L → H' b = some o
theorem BtA.of {L : List Addr} {H H' : Hp} (s : Same H H') : BtA L H H' := fun b o e _ => s b o e
theorem BtA.trans {L : List Addr} {H H' H2 : Hp} (a : BtA L H H') (b : BtA L H' H2) : BtA L H H2 := fun c o e n => b c o (a c o e n) n
theorem BtA.put {L : List Addr} {H H' : Hp} (a : BtA L H H') {p : Addr} (hp : p ∈ L) (o : HO) : BtA L H (upd H' p o) := fun c u e n => by
 rw [z7 (fun z => n (by rw [z]; exact hp))]; exact a c u e n
theorem BtA.new {L : List Addr} {H H' : Hp} (a : BtA L H H') {p : Addr} (hp : H' p = none) (o : HO) : BtA L H (upd H' p o) := a.trans (.of (Same.upd hp))
theorem WAt.mono {CW : Addr} {A : Ad} {hs : List Str} {now n : Int} {D : List (Str × Int)} {T : List (Addr × List V)} {H H' : Hp} (h : WAt CW A hs now n D T H) (s : Same H H') : WAt CW A hs now n D T H' :=
 ⟨s _ _ h.ix, s _ _ h.gh, s _ _ h.gc, s _ _ h.ge, s _ _ h.gs, s _ _ h.gl, fun q m => s _ _ (h.gt q m), h.n1, h.n2, h.n3⟩
theorem BtA.none {CW : Addr} {A : Ad} {hs : List Str} {now n : Int} {D : List (Str × Int)} {T : List (Addr × List V)} {H H' : Hp} (b : BtA (WAd A) H H') (w : WAt CW A hs now n D T H') {p : Addr} (hp : H' p = none) : H p = none := by
 cases e : H p with
 | none => rfl
 | some u =>
  by_cases m : p ∈ WAd A
  ·simp only [WAd, List.mem_cons, List.not_mem_nil, or_false] at m
   rcases m with rfl | rfl | rfl
   ·rw [w.ix] at hp; cases hp
   ·rw [w.gs] at hp; cases hp
   ·rw [w.gl] at hp; cases hp
  ·rw [b p u e m] at hp; cases hp
theorem z6k (D : List (Str × Int)) (z : Str) : valV (asD D) (Sum.inr z : Key) = (D.find? fun q => decide (q.1 = z)).map fun q => V.int q.2 := by
 unfold asD
 induction D with
 | nil => rfl
 | cons q D ih =>
  by_cases h : q.1 = z
  ·rw [List.map_cons, z42 (by rw [h]), List.find?_cons, decide_eq_true h]
   rfl
  ·rw [List.map_cons, z43 (by intro e; exact h (Sum.inr.inj e)), ih, List.find?_cons, decide_eq_false h]
theorem zcg {D : List (Str × Int)} {z : Str} (h : z ∉ D.map (·.1)) : valV (asD D) (Sum.inr z : Key) = none := by
 rw [z6k, List.find?_eq_none.mpr (fun q m e => h (List.mem_map.mpr ⟨q, m, of_decide_eq_true e⟩))]
 rfl
theorem z8d {D : List (Str × Int)} {z : Str} {t : Int} (h : (z, t) ∈ D) (nd : (D.map (·.1)).Nodup) : valV (asD D) (Sum.inr z : Key) = some (.int t) := by
 rw [z6k]
 induction D with
 | nil => cases h
 | cons q D ih =>
  rw [List.map_cons, List.nodup_cons] at nd
  rcases List.mem_cons.mp h with rfl | h
  ·rw [List.find?_cons, decide_eq_true rfl]
   rfl
  ·have : q.1 ≠ z := fun e => nd.1 (by rw [e]; exact List.mem_map.mpr ⟨_, h, rfl⟩)
   rw [List.find?_cons, decide_eq_false this]
   exact ih h nd.2
theorem z9k {D : List (Str × Int)} {z : Str} {t : Int} (h : z ∉ D.map (·.1)) : putK (asD D) (Sum.inr z : Key) (.int t) = asD (D ++ [(z, t)]) := by
 rw [zc5 _ (zcg h)]
 unfold asD
 rw [List.map_append]
 rfl
theorem z8e (D : List (Str × Int)) (z : Str) : z41 (asD D) (Sum.inr z : Key) = asD (D.filter fun q => decide (q.1 ≠ z)) := by
 unfold z41 asD
 rw [List.filter_map]
 congr 1
 apply List.filter_congr
 intro q _
 simp only [Function.comp_apply, ne_eq, Sum.inr.injEq]
theorem z8f (D : List (Str × Int)) : (asD D).map (·.1) = (D.map (·.1)).map Sum.inr := by
 unfold asD
 rw [List.map_map, List.map_map]
 rfl
theorem z66 (D : List (Str × Int)) (z : Str) : (valV (asD D) (Sum.inr z : Key)).isSome = decide (z ∈ D.map (·.1)) := by
 rw [z6k, Option.isSome_map, Bool.eq_iff_iff, List.find?_isSome]
 simp
theorem zdm (zs : List Str) : (zs.map V.str).all z2q = true := by
 rw [List.all_map]
 exact List.all_eq_true.mpr fun _ _ => rfl
section
variable {CW : Addr} {A : Ad} {hs : List Str} {now n : Int} {D : List (Str × Int)} {T : List (Addr × List V)} {H : Hp}
theorem WAt.setx (h : WAt CW A hs now n D T H) (now' n' : Int) : WAt CW A hs now' n' D T (upd H A.x (.ins CW A.dx (wf now' A.c A.lh A.ll A.ls A.st A.ca A.wa A.as n' A.lo A.en))) := by
 have f : ∀ {b o}, H b = some o → (∀ C dx fs, o ≠ .ins C dx fs) → upd H A.x (.ins CW A.dx (wf now' A.c A.lh A.ll A.ls A.st A.ca A.wa A.as n' A.lo A.en)) b = some o := fun {b o} e k => by
  rw [z7 (z19 e h.ix (k _ _ _))]; exact e
 exact ⟨z5, f h.gh (by intros; nofun), f h.gc (by intros; nofun), f h.ge (by intros; nofun), f h.gs (by intros; nofun), f h.gl (by intros; nofun), fun q m => f (h.gt q m) (by intros; nofun), h.n1, h.n2, h.n3⟩
theorem WAt.sets (h : WAt CW A hs now n D T H) (D' : List (Str × Int)) : WAt CW A hs now n D' T (upd H A.as (.dK (asD D'))) := by
 have f : ∀ {b o}, H b = some o → (∀ kvs, o ≠ .dK kvs) → upd H A.as (.dK (asD D')) b = some o := fun {b o} e k => by
  rw [z7 (z19 e h.gs (k _))]; exact e
 exact ⟨f h.ix (by intros; nofun), f h.gh (by intros; nofun), by rw [z7 h.n1.symm]; exact h.gc, by rw [z7 h.n2.symm]; exact h.ge, z5, f h.gl (by intros; nofun), fun q m => f (h.gt q m) (by intros; nofun), h.n1, h.n2, h.n3⟩
theorem WAt.logd (h : WAt CW A hs now n D T H) {p : Addr} {v : List V} (hp : H p = some (.tup v)) : WAt CW A hs now n D (T ++ [(p, v)]) (upd H A.lo (.lst (T.map (fun q => V.ref q.1) ++ [.ref p]))) := by
 have f : ∀ {b o}, H b = some o → (∀ xs, o ≠ .lst xs) → upd H A.lo (.lst (T.map (fun q => V.ref q.1) ++ [.ref p])) b = some o := fun {b o} e k => by
  rw [z7 (z19 e h.gl (k _))]; exact e
 refine ⟨f h.ix (by intros; nofun), by rw [z7 h.n3.symm]; exact h.gh, f h.gc (by intros; nofun), f h.ge (by intros; nofun), f h.gs (by intros; nofun), by rw [z5, List.map_append]; rfl, fun q m => ?_, h.n1, h.n2, h.n3⟩
 rcases List.mem_append.mp m with m | m
 ·exact f (h.gt q m) (by intros; nofun)
 ·rw [List.mem_singleton.mp m]; exact f hp (by intros; nofun)
end
def zbr : Sp := fun vs H Q _ => ∃ n : Int, vs = [.int n] ∧ 1 ≤ n ∧ n ≤ 1000 ∧ Q .non H
theorem z7d (F : Def K mg "check_time" z37 ["ticks"]) (T : Txt K mg C_Asleep C_Awake C_BadSetup C_Council C_Keeper C_PausesSpent C_Store C_World t_MOST_HOLDERS t_MOST_KEEPERS t_MOST_LOCKS t_MOST_NAMES t_MOST_PAUSES t_MOST_SIGNS t_MOST_STORES t_MOST_TIME t_NAME_SIGNS) : Has P w K mg base 1 "check_time" ["ticks"] (zbr) := by
 refine F.ok z77 (fun vs H Q E h => ?_) (fun f cdv A outer s H vs Q E hr h => ?_)
 ·obtain ⟨n, rfl, _⟩ := h
  rfl
 ·obtain ⟨n, rfl, h1, h2, q⟩ := h
  refine ⟨_, (@z9 _ _ _ (@zn _ _ _ _ _ _ _ _ (@z5n _ _ _ _ (@zbx _ _ _ _ _ _ _ _ _ _ _ _ z2z z2z zb (pv 0) (@z1r _ _ (.int 1000) _ _ rfl T.c_MOST_TIME ⟨_, rfl⟩ (by decide)) (by with_unfolding_all rfl))) (@z9 _ _ _ (@z7k _ _)) zf)), ?_⟩
  walk_at "rd"
  rw [if_pos (decide_eq_true h1), if_neg (by simpa using h2)]
  exact q
def z46 (CW : Addr) : Sp := fun vs H Q _ => ∃ (A : Ad) (hs : List Str) (now n : Int) (D : List (Str × Int)) (T : List (Addr × List V)) (z : Str), vs = [.ref A.x, .str z] ∧ WAt CW A hs now n D T H ∧ hs.length ≤ 60 ∧ z ∈ hs ∧ Q .non H
theorem z3v (F : MDef K C_World "check_holder" "World.check_holder" z1q ["self", "holder"]) (T : Txt K mg C_Asleep C_Awake C_BadSetup C_Council C_Keeper C_PausesSpent C_Store C_World t_MOST_HOLDERS t_MOST_KEEPERS t_MOST_LOCKS t_MOST_NAMES t_MOST_PAUSES t_MOST_SIGNS t_MOST_STORES t_MOST_TIME t_NAME_SIGNS) : MHas P w K mg base CX0 1 C_World "check_holder" ["self", "holder"] (z46 C_World) := by
 refine F.ok z3u (fun vs H Q E h => ?_) (fun f cdv A outer s H vs Q E hr h => ?_)
 ·obtain ⟨A, hs, now, n, D, T', z, rfl, _⟩ := h
  rfl
 ·obtain ⟨A, hs, now, n, D, T', z, rfl, hw, hl, hz, q⟩ := h
  have hu := hr.units0
  refine ⟨_, (@z9 _ _ _ (@zn _ _ _ _ _ _ _ _ (@zt _ _ _ _ _ _ _ _ z7s (pv 1) (@z16 _ _ _ _ _ (pv 0) rfl) (by with_unfolding_all rfl)) (@z9 _ _ _ (@z7k _ _)) zf)), ?_⟩
  walk_at "rd"
  refine ⟨_, _, _, hw.ix, T.cl_World, T.n_World_holders, _, rfl, A.lh, _, rfl, .inl (SqL.of hw.gh), rfl, zdm hs, _, rfl, ?_⟩
  rw [if_pos rfl, z9j, decide_eq_true hz, if_neg (by decide)]
  exact q
def z9l (CW CA : Addr) : Sp := fun vs H Q E => ∃ (A : Ad) (hs : List Str) (now n : Int) (D : List (Str × Int)) (T : List (Addr × List V)) (z : Str), vs = [.ref A.x, .str z] ∧ WAt CW A hs now n D T H ∧
 (z ∉ D.map (·.1) → Q .non H) ∧ (z ∈ D.map (·.1) → E (.ref CA) none H)
theorem z47 (F : MDef K C_World "check_awake" "World.check_awake" z1s ["self", "holder"]) (T : Txt K mg C_Asleep C_Awake C_BadSetup C_Council C_Keeper C_PausesSpent C_Store C_World t_MOST_HOLDERS t_MOST_KEEPERS t_MOST_LOCKS t_MOST_NAMES t_MOST_PAUSES t_MOST_SIGNS t_MOST_STORES t_MOST_TIME t_NAME_SIGNS) : MHas P w K mg base (CX1 P w) 1 C_World "check_awake" ["self", "holder"] (z9l C_World C_Asleep) := by
 refine F.okx z45 (fun vs H Q E h => ?_) (fun f cdv A outer s H vs Q E hr h => ?_)
 ·obtain ⟨A, hs, now, n, D, T', z, rfl, _⟩ := h
  rfl
 ·obtain ⟨A, hs, now, n, D, T', z, rfl, hw, q, e⟩ := h
  have hu := hr.units0
  have hu2 := z4t hr
  refine ⟨_, (@z9 _ _ _ (@zn _ _ _ _ _ _ _ _ (@z2g _ _ _ _ _ _ (@z5z _ _ _ _ _ hu2 (pv 1) (@z16 _ _ _ _ _ (pv 0) rfl)) (by first | exact z11 _ (by decide) (by decide) | rfl)) (@z9 _ _ _ (@z40 _ _ _ _ _ _ _ _ _ _ _ _ _ _ z3d rfl PySem.F.excBase_ValueError T.x_Asleep rfl T.g_Asleep (@z0 _ _ _ _ _ zl z4 rfl) rfl rfl (by decide))) zf)), ?_⟩
  walk_at "rd"
  refine ⟨_, _, _, hw.ix, T.cl_World, T.n_World_asleep_since, _, rfl, _, rfl, _, DGet.k (k := Sum.inr z) hw.gs, ?_⟩
  rw [z66]
  by_cases hz : z ∈ D.map (·.1)
  ·rw [if_pos (decide_eq_true hz)]
   exact ⟨by decide, e hz⟩
  ·rw [if_neg (by simpa using hz)]
   exact q hz
def z9m (CW CA CP : Addr) : Sp := fun vs H Q E => ∃ (A : Ad) (hs : List Str) (now n : Int) (D : List (Str × Int)) (T : List (Addr × List V)) (z : Str), vs = [.ref A.x, .str z] ∧ WAt CW A hs now n D T H ∧ hs.length ≤ 60 ∧ z ∈ hs ∧ D.length ≤ 60 ∧ T.length ≤ 900 ∧
 (z ∈ D.map (·.1) → E (.ref CA) none H) ∧ (z ∉ D.map (·.1) → 20 ≤ n → E (.ref CP) none H) ∧
 (z ∉ D.map (·.1) → n < 20 → ∀ (p : Addr) (H' : Hp), WAt CW A hs now (n + 1) (D ++ [(z, now)]) (T ++ [(p, [.str "pause", .int now, .str z])]) H' → BtA (WAd A) H H' → Q .non H')
theorem z6l (F : MDef K C_World "pause" "World.pause" z2x ["self", "holder"]) (T : Txt K mg C_Asleep C_Awake C_BadSetup C_Council C_Keeper C_PausesSpent C_Store C_World t_MOST_HOLDERS t_MOST_KEEPERS t_MOST_LOCKS t_MOST_NAMES t_MOST_PAUSES t_MOST_SIGNS t_MOST_STORES t_MOST_TIME t_NAME_SIGNS) (G_World_check_holder : MHas P w K mg base CX0 1 C_World "check_holder" ["self", "holder"] (z46 C_World)) (G_World_check_awake : MHas P w K mg base (CX1 P w) 1 C_World "check_awake" ["self", "holder"] (z9l C_World C_Asleep)) : MHas P w K mg base (CX1 P w) 2 C_World "pause" ["self", "holder"] (z9m C_World C_Asleep C_PausesSpent) := by
 refine F.okx z6h (fun vs H Q E h => ?_) (fun f cdv A outer s H vs Q E hr h => ?_)
 ·obtain ⟨A, hs, now, n, D, T', z, rfl, _⟩ := h
  rfl
 ·obtain ⟨A, hs, now, n, D, T', z, rfl, hw, hl, hz, hD, hT, e1, e2, q⟩ := h
  have hu := hr.units0
  have hu2 := z4t hr
  refine ⟨_, (@z6 _ _ _ _ _ (@z1o _ _ _ _ (@z3r _ _ _ _ _ _ _ _ _ _ _ _ _ _ G_World_check_holder T.cl_World (hr.mono (by decide)) (pv 0) (@z0 _ _ _ _ _ (pv 1) z4 rfl) rfl rfl rfl) rfl) (@z6 _ _ _ _ _ (@z1o _ _ _ _ (@zdh _ _ _ _ _ _ _ _ _ _ _ _ _ _ _ zb6 G_World_check_awake T.cl_World (hr.mono (by decide)) (pv 0) (@z0 _ _ _ _ _ (pv 1) z4 rfl) rfl rfl rfl) rfl) (@z6 _ _ _ _ _ (@zn _ _ _ _ _ _ _ _ (@zt _ _ _ _ _ _ _ _ zcn (@z16 _ _ _ _ _ (pv 0) rfl) (@z1r _ _ (.int 20) _ _ rfl T.c_MOST_PAUSES ⟨_, rfl⟩ (by decide)) (zj _)) (@z9 _ _ _ (@z40 _ _ _ _ _ _ _ _ _ _ _ _ _ _ z3d rfl PySem.F.excBase_ValueError T.x_PausesSpent rfl T.g_PausesSpent (@z0 _ _ _ _ _ zl z4 rfl) rfl rfl (by decide))) zf) (@z6 _ _ _ _ _ (@z6n _ _ _ _ _ _ _ _ _ _ (pv 0) zb zas) (@z6 _ _ _ _ _ (@z9c _ _ _ _ _ _ _ _ _ hu2 (@z16 _ _ _ _ _ (pv 0) rfl) (pv 1) (@z16 _ _ _ _ _ (pv 0) rfl) rfl) (@z9 _ _ _ (@z1o _ _ _ _ (@z4s _ _ _ _ _ _ _ _ _ _ _ _ PySem.F.plainAttrs_list PySem.F.slot_list_append PySem.F.type_list_append z2v (@z16 _ _ _ _ _ (pv 0) rfl) (@z0 _ _ _ _ _ (@z17 _ _ _ _ _ (@z0 _ _ _ _ _ zl (@z0 _ _ _ _ _ (@z16 _ _ _ _ _ (pv 0) rfl) (@z0 _ _ _ _ _ (pv 1) z4 rfl) rfl) rfl)) z4 rfl) rfl rfl rfl rfl rfl) rfl))))))), ?_⟩
  walk_at "rd"
  refine ⟨_, _, hw.ix, rfl, A, hs, now, n, D, T', z, rfl, hw, hl, hz, _, _, hw.ix, rfl, A, hs, now, n, D, T', z, rfl, hw, fun nz => ?_, fun mz => e1 mz⟩
  refine ⟨_, _, _, hw.ix, T.cl_World, T.n_World_pauses, _, rfl, n, rfl, ?_⟩
  by_cases h20 : 20 ≤ n
  ·rw [if_pos (decide_eq_true h20)]
   exact ⟨by decide, e2 nz h20⟩
  rw [if_neg (by simpa using h20)]
  refine ⟨_, _, _, hw.ix, T.cl_World, T.n_World_pauses, _, rfl, n, rfl, _, _, hw.ix, by show 12 < 1000; decide, ?_⟩
  have b1 : BtA (WAd A) H _ := (BtA.of (Same.refl H)).put (p := A.x) (by simp [WAd]) (.ins C_World A.dx (wf now A.c A.lh A.ll A.ls A.st A.ca A.wa A.as (n + 1) A.lo A.en))
  have w1 := hw.setx now (n + 1)
  rw [show putF (Str.ofString "pauses") (V.int (n + 1)) (wf now A.c A.lh A.ll A.ls A.st A.ca A.wa A.as n A.lo A.en) = wf now A.c A.lh A.ll A.ls A.st A.ca A.wa A.as (n + 1) A.lo A.en from rfl]
  generalize upd H A.x (.ins C_World A.dx (wf now A.c A.lh A.ll A.ls A.st A.ca A.wa A.as (n + 1) A.lo A.en)) = H1 at b1 w1 ⊢
  refine ⟨_, _, _, w1.ix, T.cl_World, T.n_World_now, _, rfl, _, _, _, w1.ix, T.cl_World, T.n_World_asleep_since, _, rfl, _, rfl, _, DPut.k (k := Sum.inr z) w1.gs (by unfold asD; rw [List.length_map]; exact z1w (by omega)), ?_⟩
  rw [show V.int now = V.int now from rfl, z9k nz]
  have b2 := b1.put (p := A.as) (by simp [WAd]) (.dK (asD (D ++ [(z, now)])))
  have w2 := w1.sets (D ++ [(z, now)])
  generalize upd H1 A.as (.dK (asD (D ++ [(z, now)]))) = H2 at b2 w2 ⊢
  refine ⟨_, _, _, w2.ix, T.cl_World, T.n_World_logged, _, rfl, .inl ⟨_, SqL.of w2.gl⟩, _, _, _, w2.ix, T.cl_World, T.n_World_now, _, rfl, by decide, fun p hp => ?_⟩
  have b3 := b2.new hp (.tup [.str "pause", .int now, .str z])
  have w3 := w2.mono (Same.upd (o := .tup [.str "pause", .int now, .str z]) hp)
  refine ⟨_, _, _, rfl, rfl, w3.gl, by rw [List.length_map]; exact z1w (by omega), ?_⟩
  exact q nz (by omega) p _ (w3.logd z5) (b3.put (by simp [WAd]) _)
def z6z (CW : Addr) : Sp := fun vs H Q _ => ∃ (A : Ad) (hs : List Str) (now n : Int) (D : List (Str × Int)) (T : List (Addr × List V)) (z : Str), vs = [.ref A.x, .str z] ∧ WAt CW A hs now n D T H ∧ hs.length ≤ 60 ∧ z ∈ hs ∧
 ∀ (r : Addr) (H' : Hp), H r = none → H' r = some (.lst []) → Same H H' → Q (.ref r) H'
theorem z5j (F : MDef K C_World "carried" "World.carried" z2k ["self", "holder"]) (T : Txt K mg C_Asleep C_Awake C_BadSetup C_Council C_Keeper C_PausesSpent C_Store C_World t_MOST_HOLDERS t_MOST_KEEPERS t_MOST_LOCKS t_MOST_NAMES t_MOST_PAUSES t_MOST_SIGNS t_MOST_STORES t_MOST_TIME t_NAME_SIGNS) (G_World_check_holder : MHas P w K mg base CX0 1 C_World "check_holder" ["self", "holder"] (z46 C_World)) : MHas P w K mg base CX0 2 C_World "carried" ["self", "holder"] (z6z C_World) := by
 refine F.ok z5h (fun vs H Q E h => ?_) (fun f cdv A outer s H vs Q E hr h => ?_)
 ·obtain ⟨A, hs, now, n, D, T', z, rfl, _⟩ := h
  rfl
 ·obtain ⟨A, hs, now, n, D, T', z, rfl, hw, hl, hz, q⟩ := h
  have hu := hr.units0
  refine ⟨_, (@z6 _ _ _ _ _ (@z1o _ _ _ _ (@z3r _ _ _ _ _ _ _ _ _ _ _ _ _ _ G_World_check_holder T.cl_World (hr.mono (by decide)) (pv 0) (@z0 _ _ _ _ _ (pv 1) z4 rfl) rfl rfl rfl) rfl) (@z9 _ _ _ (@zg _ _ _ _ (@z8 _ _ _ _ _ _ _ _ _ z4k rfl T.b_sorted (by decide +kernel) (@z0 _ _ _ _ _ (@zdj _ _ _ (@zc8 _ _ "key" "carry" (["holder"]) ([1]) _ _ _ _ _ _ _ _ _ rfl ⟨rfl, by decide +kernel, by decide +kernel, rfl, rfl, zw rfl, by decide +kernel, ⟨⟨rfl, Or.inl rfl, rfl⟩, trivial⟩⟩ (fun _ _ _ _ => zbj (K := K) rfl (z3w (z2b (i := 0) (show List.Nodup [("key" : Str), ("carry" : Str), ("holder" : Str)] from by decide +kernel) rfl (Or.inl rfl)) (z3w (z2b (i := 1) (show List.Nodup [("key" : Str), ("carry" : Str), ("holder" : Str)] from by decide +kernel) rfl (Or.inl rfl)) z90))) (@zbm _ _ _ _ _ _ (@z16 _ _ _ _ _ (pv 0) rfl) rfl rfl) (fun _ _ _ _ => (@zdd _ _ _ (@zt _ _ _ _ _ _ _ _ z12 (@z15 _ _ _ _ _ _ _ (zbc (K := K)) (pv 0) zb (fun _ _ => rfl)) (pv 2) (zj _)))) (fun _ _ _ _ => (pv 1)) (by intro _; rfl))) z4 rfl) (by decide) (by decide) rfl rfl)))), ?_⟩
  walk_at "rd"
  refine ⟨_, _, hw.ix, rfl, A, hs, now, n, D, T', z, rfl, hw, hl, hz, _, _, _, hw.ix, T.cl_World, T.n_World_carries, _, rfl, _, rfl, hw.gc, fun o => ?_⟩
  refine z8s 0 (Nat.zero_le _) (fun i acc H' => i = 0 ∧ acc = [] ∧ H' = upd H A.ca (.frz o (.dK []))) ⟨rfl, rfl, rfl⟩ (by rintro i acc H' ⟨_, rfl, _⟩; exact Nat.zero_le _) (fun i acc H' hi => absurd hi (by omega)) (by rintro acc H' ⟨_, _, rfl⟩; exact ⟨rfl, z5⟩) (fun i acc H' x H2 hi => absurd hi (by omega)) ?_
  rintro acc H' ⟨-, rfl, rfl⟩ p hp
  have npc : p ≠ A.ca := fun e => by rw [e, z5] at hp; cases hp
  refine ⟨A.ca, o, .dK [], hw.gc, True.intro, by rw [z7 npc.symm, z5], p, rfl, [], SqL.of (by rw [z7 npc, z5]; rfl), by decide, fun l ks hl0 hks _ => ?_⟩
  have ek : ks = [] := hks.eq_nil
  subst ek
  have sm : Same H (upd (upd (upd H A.ca (.frz o (.dK []))) p (.lst [])) A.ca (.dK [])) := fun b u e => by
   by_cases hb : b = A.ca
   ·rw [hb] at e ⊢
    rw [z5, ← e]; exact hw.gc.symm
   ·rw [z7 hb, z7 (fun z => by rw [← z, z7 hb, e] at hp; cases hp), z7 hb]; exact e
  have hl1 : H l = none := by
   cases e : H l with
   | none => rfl
   | some u => rw [sm _ _ e] at hl0; cases hl0
  exact q l _ hl1 z5 (sm.trans (Same.upd hl0))
def zbs (CW CA : Addr) : Sp := fun vs H Q E => ∃ (A : Ad) (hs : List Str) (now n : Int) (D : List (Str × Int)) (T : List (Addr × List V)) (z : Str), vs = [.ref A.x, .str z] ∧ WAt CW A hs now n D T H ∧ hs.length ≤ 60 ∧ z ∈ hs ∧ T.length ≤ 900 ∧ (D.map (·.1)).Nodup ∧
 (z ∉ D.map (·.1) → E (.ref CA) none H) ∧
 (∀ t, (z, t) ∈ D → ∀ (p r : Addr) (H' : Hp), WAt CW A hs now n (D.filter fun q => decide (q.1 ≠ z)) (T ++ [(p, [.str "wake", .int now, .str z, .int t])]) H' → H r = none → H' r = some (.lst []) → BtA (WAd A) H H' → Q (.ref r) H')
theorem z7e (F : MDef K C_World "wake" "World.wake" z38 ["self", "holder"]) (T : Txt K mg C_Asleep C_Awake C_BadSetup C_Council C_Keeper C_PausesSpent C_Store C_World t_MOST_HOLDERS t_MOST_KEEPERS t_MOST_LOCKS t_MOST_NAMES t_MOST_PAUSES t_MOST_SIGNS t_MOST_STORES t_MOST_TIME t_NAME_SIGNS) (G_World_check_holder : MHas P w K mg base CX0 1 C_World "check_holder" ["self", "holder"] (z46 C_World)) (G_World_became : MHas P w K mg base CX0 1 C_World "became" ["self", "carry"] (z2d)) (G_World_carried : MHas P w K mg base CX0 2 C_World "carried" ["self", "holder"] (z6z C_World)) : MHas P w K mg base (CX1 P w) 3 C_World "wake" ["self", "holder"] (zbs C_World C_Awake) := by
 refine F.okx z78 (fun vs H Q E h => ?_) (fun f cdv A outer s H vs Q E hr h => ?_)
 ·obtain ⟨A, hs, now, n, D, T', z, rfl, _⟩ := h
  rfl
 ·obtain ⟨A, hs, now, n, D, T', z, rfl, hw, hl, hz, hT, hnd, e1, q⟩ := h
  have hu := hr.units0
  have hu2 := z4t hr
  refine ⟨_, (@z6 _ _ _ _ _ (@z1o _ _ _ _ (@z3r _ _ _ _ _ _ _ _ _ _ _ _ _ _ G_World_check_holder T.cl_World (hr.mono (by decide)) (pv 0) (@z0 _ _ _ _ _ (pv 1) z4 rfl) rfl rfl rfl) rfl) (@z6 _ _ _ _ _ (@zn _ _ _ _ _ _ _ _ (@z2g _ _ _ _ _ _ (@zbe _ _ _ _ _ hu2 (pv 1) (@z16 _ _ _ _ _ (pv 0) rfl)) (by first | exact z11 _ (by decide) (by decide) | rfl)) (@z9 _ _ _ (@z40 _ _ _ _ _ _ _ _ _ _ _ _ _ _ z3d rfl PySem.F.excBase_ValueError T.x_Awake rfl T.g_Awake (@z0 _ _ _ _ _ zl z4 rfl) rfl rfl (by decide))) zf) (@z6 _ _ _ _ _ (@z1o _ _ _ _ (@z4s _ _ _ _ _ _ _ _ _ _ _ _ PySem.F.plainAttrs_list PySem.F.slot_list_append PySem.F.type_list_append z2v (@z16 _ _ _ _ _ (pv 0) rfl) (@z0 _ _ _ _ _ (@z17 _ _ _ _ _ (@z0 _ _ _ _ _ zl (@z0 _ _ _ _ _ (@z16 _ _ _ _ _ (pv 0) rfl) (@z0 _ _ _ _ _ (pv 1) (@z0 _ _ _ _ _ (@z7y _ _ _ _ _ _ _ (@z16 _ _ _ _ _ (pv 0) rfl) (pv 1) ⟨rfl, rfl, rfl, rfl⟩) z4 rfl) rfl) rfl) rfl)) z4 rfl) rfl rfl rfl rfl rfl) rfl) (@z9 _ _ _ (@zg _ _ _ _ (@z1e _ _ "carry" (["self"]) ([0]) _ _ _ _ _ _ _ _ rfl ⟨rfl, by decide +kernel, by decide +kernel, rfl, zw rfl, by decide +kernel, ⟨⟨rfl, Or.inl rfl, rfl⟩, trivial⟩⟩ (@z2c _ _ _ _ (@z3r _ _ _ _ _ _ _ _ _ _ _ _ _ _ G_World_carried T.cl_World (hr.mono (by decide)) (pv 0) (@z0 _ _ _ _ _ (pv 1) z4 rfl) rfl rfl rfl)) (fun _ _ _ _ => z1d) (fun _ _ _ _ => (@z17 _ _ _ _ _ (@z0 _ _ _ _ _ (@z15 _ _ _ _ _ _ _ (z5f (K := K)) (pv 0) zb (fun _ _ => rfl)) (@z0 _ _ _ _ _ (@z15 _ _ _ _ _ _ _ (z5f (K := K)) (pv 0) zb (fun _ _ => rfl)) (@z0 _ _ _ _ _ (@z15 _ _ _ _ _ _ _ (z5f (K := K)) (pv 0) zb (fun _ _ => rfl)) (@z0 _ _ _ _ _ (@z3r _ _ _ _ _ _ _ _ _ _ _ _ _ _ G_World_became T.cl_World (hr.mono (by decide)) (pv 1) (@z0 _ _ _ _ _ (pv 0) z4 rfl) rfl rfl rfl) z4 rfl) rfl) rfl) rfl))) (by intro _; rfl))))))), ?_⟩
  walk_at "rd"
  refine ⟨_, _, hw.ix, rfl, A, hs, now, n, D, T', z, rfl, hw, hl, hz, _, _, _, hw.ix, T.cl_World, T.n_World_asleep_since, _, rfl, _, rfl, _, DGet.k (k := Sum.inr z) hw.gs, ?_⟩
  rw [z66]
  by_cases mz : z ∈ D.map (·.1)
  ·obtain ⟨⟨z', t⟩, m, e⟩ := List.mem_map.mp mz
   have e : z' = z := e
   subst e
   rw [decide_eq_true mz, if_neg (by decide)]
   refine ⟨_, _, _, hw.ix, T.cl_World, T.n_World_logged, _, rfl, .inl ⟨_, SqL.of hw.gl⟩, _, _, _, hw.ix, T.cl_World, T.n_World_now, _, rfl, _, _, _, hw.ix, T.cl_World, T.n_World_asleep_since, _, rfl, _, rfl, .inl ⟨_, .inl hw.gs⟩, _, hw.gs, Sum.inr z', rfl, _, z8d m hnd, by decide, fun p hp => ?_⟩
   rw [z8e] at hp ⊢
   have b1 : BtA (WAd A) H _ := (BtA.of (Same.refl H)).put (p := A.as) (by simp [WAd]) (.dK (asD (D.filter fun q => decide (q.1 ≠ z'))))
   have w1 := hw.sets (D.filter fun q => decide (q.1 ≠ z'))
   generalize upd H A.as (.dK (asD (D.filter fun q => decide (q.1 ≠ z')))) = H1 at b1 w1 hp ⊢
   have b2 := b1.new hp (.tup [.str "wake", .int now, .str z', .int t])
   have w2 := w1.mono (Same.upd (o := .tup [.str "wake", .int now, .str z', .int t]) hp)
   refine ⟨_, _, _, rfl, rfl, w2.gl, by rw [List.length_map]; exact z1w (by omega), ?_⟩
   have b3 := b2.put (p := A.lo) (by simp [WAd]) (.lst (T'.map (fun q => V.ref q.1) ++ [.ref p]))
   have w3 := w2.logd (p := p) (v := [.str "wake", .int now, .str z', .int t]) z5
   generalize upd (upd H1 p (.tup [V.str "wake", V.int now, V.str z', V.int t])) A.lo (.lst (T'.map (fun q => V.ref q.1) ++ [.ref p])) = H3 at b3 w3 ⊢
   refine ⟨_, _, w3.ix, rfl, A, hs, now, n, _, _, z', rfl, w3, hl, hz, fun r H4 hr0 hr1 s4 => ⟨r, rfl, ⟨_, SqL.of hr1⟩, ?_⟩⟩
   refine z2t (xs := []) (Nat.zero_le _) (fun i acc H' => acc = [] ∧ H' = H4) ⟨rfl, rfl⟩ (by rintro i acc H' ⟨rfl, -⟩; exact Nat.zero_le _) (by rintro i acc H' ⟨-, rfl⟩; exact SqL.of hr1) (by rintro Nn i acc H' y hN hy; simp at hy) ?_
   rintro acc H' ⟨rfl, rfl⟩ p2 hp2
   have b4 := b3.trans (.of s4)
   exact q t m p p2 _ ((w3.mono s4).mono (Same.upd hp2)) (b4.none (w3.mono s4) hp2) z5 (b4.new hp2 _)
  ·rw [decide_eq_false mz, if_pos (by decide)]
   exact ⟨by decide, e1 mz⟩
def zbt (CW : Addr) : Sp := fun vs H Q _ => ∃ (A : Ad) (hs : List Str) (now n m : Int) (D : List (Str × Int)) (T : List (Addr × List V)), vs = [.ref A.x, .int m] ∧ WAt CW A hs now n D T H ∧ 1 ≤ m ∧ m ≤ 1000 ∧
 ∀ (H' : Hp), WAt CW A hs (now + m) n D T H' → BtA (WAd A) H H' → Q (.int (now + m)) H'
theorem z7f (F : MDef K C_World "tick" "World.tick" z39 ["self", "many"]) (T : Txt K mg C_Asleep C_Awake C_BadSetup C_Council C_Keeper C_PausesSpent C_Store C_World t_MOST_HOLDERS t_MOST_KEEPERS t_MOST_LOCKS t_MOST_NAMES t_MOST_PAUSES t_MOST_SIGNS t_MOST_STORES t_MOST_TIME t_NAME_SIGNS) (G_check_time : Has P w K mg base 1 "check_time" ["ticks"] (zbr)) (G_World_settle : MHas P w K mg base CX0 1 C_World "settle" ["self"] (z2d)) : MHas P w K mg base CX0 2 C_World "tick" ["self", "many"] (zbt C_World) := by
 refine F.ok sc_World_tick (fun vs H Q E h => ?_) (fun f cdv A outer s H vs Q E hr h => ?_)
 ·obtain ⟨A, hs, now, n, m, D, T', rfl, _⟩ := h
  rfl
 ·obtain ⟨A, hs, now, n, m, D, T', rfl, hw, h1, h2, q⟩ := h
  have hu := hr.units0
  have hu2 := z4t hr
  refine ⟨_, (@z6 _ _ _ _ _ (@z1o _ _ _ _ (@z10 _ _ _ _ _ _ _ _ _ _ G_check_time (hr.mono (by decide)) rfl (@z0 _ _ _ _ _ (pv 1) z4 rfl) (by decide) rfl rfl) rfl) (@z6 _ _ _ _ _ (@z4e _ _ _ _ _ _ _ _ PassesOwn.never rfl (@z1l _ _ _ _ _ _ rfl T.b_range (@z0 _ _ _ _ _ (pv 1) z4 rfl) rfl) (@z2b _ _ 2 _ sc_World_tick.nd rfl (Or.inl rfl) (Or.inr rfl)) (@z6 _ _ _ _ _ (@z6n _ _ _ _ _ _ _ _ _ _ (pv 0) zb zas) (@z9 _ _ _ (@zn _ _ _ _ _ _ _ _ (@z2g _ _ _ _ _ _ (@z5z _ _ _ _ _ hu2 (@z16 _ _ _ _ _ (pv 0) rfl) (@z16 _ _ _ _ _ (pv 0) rfl)) (by first | exact z11 _ (by decide) (by decide) | rfl)) (@z9 _ _ _ (@z1o _ _ _ _ (@z6a _ _ _ _ _ _ _ _ _ _ _ G_World_settle T.cl_World (hr.mono (by decide)) (pv 0) rfl) rfl)) zf))) (by intro _; rfl)) (@z9 _ _ _ (@zg _ _ _ _ (@z16 _ _ _ _ _ (pv 0) rfl))))), ?_⟩
  walk_at "rd"
  refine ⟨m, rfl, h1, h2, ⟨by omega, by omega⟩, ?_⟩
  refine z2s (fun i σ H' => ∃ v : Option V, σ = [some (.ref A.x), some (.int m), v] ∧ WAt C_World A hs (now + i) n D T' H' ∧ BtA (WAd A) H H') ⟨_, rfl, by simpa using hw, .of (Same.refl H)⟩ ?_ ?_
  ·rintro Pv hP i σ H' hi ⟨v, rfl, wi, bi⟩
   walk_at "rd"
   refine ⟨_, _, _, wi.ix, T.cl_World, T.n_World_now, _, rfl, _, rfl, _, _, wi.ix, by show 12 < 1000; decide, ?_⟩
   have w1 := wi.setx (now + i + 1) n
   have b1 := bi.put (p := A.x) (by simp [WAd]) (.ins C_World A.dx (wf (now + i + 1) A.c A.lh A.ll A.ls A.st A.ca A.wa A.as n A.lo A.en))
   rw [show putF (Str.ofString "now") (V.int (now + i + 1)) (wf (now + i) A.c A.lh A.ll A.ls A.st A.ca A.wa A.as n A.lo A.en) = wf (now + i + 1) A.c A.lh A.ll A.ls A.st A.ca A.wa A.as n A.lo A.en from rfl]
   generalize upd H' A.x (.ins C_World A.dx (wf (now + i + 1) A.c A.lh A.ll A.ls A.st A.ca A.wa A.as n A.lo A.en)) = H1 at b1 w1 ⊢
   refine ⟨_, _, _, w1.ix, T.cl_World, T.n_World_now, _, rfl, _, _, _, w1.ix, T.cl_World, T.n_World_ends, _, rfl, _, rfl, _, DGet.k (k := Sum.inl (now + i + 1)) w1.ge, ?_⟩
   exact hP _ _ _ ⟨_, rfl, by rw [show now + ((i + 1 : Nat) : Int) = now + i + 1 by omega]; exact w1, b1⟩
  ·rintro σ H' ⟨v, rfl, wi, bi⟩
   walk_at "rd"
   rw [show now + ((m.toNat : Nat) : Int) = now + m by omega] at wi
   exact ⟨_, _, _, wi.ix, T.cl_World, T.n_World_now, _, rfl, q _ wi bi⟩
def z67 (CW : Addr) : Sp := fun vs H Q _ => ∃ (A : Ad) (hs : List Str) (now n : Int) (D : List (Str × Int)) (T : List (Addr × List V)), vs = [.ref A.x] ∧ WAt CW A hs now n D T H ∧ D.length ≤ 60 ∧
 ∀ (r : Addr) (ks : List Str) (H' : Hp), ks.Perm (D.map (·.1)) → PyProof.Rows.sortedS ks = true → H r = none → H' r = some (.lst (ks.map V.str)) → Same H H' → Q (.ref r) H'
theorem z56 (F : MDef K C_World "sleepers" "World.sleepers" z2a ["self"]) (T : Txt K mg C_Asleep C_Awake C_BadSetup C_Council C_Keeper C_PausesSpent C_Store C_World t_MOST_HOLDERS t_MOST_KEEPERS t_MOST_LOCKS t_MOST_NAMES t_MOST_PAUSES t_MOST_SIGNS t_MOST_STORES t_MOST_TIME t_NAME_SIGNS) : MHas P w K mg base CX0 1 C_World "sleepers" ["self"] (z67 C_World) := by
 refine F.ok z53 (fun vs H Q E h => ?_) (fun f cdv A outer s H vs Q E hr h => ?_)
 ·obtain ⟨A, hs, now, n, D, T', rfl, _⟩ := h
  rfl
 ·obtain ⟨A, hs, now, n, D, T', rfl, hw, hD, q⟩ := h
  refine ⟨_, (@z9 _ _ _ (@zg _ _ _ _ (@z8 _ _ _ _ _ _ _ _ _ (z82 rfl) rfl T.b_sorted (by decide +kernel) (@z0 _ _ _ _ _ (@z16 _ _ _ _ _ (pv 0) rfl) z4 rfl) (by decide) (by decide) rfl rfl))), ?_⟩
  walk_at "rd"
  refine ⟨_, _, _, hw.ix, T.cl_World, T.n_World_asleep_since, _, rfl, _, rfl, _, hw.gs, _, z8f D, by rw [List.length_map]; omega, fun l ks hl hp hs => ?_⟩
  exact q l ks _ hp hs hl z5 (Same.upd hl)
def zcx (CW : Addr) : Sp := fun vs H Q _ => ∃ (A : Ad) (hs : List Str) (now n : Int) (D : List (Str × Int)) (T : List (Addr × List V)), vs = [.ref A.x] ∧ WAt CW A hs now n D T H ∧
 ∀ (r : Addr) (H' : Hp), H r = none → H' r = some (.lst (T.map fun q => V.ref q.1)) → Same H H' → Q (.ref r) H'
theorem z8g (F : MDef K C_World "log" "World.log" z3l ["self"]) (T : Txt K mg C_Asleep C_Awake C_BadSetup C_Council C_Keeper C_PausesSpent C_Store C_World t_MOST_HOLDERS t_MOST_KEEPERS t_MOST_LOCKS t_MOST_NAMES t_MOST_PAUSES t_MOST_SIGNS t_MOST_STORES t_MOST_TIME t_NAME_SIGNS) : MHas P w K mg base CX0 1 C_World "log" ["self"] (zcx C_World) := by
 refine F.ok z84 (fun vs H Q E h => ?_) (fun f cdv A outer s H vs Q E hr h => ?_)
 ·obtain ⟨A, hs, now, n, D, T', rfl, _⟩ := h
  rfl
 ·obtain ⟨A, hs, now, n, D, T', rfl, hw, q⟩ := h
  refine ⟨_, (@z9 _ _ _ (@zg _ _ _ _ (@z1p _ _ _ _ _ _ _ _ _ z1v rfl T.b_list (by decide +kernel) (@z0 _ _ _ _ _ (@z16 _ _ _ _ _ (pv 0) rfl) z4 rfl) (by decide) (by decide) rfl rfl))), ?_⟩
  walk_at "rd"
  refine ⟨_, _, _, hw.ix, T.cl_World, T.n_World_logged, _, rfl, _, rfl, _, .inl (SqL.of hw.gl), fun r hr => ?_⟩
  exact q r _ hr z5 (Same.upd hr)
def Ev26 (hs : List Str) (q : List V) : Prop := (∃ h ∈ hs, q = [.str "pause", .str h]) ∨ (∃ h ∈ hs, q = [.str "wake", .str h]) ∨ ∃ n : Int, 1 ≤ n ∧ n ≤ 1000 ∧ q = [.str "tick", .int n]
def zbu (CW : Addr) : Sp := fun vs H Q E => ∃ (A : Ad) (hs : List Str) (now n : Int) (D : List (Str × Int)) (T : List (Addr × List V)) (k : Bool) (z : Str), vs = [.ref A.x, .str (if k = true then "pause" else "wake"), .str z] ∧ WAt CW A hs now n D T H ∧ hs.length ≤ 60 ∧ z ∈ hs ∧ D.length ≤ 60 ∧ T.length ≤ 900 ∧ (D.map (·.1)).Nodup ∧
 (k = true → z ∈ D.map (·.1) → ∀ (r : Addr) (H' : Hp), H' r = some (.tup [.str "refused", .str "asleep"]) → Same H H' → Q (.ref r) H') ∧
 (k = true → z ∉ D.map (·.1) → 20 ≤ n → ∀ (r : Addr) (H' : Hp), H' r = some (.tup [.str "refused", .str "pauses"]) → Same H H' → Q (.ref r) H') ∧
 (k = true → z ∉ D.map (·.1) → n < 20 → ∀ (p : Addr) (H' : Hp), WAt CW A hs now (n + 1) (D ++ [(z, now)]) (T ++ [(p, [.str "pause", .int now, .str z])]) H' → BtA (WAd A) H H' → Q .non H') ∧
 (k = false → z ∉ D.map (·.1) → ∀ (r : Addr) (H' : Hp), H' r = some (.tup [.str "refused", .str "awake"]) → Same H H' → Q (.ref r) H') ∧
 (k = false → ∀ t, (z, t) ∈ D → ∀ (p r : Addr) (H' : Hp), WAt CW A hs now n (D.filter fun q => decide (q.1 ≠ z)) (T ++ [(p, [.str "wake", .int now, .str z, .int t])]) H' → H r = none → H' r = some (.lst []) → BtA (WAd A) H H' → Q (.ref r) H')
theorem z8h (F : Def K mg "_law_deed" z3n ["_law_world", "_law_kind", "_law_holder"]) (T : Txt K mg C_Asleep C_Awake C_BadSetup C_Council C_Keeper C_PausesSpent C_Store C_World t_MOST_HOLDERS t_MOST_KEEPERS t_MOST_LOCKS t_MOST_NAMES t_MOST_PAUSES t_MOST_SIGNS t_MOST_STORES t_MOST_TIME t_NAME_SIGNS) (G_World_pause : MHas P w K mg base (CX1 P w) 2 C_World "pause" ["self", "holder"] (z9m C_World C_Asleep C_PausesSpent)) (G_World_wake : MHas P w K mg base (CX1 P w) 3 C_World "wake" ["self", "holder"] (zbs C_World C_Awake)) : Has P w K mg base 4 "_law_deed" ["_law_world", "_law_kind", "_law_holder"] (zbu C_World) := by
 refine F.ok sc__law_deed (fun vs H Q E h => ?_) (fun f cdv A outer s H vs Q E hr h => ?_)
 ·obtain ⟨A, hs, now, n, D, T', k, z, rfl, _⟩ := h
  rfl
 ·obtain ⟨A, hs, now, n, D, T', k, z, rfl, hw, hl, hz, hD, hT, hnd, q1, q2, q3, q4, q5⟩ := h
  have hu := hr.units0
  refine ⟨_, (@z6 _ _ _ _ _ (@zdi _ _ _ _ _ _ _ (@za4 _ _ _ _ _ _ _ _ _ (@zt _ _ _ _ _ _ _ _ z12 (pv 1) zl (zj _)) (@zb9 _ _ _ _ _ _ _ _ _ _ _ _ _ _ G_World_pause T.cl_World (hr.mono (by decide)) (pv 0) (@z0 _ _ _ _ _ (pv 2) z4 rfl) rfl rfl rfl rfl) (@zc9 _ _ _ (@zdf _ _ _ _ (@zb9 _ _ _ _ _ _ _ _ _ _ _ _ _ _ G_World_wake T.cl_World (hr.mono (by decide)) (pv 0) (@z0 _ _ _ _ _ (pv 2) z4 rfl) rfl rfl rfl rfl)))) (@z6b _ _ _ _ _ _ _ _ _ _ _ _ rfl T.g_Asleep T.x_Asleep (by decide +kernel) (fun _ => (@z9 _ _ _ (@zm _ _ 3 _ _ _ _ sc__law_deed.nd rfl (Or.inl rfl) zl rfl (Or.inr rfl)))) (@z6b _ _ _ _ _ _ _ _ _ _ _ _ rfl T.g_Awake T.x_Awake (by decide +kernel) (fun _ => (@z9 _ _ _ (@zm _ _ 3 _ _ _ _ sc__law_deed.nd rfl (Or.inl rfl) zl rfl (Or.inr rfl)))) (@z6b _ _ _ _ _ _ _ _ _ _ _ _ rfl T.g_PausesSpent T.x_PausesSpent (by decide +kernel) (fun _ => (@z9 _ _ _ (@zm _ _ 3 _ _ _ _ sc__law_deed.nd rfl (Or.inl rfl) zl rfl (Or.inr rfl)))) ze6 (by decide)) (by decide)) (by decide)) rfl rfl) (@z9 _ _ _ (@zg _ _ _ _ (@z17 _ _ _ _ _ (@z0 _ _ _ _ _ zl (@z0 _ _ _ _ _ (pv 3) z4 rfl) rfl))))), ?_⟩
  walk_at "rd"
  cases k with
  | true =>
   rw [if_pos (by decide)]
   refine ⟨_, _, hw.ix, rfl, A, hs, now, n, D, T', z, rfl, hw, hl, hz, hD, hT, fun m => ?_, fun m h20 => ?_, fun m h20 p H' w1 b1 => q3 rfl m h20 p H' w1 b1⟩
   ·exact ⟨_, T.sb_Asleep_Asleep, by rw [if_pos rfl]; exact ⟨by decide, fun p hp => q1 rfl m p _ z5 (Same.upd hp)⟩⟩
   ·exact ⟨_, T.sb_PausesSpent_Asleep, by rw [if_neg (by decide)]; exact ⟨_, T.sb_PausesSpent_Awake, by rw [if_neg (by decide)]; exact ⟨_, T.sb_PausesSpent_PausesSpent, by rw [if_pos rfl]; exact ⟨by decide, fun p hp => q2 rfl m h20 p _ z5 (Same.upd hp)⟩⟩⟩⟩
  | false =>
   rw [if_neg (by decide)]
   refine ⟨_, _, hw.ix, rfl, A, hs, now, n, D, T', z, rfl, hw, hl, hz, hT, hnd, fun m => ?_, fun t m p r H' w1 hr0 hr1 b1 => q5 rfl t m p r H' w1 hr0 hr1 b1⟩
   exact ⟨_, T.sb_Awake_Asleep, by rw [if_neg (by decide)]; exact ⟨_, T.sb_Awake_Awake, by rw [if_pos rfl]; exact ⟨by decide, fun p hp => q4 rfl m p _ z5 (Same.upd hp)⟩⟩⟩
theorem z5k {xs : List V} (h : 1 ≤ xs.length) (i : Int) : ∃ v ∈ xs, atI xs (i % (xs.length : Int)) = some v := by
 have h0 : 0 ≤ i % (xs.length : Int) := Int.emod_nonneg _ (by omega)
 have h1 : i % (xs.length : Int) < (xs.length : Int) := Int.emod_lt_of_pos _ (by omega)
 obtain ⟨j, ej⟩ := Int.eq_ofNat_of_zero_le h0
 have hj : j < xs.length := by omega
 refine ⟨xs[j], List.getElem_mem hj, ?_⟩
 rw [ej]
 exact z23 (by rw [List.getElem?_eq_getElem hj])
theorem z8i {zs : List Str} (h : 1 ≤ zs.length) (i : Int) : ∃ z ∈ zs, atI (zs.map V.str) (i % (zs.length : Int)) = some (V.str z) := by
 obtain ⟨v, hv, e⟩ := z5k (xs := zs.map V.str) (by rw [List.length_map]; exact h) i
 rw [List.length_map] at e
 obtain ⟨z, hz, rfl⟩ := List.mem_map.mp hv
 exact ⟨z, hz, e⟩
def EvL (hs : List Str) (T : List (Addr × List V)) (H : Hp) : Prop := ∀ q ∈ T, H q.1 = some (.tup q.2) ∧ Ev26 hs q.2
theorem EvL.mono {hs : List Str} {T : List (Addr × List V)} {H H' : Hp} (h : EvL hs T H) (s : Same H H') : EvL hs T H' := fun q m => ⟨s _ _ (h q m).1, (h q m).2⟩
theorem EvL.add {hs : List Str} {T : List (Addr × List V)} {H : Hp} (h : EvL hs T H) {p : Addr} {v : List V} (hp : H p = some (.tup v)) (e : Ev26 hs v) : EvL hs (T ++ [(p, v)]) H := fun q m => by
 rcases List.mem_append.mp m with m | m
 ·exact h q m
 ·rw [List.mem_singleton.mp m]; exact ⟨hp, e⟩
theorem z70 {H H' : Hp} (s : Same H H') {p : Addr} (hp : H' p = none) : H p = none := by
 cases e : H p with
 | none => rfl
 | some u => rw [s p u e] at hp; cases hp
def rfs (T : List (Addr × List V)) : List V := T.map fun q => V.ref q.1
theorem z2m (T : List (Addr × List V)) : (rfs T).length = T.length := List.length_map ..
def z8j (K : PySem.W.Frag) : Sp := fun vs H Q E => ∃ (a ph : Addr) (ns : List Int) (hs : List Str), vs = [.ref a, .ref ph] ∧ SqL K H a (ns.map V.int) ∧ ns.length ≤ 63 ∧ H ph = some (.lst (hs.map V.str)) ∧ 1 ≤ hs.length ∧ hs.length ≤ 8 ∧
 ∀ (r : Addr) (T : List (Addr × List V)) (H' : Hp), T.length ≤ 250 → (∀ q ∈ T, H' q.1 = some (.tup q.2) ∧ Ev26 hs q.2) → H r = none → H' r = some (.lst (T.map fun q => V.ref q.1)) → Same H H' → Q (.ref r) H'
theorem z6m (F : Def K mg "_law_events" z2y ["_law_script", "_law_holders"]) (T : Txt K mg C_Asleep C_Awake C_BadSetup C_Council C_Keeper C_PausesSpent C_Store C_World t_MOST_HOLDERS t_MOST_KEEPERS t_MOST_LOCKS t_MOST_NAMES t_MOST_PAUSES t_MOST_SIGNS t_MOST_STORES t_MOST_TIME t_NAME_SIGNS) (G__law_at : Has P w K mg base 1 "_law_at" ["_law_script", "_law_k"] (spAt K)) : Has P w K mg base 2 "_law_events" ["_law_script", "_law_holders"] (z8j K) := by
 refine F.ok sc__law_events (fun vs H Q E h => ?_) (fun f cdv A outer s H vs Q E hr h => ?_)
 ·obtain ⟨a, ph, ns, hs, rfl, _⟩ := h
  rfl
 ·obtain ⟨a, ph, ns, hs, rfl, ha, hns, hph, h1, h8, q⟩ := h
  have hu := hr.units0
  refine ⟨_, (@z6 _ _ _ _ _ (@zm _ _ 2 _ _ _ _ sc__law_events.nd rfl (Or.inl rfl) (@z1m _ _ _ _ z4) rfl (Or.inr rfl)) (@z31 _ _ _ _ _ (@zn _ _ _ _ _ _ _ _ (@zt _ _ _ _ _ _ _ _ z12 (@zi _ _ _ _ _ _ _ _ z1g (@zi _ _ _ _ _ _ _ _ z22 (@z10 _ _ _ _ _ _ _ _ _ _ G__law_at (hr.mono (by decide)) rfl (@z0 _ _ _ _ _ (pv 0) (@z0 _ _ _ _ _ zb z4 rfl) rfl) (by decide) rfl rfl) zb) zb) zb (zj _)) (@z9 _ _ _ (@z4e _ _ _ _ _ _ _ _ PassesOwn.never rfl (@z1l _ _ _ _ _ _ rfl T.b_range (@z0 _ _ _ _ _ zb z4 rfl) rfl) (@z2b _ _ 3 _ sc__law_events.nd rfl (Or.inl rfl) (Or.inr rfl)) (@z6 _ _ _ _ _ (@zm _ _ 4 _ _ _ _ sc__law_events.nd rfl (Or.inl rfl) (@z15 _ _ _ _ _ _ _ ix_list (pv 1) (@zi _ _ _ _ _ _ _ _ z1g (pv 3) (@z8 _ _ _ _ _ _ _ _ _ zh rfl T.b_len (by decide +kernel) (@z0 _ _ _ _ _ (pv 1) z4 rfl) (by decide) (by decide) rfl rfl)) (fun _ _ => rfl)) rfl (Or.inr rfl)) (@z9 _ _ _ (@zm _ _ 2 _ _ _ _ sc__law_events.nd rfl (Or.inl rfl) (@zi _ _ _ _ _ _ _ _ zdz (pv 2) (@z1m _ _ _ _ (@z0 _ _ _ _ _ (@z17 _ _ _ _ _ (@z0 _ _ _ _ _ zl (@z0 _ _ _ _ _ (pv 4) z4 rfl) rfl)) (@z0 _ _ _ _ _ (@z17 _ _ _ _ _ (@z0 _ _ _ _ _ zl (@z0 _ _ _ _ _ (@zi _ _ _ _ _ _ _ _ z1j zb (@zi _ _ _ _ _ _ _ _ z1g (@z10 _ _ _ _ _ _ _ _ _ _ G__law_at (hr.mono (by decide)) rfl (@z0 _ _ _ _ _ (pv 0) (@z0 _ _ _ _ _ (@zi _ _ _ _ _ _ _ _ z1j zb (pv 3)) z4 rfl) rfl) (by decide) rfl rfl) zb)) z4 rfl) rfl)) (@z0 _ _ _ _ _ (@z17 _ _ _ _ _ (@z0 _ _ _ _ _ zl (@z0 _ _ _ _ _ (pv 4) z4 rfl) rfl)) z4 rfl) rfl) rfl))) rfl (Or.inr rfl)))) (by intro _; rfl))) zf) (@z6 _ _ _ _ _ (@z4e _ _ _ _ _ _ _ _ PassesOwn.never rfl (@zal _ _ _ _ _ _ _ rfl T.b_range (@z0 _ _ _ _ _ zb (@z0 _ _ _ _ _ (@z8 _ _ _ _ _ _ _ _ _ zh rfl T.b_len (by decide +kernel) (@z0 _ _ _ _ _ (pv 0) z4 rfl) (by decide) (by decide) rfl rfl) z4 rfl) rfl) rfl rfl) (@z2b _ _ 3 _ sc__law_events.nd rfl (Or.inl rfl) (Or.inr rfl)) (@z6 _ _ _ _ _ (@zm _ _ 5 _ _ _ _ sc__law_events.nd rfl (Or.inl rfl) (@zi _ _ _ _ _ _ _ _ z22 (@z15 _ _ _ _ _ _ _ ix_list (pv 0) (pv 3) (fun _ _ => rfl)) zb) rfl (Or.inr rfl)) (@z6 _ _ _ _ _ (@zm _ _ 6 _ _ _ _ sc__law_events.nd rfl (Or.inl rfl) (@z15 _ _ _ _ _ _ _ ix_list (@z1m _ _ _ _ (@z0 _ _ _ _ _ zl (@z0 _ _ _ _ _ zl (@z0 _ _ _ _ _ zl (@z0 _ _ _ _ _ zl z4 rfl) rfl) rfl) rfl)) (@zi _ _ _ _ _ _ _ _ z1g (@z15 _ _ _ _ _ _ _ ix_list (pv 0) (pv 3) (fun _ _ => rfl)) zb) (fun _ _ => rfl)) rfl (Or.inr rfl)) (@z6 _ _ _ _ _ (@zm _ _ 4 _ _ _ _ sc__law_events.nd rfl (Or.inl rfl) (@z15 _ _ _ _ _ _ _ ix_list (pv 1) (@zi _ _ _ _ _ _ _ _ z1g (@zi _ _ _ _ _ _ _ _ z1j (pv 5) (@zi _ _ _ _ _ _ _ _ z22 (pv 3) zb)) (@z8 _ _ _ _ _ _ _ _ _ zh rfl T.b_len (by decide +kernel) (@z0 _ _ _ _ _ (pv 1) z4 rfl) (by decide) (by decide) rfl rfl)) (fun _ _ => rfl)) rfl (Or.inr rfl)) (@z31 _ _ _ _ _ (@zn _ _ _ _ _ _ _ _ (@zt _ _ _ _ _ _ _ _ z12 (pv 6) zl (zj _)) (@z9 _ _ _ (@zm _ _ 4 _ _ _ _ sc__law_events.nd rfl (Or.inl rfl) (@zi _ _ _ _ _ _ _ _ z1j zb (@zi _ _ _ _ _ _ _ _ z1g (pv 5) (@z15 _ _ _ _ _ _ _ ix_list (@z1m _ _ _ _ (@z0 _ _ _ _ _ zb (@z0 _ _ _ _ _ zb z4 rfl) rfl)) (@zi _ _ _ _ _ _ _ _ z1g (pv 3) zb) (fun _ _ => rfl)))) rfl (Or.inr rfl))) zf) (@z9 _ _ _ (@z1o _ _ _ _ (@z4s _ _ _ _ _ _ _ _ _ _ _ _ PySem.F.plainAttrs_list PySem.F.slot_list_append PySem.F.type_list_append z2v (pv 2) (@z0 _ _ _ _ _ (@z17 _ _ _ _ _ (@z0 _ _ _ _ _ (pv 6) (@z0 _ _ _ _ _ (pv 4) z4 rfl) rfl)) z4 rfl) rfl rfl rfl rfl rfl) rfl)))))) (by intro _; rfl)) (@z9 _ _ _ (@zg _ _ _ _ (@z7q _ _ _ _ _ _ _ _ _ _ zda (pv 2) z97 (@z98 _ _ _ zb))))))), ?_⟩
  walk_at "rd"
  refine ⟨Nat.zero_le _, fun r0 hr0 => ?_⟩
  have S0 : Same H (upd H r0 (.lst [])) := Same.upd hr0
  refine z4v (fun σ H2 => ∃ (r : Addr) (T : List (Addr × List V)) (v3 v4 v5 v6 : Option V), σ = [some (.ref a), some (.ref ph), some (.ref r), v3, v4, v5, v6] ∧ H r = none ∧ H2 r = some (.lst (rfs T)) ∧ EvL hs T H2 ∧ T.length ≤ 54 ∧ Same H H2) (fun Mid hM => ?_) ?_
  ·walk_at "rd"
   refine ⟨a, ns, 1, rfl, S0.seq ha, by omega, ?_⟩
   refine ⟨_, rfl, cdiv (by decide) (by decide), by decide, ite2 (fun _ => ?_) (fun _ => hM _ _ ⟨r0, [], _, _, _, _, rfl, hr0, z5, fun q m => by simp at m, Nat.zero_le _, S0⟩)⟩
   refine ⟨⟨by decide, by decide⟩, ?_⟩
   refine z2s (fun i σ H2 => ∃ (r : Addr) (T : List (Addr × List V)) (v3 v4 : Option V), σ = [some (.ref a), some (.ref ph), some (.ref r), v3, v4, none, none] ∧ H r = none ∧ H2 r = some (.lst (rfs T)) ∧ EvL hs T H2 ∧ T.length = 3 * i ∧ Same H H2) ⟨r0, [], _, _, rfl, hr0, z5, fun q m => by simp at m, rfl, S0⟩ ?_ ?_
   ·rintro Pv hP i σ H2 hi ⟨r, T, v3, v4, rfl, hr1, hr2, hT, lT, s2⟩
    have hi : i < 18 := hi
    walk_at "rd"
    obtain ⟨hd, mhd, ahd⟩ := z8i h1 ((0 : Int) + i)
    refine ⟨_, .inl (SqL.of (s2 _ _ hph)), by rw [List.length_map]; omega, ?_⟩
    rw [List.length_map]
    refine ⟨_, _, _, _, rfl, rfl, SqL.of (s2 _ _ hph), ahd, by decide, fun p1 hp1 => ?_⟩
    have t1 := Same.upd (o := .tup [.str "pause", .str hd]) hp1
    refine ⟨a, ns, 2 + i, by simp, (s2.trans t1).seq ha, by omega, _, rfl, by decide, by decide, fun p2 hp2 => ⟨by decide, fun p3 hp3 => ⟨by decide, fun p4 hp4 => ?_⟩⟩⟩
    generalize ns.getD (2 + i) 0 = c at hp3 hp4 ⊢
    have t2 := Same.upd (o := .tup [.str "tick", .int (1 + c % 300)]) hp2
    have t3 := Same.upd (o := .tup [.str "wake", .str hd]) hp3
    have t4 := Same.upd (o := .lst [.ref p1, .ref p2, .ref p3]) hp4
    have t14 := ((t1.trans t2).trans t3).trans t4
    refine ⟨_, _, _, _, rfl, rfl, t14 _ _ hr2, z5, zu (by rw [z2m]; show T.length + 3 ≤ _; omega), fun p5 hp5 => ?_⟩
    have t5 := Same.upd (o := .lst (rfs T ++ [.ref p1, .ref p2, .ref p3])) hp5
    have t15 := t14.trans t5
    refine hP _ _ _ ⟨p5, ((T ++ [(p1, [.str "pause", .str hd])]) ++ [(p2, [.str "tick", .int (1 + c % 300)])]) ++ [(p3, [.str "wake", .str hd])], _, _, rfl, z70 (s2.trans t14) hp5, ?_, ?_, ?_, s2.trans t15⟩
    ·rw [z5]
     simp [rfs]
    ·refine (((hT.mono t15).add ((((t2.trans t3).trans t4).trans t5) _ _ z5) (.inl ⟨hd, mhd, rfl⟩)).add (((t3.trans t4).trans t5) _ _ z5) (.inr (.inr ⟨_, ?_, ?_, rfl⟩))).add ((t4.trans t5) _ _ z5) (.inr (.inl ⟨hd, mhd, rfl⟩))
     ·omega
     ·omega
    ·simp only [List.length_append, List.length_cons, List.length_nil]
     omega
   ·rintro σ H2 ⟨r, T, v3, v4, rfl, hr1, hr2, hT, lT, s2⟩
    exact hM _ _ ⟨r, T, _, _, _, _, rfl, hr1, hr2, hT, by rw [lT]; decide, s2⟩
  ·rintro σ H2 ⟨r, T, v3, v4, v5, v6, rfl, hr1, hr2, hT, lT, s2⟩
   walk_at "rd"
   refine ⟨_, .inl (s2.seq ha), 2, ns.length, ⟨rfl, by rw [List.length_map]⟩, ⟨by decide, by decide, by omega, by omega⟩, ?_⟩
   have eN : ((ns.length : Int) - 2).toNat = ns.length - 2 := by omega
   rw [eN]
   refine z2s (fun i σ H2 => ∃ (T : List (Addr × List V)) (v3 v4 v5 v6 : Option V), σ = [some (.ref a), some (.ref ph), some (.ref r), v3, v4, v5, v6] ∧ H2 r = some (.lst (rfs T)) ∧ EvL hs T H2 ∧ T.length ≤ 54 + i ∧ Same H H2) ⟨T, _, _, _, _, rfl, hr2, hT, by omega, s2⟩ ?_ ?_
   ·rintro Pv hP i σ H3 hi ⟨T, v3, v4, v5, v6, rfl, hr2, hT, lT, s3⟩
    walk_at "rd"
    have e2 : (2 : Int) + i = ((2 + i : Nat) : Int) := by omega
    rw [e2]
    have hi2 : 2 + i < ns.length := by omega
    have ga : (ns.map V.int)[2 + i]? = some (V.int (ns.getD (2 + i) 0)) := by rw [List.getElem?_map, List.getD_eq_getElem?_getD, List.getElem?_eq_getElem hi2]; rfl
    refine ⟨a, _, _, _, rfl, rfl, s3.seq ha, z23 ga, _, rfl, cdiv (by decide) (by decide), by decide, fun p1 hp1 => ?_⟩
    have t1 := Same.upd (o := .lst [.str "pause", .str "wake", .str "wake", .str "tick"]) hp1
    refine ⟨a, _, _, _, rfl, rfl, (s3.trans t1).seq ha, z23 ga, _, rfl, by decide, ?_⟩
    generalize ns.getD (2 + i) 0 = c
    obtain ⟨kv, mkv, akv⟩ := z5k (xs := [V.str "pause", V.str "wake", V.str "wake", V.str "tick"]) (by decide) c
    refine ⟨_, _, _, _, rfl, rfl, SqL.of z5, akv, cdiv (by decide) (by decide), _, .inl (SqL.of ((s3.trans t1) _ _ hph)), by rw [List.length_map]; omega, ?_⟩
    rw [List.length_map]
    obtain ⟨hd, mhd, ahd⟩ := z8i h1 (c / 4 + ((2 + i : Nat) : Int) / 2)
    refine ⟨_, _, _, _, rfl, rfl, SqL.of ((s3.trans t1) _ _ hph), ahd, ?_⟩
    have s4 := s3.trans t1
    have gr := t1 _ _ hr2
    have hT1 := hT.mono t1
    generalize upd H3 p1 (.lst [V.str "pause", V.str "wake", V.str "wake", V.str "tick"]) = H4 at s4 gr hT1 ⊢
    refine z4v (fun σ H5 => ∃ v : V, σ = [some (.ref a), some (.ref ph), some (.ref r), some (.int ((2 + i : Nat) : Int)), some v, some (.int (c / 4)), some kv] ∧ Ev26 hs [kv, v] ∧ Same H4 H5) (fun Mid hM => ?_) ?_
    ·have hk : kv = V.str "pause" ∨ kv = V.str "wake" ∨ kv = V.str "tick" := by
      simp only [List.mem_cons, List.not_mem_nil, or_false] at mkv
      rcases mkv with h | h | h | h
      ·exact .inl h
      ·exact .inr (.inl h)
      ·exact .inr (.inl h)
      ·exact .inr (.inr h)
     rcases hk with rfl | rfl | rfl
     ·walk_at "rd"
      rw [if_neg (by decide +kernel)]
      exact (hM _ _ ⟨_, rfl, .inl ⟨hd, mhd, rfl⟩, Same.refl _⟩)
     ·walk_at "rd"
      rw [if_neg (by decide +kernel)]
      exact (hM _ _ ⟨_, rfl, .inr (.inl ⟨hd, mhd, rfl⟩), Same.refl _⟩)
     ·walk_at "rd"
      rw [if_pos (by simp)]
      refine ⟨by decide, fun p2 hp2 => ⟨by decide, ?_⟩⟩
      obtain ⟨xv, mx, ax⟩ := z5k (xs := [V.int 5, V.int 1000]) (by decide) ((2 + i : Nat) : Int)
      obtain ⟨x, rfl, x1, x2⟩ : ∃ x : Int, xv = .int x ∧ 0 < x ∧ x ≤ 1000 := by
       simp only [List.mem_cons, List.not_mem_nil, or_false] at mx
       rcases mx with rfl | rfl
       ·exact ⟨5, rfl, by decide, by decide⟩
       ·exact ⟨1000, rfl, by decide, by decide⟩
      have m0 := Int.emod_nonneg (c / 4) (b := x) (by omega)
      have m1 := Int.emod_lt_of_pos (c / 4) x1
      exact ⟨_, _, _, _, rfl, rfl, SqL.of z5, ax, x, rfl, x1, hM _ _ ⟨_, rfl, .inr (.inr ⟨_, by omega, by omega, rfl⟩), Same.upd hp2⟩⟩
    ·rintro σ H5 ⟨v, rfl, ev, s5⟩
     walk_at "rd"
     refine ⟨.inl ⟨_, SqL.of (s5 _ _ gr)⟩, by decide, fun p2 hp2 => ?_⟩
     have t6 := Same.upd (o := .tup [kv, v]) hp2
     refine ⟨_, _, _, rfl, rfl, t6 _ _ (s5 _ _ gr), z1w (by rw [z2m]; omega), ?_⟩
     have nr : ∀ {b : Addr} {vs : List V}, upd H5 p2 (.tup [kv, v]) b = some (.tup vs) → upd (upd H5 p2 (.tup [kv, v])) r (.lst (rfs T ++ [.ref p2])) b = some (.tup vs) := fun {b vs} e => by
      rw [z7 (z19 e (t6 _ _ (s5 _ _ gr)) (by intro z; cases z))]; exact e
     refine hP _ _ _ ⟨T ++ [(p2, [kv, v])], _, _, _, _, rfl, by rw [z5]; simp [rfs], fun q m => ?_, by rw [List.length_append]; show _ + 1 ≤ _; omega, fun b o e => ?_⟩
     ·obtain ⟨g1, g2⟩ := ((hT1.mono (s5.trans t6)).add (p := p2) (v := [kv, v]) z5 ev) q m
      exact ⟨nr g1, g2⟩
     ·rw [z7 (za e hr1)]
      exact (s4.trans (s5.trans t6)) _ _ e
   ·rintro σ H3 ⟨T, v3, v4, v5, v6, rfl, hr2, hT, lT, s3⟩
    walk_at "rd"
    refine ⟨r, _, rfl, SqL.of hr2, fun p hp => ?_⟩
    rw [show (some (250 : Int)) = some ((250 : Nat) : Int) from rfl, ze2]
    have e : (rfs T).take 250 = (T.take 250).map fun q => V.ref q.1 := by unfold rfs; rw [List.map_take]
    have t1 := Same.upd (o := .lst ((rfs T).take 250)) hp
    exact q p (T.take 250) _ (by rw [List.length_take]; omega) (fun x m => (hT.mono t1) x (List.mem_of_mem_take m)) (z70 s3 hp) (by rw [z5, e]) (s3.trans t1)
theorem zab : ∀ (ss ls : List Str), ss.Nodup → (∀ z ∈ ss, z ∈ ls) → ss.length ≤ ls.length
 | [], ls, _, _ => Nat.zero_le _
 | z :: ss, ls, h, m => by
  have hz := m z (List.mem_cons_self ..)
  rw [List.nodup_cons] at h
  have := zab ss (ls.erase z) h.2 fun y hy => (List.mem_erase_of_ne (fun e => h.1 (by rw [← e]; exact hy))).mpr (m y (List.mem_cons_of_mem _ hy))
  rw [List.length_erase_of_mem hz] at this
  have : 0 < ls.length := List.length_pos_of_mem hz
  rw [List.length_cons]
  omega
def slots (a ph x dS lL : Addr) (n now : Int) (v7 v8 v9 v10 : Option V) : St := [some (.ref a), some (.ref ph), some (.ref x), some (.ref dS), some (.ref lL), some (.int n), some (.int now), v7, v8, v9, v10]
structure La (dS lL : Addr) (D : List (Str × Int)) (T : List (Addr × List V)) (H : Hp) : Prop where
 s : H dS = some (.dK (asD D))
 l : H lL = some (.lst (rfs T))
 t : ∀ q ∈ T, H q.1 = some (.tup q.2)
theorem La.keep {CW : Addr} {A : Ad} {hs : List Str} {now n : Int} {D' : List (Str × Int)} {T' : List (Addr × List V)} {dS lL : Addr} {D : List (Str × Int)} {T : List (Addr × List V)} {H H' : Hp} (h : La dS lL D T H) (w : WAt CW A hs now n D' T' H) (b : BtA (WAd A) H H') (d1 : dS ∉ WAd A) (d2 : lL ∉ WAd A) : La dS lL D T H' :=
 ⟨b _ _ h.s d1, b _ _ h.l d2, fun q m => b _ _ (h.t q m) (fun z => by
  simp only [WAd, List.mem_cons, List.not_mem_nil, or_false] at z
  have e := h.t q m
  rcases z with z | z | z
  ·rw [z, w.ix] at e; cases e
  ·rw [z, w.gs] at e; cases e
  ·rw [z, w.gl] at e; cases e)⟩
theorem La.mono {dS lL : Addr} {D : List (Str × Int)} {T : List (Addr × List V)} {H H' : Hp} (h : La dS lL D T H) (s : Same H H') : La dS lL D T H' := ⟨s _ _ h.s, s _ _ h.l, fun q m => s _ _ (h.t q m)⟩
theorem La.sets {dS lL : Addr} {D : List (Str × Int)} {T : List (Addr × List V)} {H : Hp} (h : La dS lL D T H) (D' : List (Str × Int)) : La dS lL D' T (upd H dS (.dK (asD D'))) :=
 ⟨z5, by rw [z7 (z19 h.l h.s (by intro z; cases z))]; exact h.l, fun q m => by rw [z7 (z19 (h.t q m) h.s (by intro z; cases z))]; exact h.t q m⟩
theorem La.logd {dS lL : Addr} {D : List (Str × Int)} {T : List (Addr × List V)} {H : Hp} (h : La dS lL D T H) {p : Addr} {v : List V} (hp : H p = some (.tup v)) : La dS lL D (T ++ [(p, v)]) (upd H lL (.lst (rfs T ++ [.ref p]))) :=
 ⟨by rw [z7 (z19 h.s h.l (by intro z; cases z))]; exact h.s, by rw [z5]; simp [rfs], fun q m => by
  rcases List.mem_append.mp m with m | m
  ·rw [z7 (z19 (h.t q m) h.l (by intro z; cases z))]; exact h.t q m
  ·rw [List.mem_singleton.mp m, z7 (z19 hp h.l (by intro z; cases z))]; exact hp⟩
theorem WAt.keep {CW : Addr} {A : Ad} {hs : List Str} {now n : Int} {D : List (Str × Int)} {T : List (Addr × List V)} {H : Hp} (h : WAt CW A hs now n D T H) {p : Addr} (o : HO) (k : p ≠ A.x ∧ p ≠ A.lh ∧ p ≠ A.ca ∧ p ≠ A.en ∧ p ≠ A.as ∧ p ≠ A.lo) (kt : ∀ q ∈ T, q.1 ≠ p) : WAt CW A hs now n D T (upd H p o) :=
 ⟨by rw [z7 k.1.symm]; exact h.ix, by rw [z7 k.2.1.symm]; exact h.gh, by rw [z7 k.2.2.1.symm]; exact h.gc, by rw [z7 k.2.2.2.1.symm]; exact h.ge, by rw [z7 k.2.2.2.2.1.symm]; exact h.gs, by rw [z7 k.2.2.2.2.2.symm]; exact h.gl, fun q m => by rw [z7 (kt q m)]; exact h.gt q m, h.n1, h.n2, h.n3⟩
structure Cm (hs : List Str) (i : Nat) (D : List (Str × Int)) (T1 T2 : List (Addr × List V)) : Prop where
 e : T1.map (·.2) = T2.map (·.2)
 pl : ∀ q ∈ T1, q.2.length ≤ 4 ∧ ∀ v ∈ q.2, z3g v
 len : T1.length ≤ i
 nd : (D.map (·.1)).Nodup
 sub : ∀ z ∈ D.map (·.1), z ∈ hs
theorem Cm.up {hs : List Str} {i j : Nat} {D : List (Str × Int)} {T1 T2 : List (Addr × List V)} (c : Cm hs i D T1 T2) (h : i ≤ j) : Cm hs j D T1 T2 := ⟨c.e, c.pl, Nat.le_trans c.len h, c.nd, c.sub⟩
theorem z2n {H : Hp} {m : Nat} {r p : Addr} {xs : List V} (h : (H r = some (.lst xs) ∧ H p = some (.lst xs)) ∨ (H r = some (.tup xs) ∧ H p = some (.tup xs))) (hl : xs.length ≤ 1000) (pl : ∀ v ∈ xs, z3g v) : Alike H (m + 1) (.ref r) (.ref p) :=
 .inr ⟨r, p, xs, xs, rfl, rfl, h, rfl, hl, fun i x y hx hy => by
  rw [hx] at hy
  cases hy
  cases m with
  | zero => exact ⟨rfl, pl _ (List.mem_of_getElem? hx)⟩
  | succ m => exact .inl ⟨rfl, pl _ (List.mem_of_getElem? hx)⟩⟩
theorem zac {H : Hp} {r p : Addr} {T1 T2 : List (Addr × List V)} (h1 : H r = some (.lst (rfs T1))) (h2 : H p = some (.lst (rfs T2))) (t1 : ∀ q ∈ T1, H q.1 = some (.tup q.2)) (t2 : ∀ q ∈ T2, H q.1 = some (.tup q.2)) (e : T1.map (·.2) = T2.map (·.2)) (pl : ∀ q ∈ T1, q.2.length ≤ 4 ∧ ∀ v ∈ q.2, z3g v) (hl : T1.length ≤ 1000) : Alike H 2 (.ref r) (.ref p) :=
 .inr ⟨r, p, rfs T1, rfs T2, rfl, rfl, .inl ⟨h1, h2⟩, by rw [z2m, z2m, ← List.length_map (f := (·.2)), e, List.length_map], by rw [z2m]; exact hl, fun i x y hx hy => by
  unfold rfs at hx hy
  rw [List.getElem?_map] at hx hy
  cases e1 : T1[i]? with
  | none => rw [e1] at hx; cases hx
  | some q1 =>
  cases e2 : T2[i]? with
  | none => rw [e2] at hy; cases hy
  | some q2 =>
  rw [e1] at hx; rw [e2] at hy
  cases hx; cases hy
  have e3 : q1.2 = q2.2 := by
   have := congrArg (fun l : List (List V) => l[i]?) e
   simpa [e1, e2] using this
  have m1 := List.mem_of_getElem? e1
  exact z2n (xs := q1.2) (.inr ⟨t1 _ m1, by rw [e3]; exact t2 _ (List.mem_of_getElem? e2)⟩) (by have := (pl _ m1).1; omega) (pl _ m1).2⟩
theorem BtA.wide {L L' : List Addr} {H H' : Hp} (b : BtA L H H') (h : ∀ x ∈ L, x ∈ L') : BtA L' H H' := fun c o e n => b c o e fun m => n (h c m)
theorem z8k (x y : Str) : ∀ v ∈ [V.str x, V.str y], z3g v := by
 intro v hv
 simp only [List.mem_cons, List.not_mem_nil, or_false] at hv
 rcases hv with rfl | rfl
 ·exact .inr (.inl ⟨_, rfl⟩)
 ·exact .inr (.inl ⟨_, rfl⟩)
theorem Cm.add {hs : List Str} {i : Nat} {D D' : List (Str × Int)} {T1 T2 : List (Addr × List V)} (c : Cm hs i D T1 T2) (p0 p : Addr) (v : List V) (hv : v.length ≤ 4 ∧ ∀ x ∈ v, z3g x) (nd : (D'.map (·.1)).Nodup) (sub : ∀ z ∈ D'.map (·.1), z ∈ hs) :
  Cm hs (i + 1) D' (T1 ++ [(p0, v)]) (T2 ++ [(p, v)]) :=
 ⟨by rw [List.map_append, List.map_append, c.e]; rfl, fun q m => by
  rcases List.mem_append.mp m with m | m
  ·exact c.pl q m
  ·rw [List.mem_singleton.mp m]; exact hv, by have := c.len; rw [List.length_append]; show _ + 1 ≤ _; omega, nd, sub⟩
theorem Cm.len2 {hs : List Str} {i : Nat} {D : List (Str × Int)} {T1 T2 : List (Addr × List V)} (c : Cm hs i D T1 T2) : T2.length ≤ i := by
 have := c.len
 rw [← List.length_map (f := (·.2)), c.e, List.length_map] at this
 exact this
theorem Cm.few {hs : List Str} {i : Nat} {D : List (Str × Int)} {T1 T2 : List (Addr × List V)} (c : Cm hs i D T1 T2) : D.length ≤ hs.length := by
 have := zab (D.map (·.1)) hs c.nd c.sub
 rwa [List.length_map] at this
def zad (CW : Addr) (A : Ad) (hs : List Str) (a ph dS lL : Addr) (H3 : Hp) (i : Nat) (kd : Str) (σ : St) (H : Hp) : Prop :=
 ∃ (now n : Int) (D : List (Str × Int)) (T1 T2 : List (Addr × List V)) (v8 : Option V) (f d : V), σ = slots a ph A.x dS lL n now (some (.str kd)) v8 (some f) (some d) ∧ WAt CW A hs now n D T1 H ∧ La dS lL D T2 H ∧ Cm hs i D T1 T2 ∧ BtA [A.x, A.as, A.lo, dS, lL] H3 H ∧ (Alike H 2 f d ∨ (f = .non ∧ d = .non))
def zel (CW : Addr) (A : Ad) (hs : List Str) (a ph dS lL : Addr) (H3 : Hp) (i : Nat) (σ : St) (H : Hp) : Prop :=
  ∃ (now n : Int) (D : List (Str × Int)) (T1 T2 : List (Addr × List V)) (z : Str) (f : V), z ∈ hs ∧ σ = slots a ph A.x dS lL n now (some (.str "pause")) (some (.str z)) (some f) (some .non) ∧ La dS lL D T2 H ∧ Cm hs i D T1 T2 ∧ BtA [A.x, A.as, A.lo, dS, lL] H3 H ∧
  ((z ∈ D.map (·.1) ∧ (∃ r, f = .ref r ∧ H r = some (.tup [.str "refused", .str "asleep"])) ∧ WAt CW A hs now n D T1 H) ∨
   (z ∉ D.map (·.1) ∧ 20 ≤ n ∧ (∃ r, f = .ref r ∧ H r = some (.tup [.str "refused", .str "pauses"])) ∧ WAt CW A hs now n D T1 H) ∨
   (z ∉ D.map (·.1) ∧ n < 20 ∧ f = .non ∧ ∃ p, WAt CW A hs now (n + 1) (D ++ [(z, now)]) (T1 ++ [(p, [.str "pause", .int now, .str z])]) H))
def zcy (CW : Addr) (A : Ad) (hs : List Str) (a ph dS lL : Addr) (H3 : Hp) (i : Nat) (σ : St) (H : Hp) : Prop :=
  ∃ (now n : Int) (D : List (Str × Int)) (T1 T2 : List (Addr × List V)) (z : Str) (f : V), z ∈ hs ∧ σ = slots a ph A.x dS lL n now (some (.str "wake")) (some (.str z)) (some f) (some .non) ∧ La dS lL D T2 H ∧ Cm hs i D T1 T2 ∧ BtA [A.x, A.as, A.lo, dS, lL] H3 H ∧
  ((z ∉ D.map (·.1) ∧ (∃ r, f = .ref r ∧ H r = some (.tup [.str "refused", .str "awake"])) ∧ WAt CW A hs now n D T1 H) ∨
   (∃ t p r, (z, t) ∈ D ∧ f = .ref r ∧ r ≠ lL ∧ H r = some (.lst []) ∧ WAt CW A hs now n (D.filter fun q => decide (q.1 ≠ z)) (T1 ++ [(p, [.str "wake", .int now, .str z, .int t])]) H))
def spLaw (K : PySem.W.Frag) : Sp := fun vs H Q _ => ∃ (a : Addr) (ns : List Int), vs = [.ref a] ∧ SqL K H a (ns.map V.int) ∧ ns.length ≤ 63 ∧ ∀ H', Q (.bl true) H'
theorem zeb (F : Def K mg "law" z4z ["_law_script"]) (T : Txt K mg C_Asleep C_Awake C_BadSetup C_Council C_Keeper C_PausesSpent C_Store C_World t_MOST_HOLDERS t_MOST_KEEPERS t_MOST_LOCKS t_MOST_NAMES t_MOST_PAUSES t_MOST_SIGNS t_MOST_STORES t_MOST_TIME t_NAME_SIGNS) (G_World___init__ : KHasX P w K mg base (CX1 P w) 5 C_World ["self", "keepers", "holders", "locks", "shared", "stores"] (spWI C_World)) (G_World_tick : MHas P w K mg base CX0 2 C_World "tick" ["self", "many"] (zbt C_World)) (G_World_sleepers : MHas P w K mg base CX0 1 C_World "sleepers" ["self"] (z67 C_World)) (G_World_log : MHas P w K mg base CX0 1 C_World "log" ["self"] (zcx C_World)) (G__law_at : Has P w K mg base 1 "_law_at" ["_law_script", "_law_k"] (spAt K)) (G__law_same : Has P w K mg base 3 "_law_same" ["_law_found", "_law_due"] (z5i)) (G__law_names : Has P w K mg base 2 "_law_names" ["_law_cell", "_law_many"] (z9i)) (G__law_deed : Has P w K mg base 4 "_law_deed" ["_law_world", "_law_kind", "_law_holder"] (zbu C_World)) (G__law_events : Has P w K mg base 2 "_law_events" ["_law_script", "_law_holders"] (z8j K)) : Has P w K mg base 7 "law" ["_law_script"] (spLaw K) := by
 refine F.ok sc_law (fun vs H Q E h => ?_) (fun f cdv A outer s H vs Q E hr h => ?_)
 ·obtain ⟨a, ns, rfl, _⟩ := h
  rfl
 ·obtain ⟨a, ns, rfl, ha, hns, q⟩ := h
  have hu := hr.units0
  have hu2 := z4t hr
  refine ⟨_, (@z6 _ _ _ _ _ (@zm _ _ 1 _ _ _ _ sc_law.nd rfl (Or.inl rfl) (@z10 _ _ _ _ _ _ _ _ _ _ G__law_names (hr.mono (by decide)) rfl (@z0 _ _ _ _ _ (@z10 _ _ _ _ _ _ _ _ _ _ G__law_at (hr.mono (by decide)) rfl (@z0 _ _ _ _ _ (pv 0) (@z0 _ _ _ _ _ zb z4 rfl) rfl) (by decide) rfl rfl) (@z0 _ _ _ _ _ (@zi _ _ _ _ _ _ _ _ z1j zb (@zi _ _ _ _ _ _ _ _ z1g (@zi _ _ _ _ _ _ _ _ z1j (@z10 _ _ _ _ _ _ _ _ _ _ G__law_at (hr.mono (by decide)) rfl (@z0 _ _ _ _ _ (pv 0) (@z0 _ _ _ _ _ zb z4 rfl) rfl) (by decide) rfl rfl) zb) zb)) z4 rfl) rfl) (by decide) rfl rfl) rfl (Or.inr rfl)) (@z6 _ _ _ _ _ (@zm _ _ 2 _ _ _ _ sc_law.nd rfl (Or.inl rfl) (@z9d _ _ _ _ _ _ _ _ _ _ _ (KHasX.never G_World___init__) (hr.mono (by decide)) rfl T.g_World (@z0 _ _ _ _ _ zb (@z0 _ _ _ _ _ (@z1p _ _ _ _ _ _ _ _ _ z1v rfl T.b_list (by decide +kernel) (@z0 _ _ _ _ _ (pv 1) z4 rfl) (by decide) (by decide) rfl rfl) (@z0 _ _ _ _ _ (@z1m _ _ _ _ (@z0 _ _ _ _ _ zl z4 rfl)) (@z0 _ _ _ _ _ (@z1m _ _ _ _ z4) (@z0 _ _ _ _ _ (@z1m _ _ _ _ z4) z4 rfl) rfl) rfl) rfl) rfl) (by decide) rfl rfl) rfl (Or.inr rfl)) (@z6 _ _ _ _ _ (@zm _ _ 3 _ _ _ _ sc_law.nd rfl (Or.inl rfl) z44 rfl (Or.inr rfl)) (@z6 _ _ _ _ _ (@zm _ _ 4 _ _ _ _ sc_law.nd rfl (Or.inl rfl) (@z1m _ _ _ _ z4) rfl (Or.inr rfl)) (@z6 _ _ _ _ _ (@zm _ _ 5 _ _ _ _ sc_law.nd rfl (Or.inl rfl) zb rfl (Or.inr rfl)) (@z6 _ _ _ _ _ (@zm _ _ 6 _ _ _ _ sc_law.nd rfl (Or.inl rfl) zb rfl (Or.inr rfl)) (@z6 _ _ _ _ _ (@z4e _ _ _ _ _ _ _ _ PassesOwn.never rfl (@z2c _ _ _ _ (@z10 _ _ _ _ _ _ _ _ _ _ G__law_events (hr.mono (by decide)) rfl (@z0 _ _ _ _ _ (pv 0) (@z0 _ _ _ _ _ (pv 1) z4 rfl) rfl) (by decide) rfl rfl)) (@zaj _ _ _ _ _ _ rfl (@z3w _ _ _ _ _ (@z2b _ _ 7 _ sc_law.nd rfl (Or.inl rfl) (Or.inr rfl)) (@z3w _ _ _ _ _ (@z2b _ _ 8 _ sc_law.nd rfl (Or.inl rfl) (Or.inr rfl)) z90 rfl) rfl) rfl rfl) (@z31 _ _ _ _ _ (@zn _ _ _ _ _ _ _ _ (@zt _ _ _ _ _ _ _ _ z12 (pv 7) zl (zj _)) (@z6 _ _ _ _ _ (@zm _ _ 6 _ _ _ _ sc_law.nd rfl (Or.inl rfl) (@zi _ _ _ _ _ _ _ _ z1j (pv 6) (pv 8)) rfl (Or.inr rfl)) (@z6 _ _ _ _ _ (@zm _ _ 9 _ _ _ _ sc_law.nd rfl (Or.inl rfl) (@z3r _ _ _ _ _ _ _ _ _ _ _ _ _ _ G_World_tick T.cl_World (hr.mono (by decide)) (pv 2) (@z0 _ _ _ _ _ (pv 8) z4 rfl) rfl rfl rfl) rfl (Or.inr rfl)) (@z9 _ _ _ (@zm _ _ 10 _ _ _ _ sc_law.nd rfl (Or.inl rfl) (pv 6) rfl (Or.inr rfl))))) (@z6 _ _ _ _ _ (@zm _ _ 9 _ _ _ _ sc_law.nd rfl (Or.inl rfl) (@z10 _ _ _ _ _ _ _ _ _ _ G__law_deed (hr.mono (by decide)) rfl (@z0 _ _ _ _ _ (pv 2) (@z0 _ _ _ _ _ (pv 7) (@z0 _ _ _ _ _ (pv 8) z4 rfl) rfl) rfl) (by decide) rfl rfl) rfl (Or.inr rfl)) (@z9 _ _ _ (@zm _ _ 10 _ _ _ _ sc_law.nd rfl (Or.inl rfl) zdv rfl (Or.inr rfl))))) (@z31 _ _ _ _ _ (@zn _ _ _ _ _ _ _ _ (@zt _ _ _ _ _ _ _ _ z12 (pv 7) zl (zj _)) (@z9 _ _ _ (@zn _ _ _ _ _ _ _ _ (@z2g _ _ _ _ _ _ (@z5z _ _ _ _ _ hu2 (pv 8) (pv 3)) (by first | exact z11 _ (by decide) (by decide) | rfl)) (@z9 _ _ _ (@zm _ _ 10 _ _ _ _ sc_law.nd rfl (Or.inl rfl) (@z17 _ _ _ _ _ (@z0 _ _ _ _ _ zl (@z0 _ _ _ _ _ zl z4 rfl) rfl)) rfl (Or.inr rfl))) (@z9 _ _ _ (@zn _ _ _ _ _ _ _ _ (@zt _ _ _ _ _ _ _ _ zcn (pv 5) zb (zj _)) (@z9 _ _ _ (@zm _ _ 10 _ _ _ _ sc_law.nd rfl (Or.inl rfl) (@z17 _ _ _ _ _ (@z0 _ _ _ _ _ zl (@z0 _ _ _ _ _ zl z4 rfl) rfl)) rfl (Or.inr rfl))) (@z6 _ _ _ _ _ (@z9c _ _ _ _ _ _ _ _ _ hu2 (pv 3) (pv 8) (pv 6) rfl) (@z6 _ _ _ _ _ (@zm _ _ 5 _ _ _ _ sc_law.nd rfl (Or.inl rfl) (@zi _ _ _ _ _ _ _ _ z1j (pv 5) zb) rfl (Or.inr rfl)) (@z9 _ _ _ (@z1o _ _ _ _ (@z4s _ _ _ _ _ _ _ _ _ _ _ _ PySem.F.plainAttrs_list PySem.F.slot_list_append PySem.F.type_list_append z2v (pv 4) (@z0 _ _ _ _ _ (@z17 _ _ _ _ _ (@z0 _ _ _ _ _ zl (@z0 _ _ _ _ _ (pv 6) (@z0 _ _ _ _ _ (pv 8) z4 rfl) rfl) rfl)) z4 rfl) rfl rfl rfl rfl rfl) rfl)))))))) zf) (@z31 _ _ _ _ _ (@zn _ _ _ _ _ _ _ _ (@zt _ _ _ _ _ _ _ _ z12 (pv 7) zl (zj _)) (@z6 _ _ _ _ _ (@zm _ _ 10 _ _ _ _ sc_law.nd rfl (Or.inl rfl) (@z17 _ _ _ _ _ (@z0 _ _ _ _ _ zl (@z0 _ _ _ _ _ zl z4 rfl) rfl)) rfl (Or.inr rfl)) (@z9 _ _ _ (@zn _ _ _ _ _ _ _ _ (@z2g _ _ _ _ _ _ (@z5z _ _ _ _ _ hu2 (pv 8) (pv 3)) (by first | exact z11 _ (by decide) (by decide) | rfl)) (@z6 _ _ _ _ _ (@zm _ _ 10 _ _ _ _ sc_law.nd rfl (Or.inl rfl) (@z1m _ _ _ _ z4) rfl (Or.inr rfl)) (@z9 _ _ _ (@z1o _ _ _ _ (@z4s _ _ _ _ _ _ _ _ _ _ _ _ PySem.F.plainAttrs_list PySem.F.slot_list_append PySem.F.type_list_append z2v (pv 4) (@z0 _ _ _ _ _ (@z17 _ _ _ _ _ (@z0 _ _ _ _ _ zl (@z0 _ _ _ _ _ (pv 6) (@z0 _ _ _ _ _ (pv 8) (@z0 _ _ _ _ _ (@z7y _ _ _ _ _ _ _ (pv 3) (pv 8) ⟨rfl, rfl, rfl, rfl⟩) z4 rfl) rfl) rfl) rfl)) z4 rfl) rfl rfl rfl rfl rfl) rfl))) zf))) zf) (@z9 _ _ _ (@zn _ _ _ _ _ _ _ _ (PW.pt (@z5m _ _ _ _ _ _ _ (@z5n _ _ _ _ (@z1u _ _ _ (@z10 _ _ _ _ _ _ _ _ _ _ G__law_same (hr.mono (by decide)) rfl (@z0 _ _ _ _ _ (pv 9) (@z0 _ _ _ _ _ (pv 10) z4 rfl) rfl) (by decide) rfl rfl) (by intro _; rfl))) (@z4d _ _ _ _ (@z5n _ _ _ _ (@z1u _ _ _ (@z10 _ _ _ _ _ _ _ _ _ _ G__law_same (hr.mono (by decide)) rfl (@z0 _ _ _ _ _ (@z6a _ _ _ _ _ _ _ _ _ _ _ G_World_sleepers T.cl_World (hr.mono (by decide)) (pv 2) rfl) (@z0 _ _ _ _ _ (@z8 _ _ _ _ _ _ _ _ _ z4k rfl T.b_sorted (by decide +kernel) (@z0 _ _ _ _ _ (@z1p _ _ _ _ _ _ _ _ _ (za7 rfl) rfl T.b_list (by decide +kernel) (@z0 _ _ _ _ _ (pv 3) z4 rfl) (by decide) (by decide) rfl rfl) z4 rfl) (by decide) (by decide) rfl rfl) z4 rfl) rfl) (by decide) rfl rfl) (by intro _; rfl)))))) (@z9 _ _ _ (@zg _ _ _ _ z2o)) zf))))) (by intro _; rfl)) (@z9 _ _ _ (@zg _ _ _ _ (@z10 _ _ _ _ _ _ _ _ _ _ G__law_same (hr.mono (by decide)) rfl (@z0 _ _ _ _ _ (@z6a _ _ _ _ _ _ _ _ _ _ _ G_World_log T.cl_World (hr.mono (by decide)) (pv 2) rfl) (@z0 _ _ _ _ _ (pv 4) z4 rfl) rfl) (by decide) rfl rfl)))))))))), ?_⟩
  walk_at "rd"
  refine ⟨a, ns, 0, rfl, ha, by omega, a, ns, 1, rfl, ha, by omega, _, rfl, by decide, ?_⟩
  generalize ns.getD 0 0 = c0
  generalize ns.getD 1 0 = c1
  obtain ⟨m, em⟩ := Int.eq_ofNat_of_zero_le (show 0 ≤ 1 + (c1 + 2) % 8 by omega)
  have m1 : 1 ≤ m := by omega
  have m8 : m ≤ 8 := by omega
  rw [em]
  refine ⟨c0, m, rfl, m8, fun ph hs H1 hlen hN hph0 hph s1 => ⟨ph, rfl, _, .inl (SqL.of hph), fun p1 hp1 => ⟨by decide, fun p2 hp2 => ⟨by decide, fun p3 hp3 => ⟨by decide, fun p4 hp4 x dx hx hdx ne => ?_⟩⟩⟩⟩⟩
  have u1 := Same.upd (o := .lst (hs.map V.str)) hp1
  have u2 := Same.upd (o := .lst [.str "a"]) hp2
  have u3 := Same.upd (o := .lst []) hp3
  have u4 := Same.upd (o := .lst []) hp4
  have ga := ((u2.trans u3).trans u4) _ _ z5
  have gb := (u3.trans u4) _ _ z5
  have gc := u4 _ _ z5
  have gd : upd (upd (upd (upd H1 p1 (.lst (hs.map V.str))) p2 (.lst [.str "a"])) p3 (.lst [])) p4 (.lst []) p4 = some (.lst []) := z5
  have s5 := s1.trans (((u1.trans u2).trans u3).trans u4)
  have gph := (((u1.trans u2).trans u3).trans u4) _ _ hph
  clear u1 u2 u3 u4 hp1 hp2 hp3 hp4
  generalize upd (upd (upd (upd H1 p1 (.lst (hs.map V.str))) p2 (.lst [.str "a"])) p3 (.lst [])) p4 (.lst []) = G at ga gb gc gd s5 gph hx hdx ⊢
  have v1 := Same.upd (o := .own x) hdx
  have hx1 : upd G dx (.own x) x = none := by rw [z7 ne.symm]; exact hx
  have v2 := Same.upd (o := .ins C_World dx []) hx1
  have v12 := v1.trans v2
  have gl : ∀ z ∈ hs, z.length ≤ 1000 := fun z mz => by have := zcc (hN.all z mz); omega
  have gS : z2f (1 : Nat) hs ["a"] [] [] = true := by
   unfold z2f
   have e1 : (hs.map zr).all id = true := by
    rw [List.all_map]
    exact List.all_eq_true.mpr fun z mz => hN.all z mz
   have e2 : hs.Nodup := hN.nd (by omega)
   have e3 : ((["a"] : List Str).map z20).all id = true := by decide +kernel
   have f1 : (1 : Int) ≤ (hs.length : Int) := by omega
   have f8 : (hs.length : Int) ≤ 8 := by omega
   simp only [e1, e2, e3, f1, f8, List.all_cons, List.all_nil, decide_true, Bool.and_true, id, Bool.and_self]
   decide +kernel
  refine ⟨x, dx, 1, p1, p2, p3, p4, hs, ["a"], [], [], rfl, z5, v12 _ _ ga, v12 _ _ gb, v12 _ _ gc, v12 _ _ gd, by omega, by decide, by decide, by decide, gl, by decide +kernel, by simp, gS, fun G2 co lh ll lsh st ca wa as lo en dd gx objs nd bt => ⟨rfl, fun dS hdS => ⟨by decide, fun lL hlL => ?_⟩⟩⟩
  have W0 : WAt C_World ⟨x, dx, co, lh, ll, lsh, st, ca, wa, as, lo, en⟩ hs 0 0 [] [] G2 := by
   simp only [List.nodup_cons, List.mem_cons, List.not_mem_nil, or_false, not_or] at nd
   exact ⟨gx, (objs (lh, _) (by simp)).1, (objs (ca, _) (by simp)).1, (objs (en, _) (by simp)).1, (objs (as, .dK []) (by simp)).1, (objs (lo, _) (by simp)).1, (by intro q m; simp at m), nd.2.2.1.2.1, fun z => nd.1.2.1 z.symm, nd.2.1.2.2.2.2.2.2⟩
  have sG : Same G G2 := fun b o e => bt b o (v12 b o e) (za e hx)
  generalize eA : (⟨x, dx, co, lh, ll, lsh, st, ca, wa, as, lo, en⟩ : Ad) = A at W0
  have ex : A.x = x := by rw [← eA]
  rw [← ex]
  clear objs nd bt gx eA v1 v2 v12 hx1
  have w1 := Same.upd (o := .dK []) hdS
  have w2 := Same.upd (o := .lst []) hlL
  have W2 := (W0.mono w1).mono w2
  have L0 : La dS lL [] [] (upd (upd G2 dS (.dK [])) lL (.lst [])) := ⟨w2 _ _ z5, z5, by intro q m; simp at m⟩
  have k1 : dS ≠ A.x ∧ dS ≠ A.lh ∧ dS ≠ A.ca ∧ dS ≠ A.en ∧ dS ≠ A.as ∧ dS ≠ A.lo := ⟨(za W0.ix hdS).symm, (za W0.gh hdS).symm, (za W0.gc hdS).symm, (za W0.ge hdS).symm, (za W0.gs hdS).symm, (za W0.gl hdS).symm⟩
  have W1 := W0.mono w1
  have k2 : lL ≠ A.x ∧ lL ≠ A.lh ∧ lL ≠ A.ca ∧ lL ≠ A.en ∧ lL ≠ A.as ∧ lL ≠ A.lo := ⟨(za W1.ix hlL).symm, (za W1.gh hlL).symm, (za W1.gc hlL).symm, (za W1.ge hlL).symm, (za W1.gs hlL).symm, (za W1.gl hlL).symm⟩
  have d1 : dS ∉ WAd A := by simp only [WAd, List.mem_cons, List.not_mem_nil, or_false, not_or]; exact ⟨k1.1, k1.2.2.2.2.1, k1.2.2.2.2.2⟩
  have d2 : lL ∉ WAd A := by simp only [WAd, List.mem_cons, List.not_mem_nil, or_false, not_or]; exact ⟨k2.1, k2.2.2.2.2.1, k2.2.2.2.2.2⟩
  have s6 := ((s5.trans sG).trans w1).trans w2
  have gph2 := (sG.trans (w1.trans w2)) _ _ gph
  generalize upd (upd G2 dS (.dK [])) lL (.lst []) = G4 at W2 L0 s6 gph2 ⊢
  refine ⟨a, ph, ns, hs, rfl, s6.seq ha, hns, gph2, by omega, by omega, fun re T H3 lT eT re0 gre s7 => ⟨re, rfl, ⟨_, SqL.of gre⟩, ?_⟩⟩
  have nre : re ∉ [A.x, A.as, A.lo, dS, lL] := by
   simp only [List.mem_cons, List.not_mem_nil, or_false, not_or]
   exact ⟨(za W2.ix re0).symm, (za W2.gs re0).symm, (za W2.gl re0).symm, (za L0.s re0).symm, (za L0.l re0).symm⟩
  have W3 := W2.mono s7
  have L3 := L0.mono s7
  have nT : ∀ q ∈ T, q.1 ∉ [A.x, A.as, A.lo, dS, lL] := fun q mq => by
   have e := (eT q mq).1
   simp only [List.mem_cons, List.not_mem_nil, or_false, not_or]
   exact ⟨z19 e W3.ix (by intro z; cases z), z19 e W3.gs (by intro z; cases z), z19 e W3.gl (by intro z; cases z), z19 e L3.s (by intro z; cases z), z19 e L3.l (by intro z; cases z)⟩
  clear W2 L0 W0 W1 hdS hlL re0 w1 w2
  refine z9z (xs := T.map fun q => V.ref q.1) (fun i σ H' => ∃ (now n : Int) (D : List (Str × Int)) (T1 T2 : List (Addr × List V)) (v7 v8 v9 v10 : Option V), σ = slots a ph A.x dS lL n now v7 v8 v9 v10 ∧ WAt C_World A hs now n D T1 H' ∧ La dS lL D T2 H' ∧ Cm hs i D T1 T2 ∧ BtA [A.x, A.as, A.lo, dS, lL] H3 H') ⟨0, 0, [], [], [], none, none, none, none, rfl, W3, L3, ⟨rfl, by intro q m; simp at m, Nat.le_refl _, List.nodup_nil, by intro z m; simp at m⟩, .of (Same.refl H3)⟩ ?_ ?_ ?_
  ·rintro i σ H' - ⟨now, n, D, T1, T2, v7, v8, v9, v10, rfl, -, -, -, b⟩
   exact SqL.of (b _ _ gre nre)
  ·rintro Pv hP i y σ H' hy ⟨now, n, D, T1, T2, v7, v8, v9, v10, rfl, wi, li, ci, bi⟩
   rw [List.getElem?_map] at hy
   cases e : T[i]? with
   | none => rw [e] at hy; cases hy
   | some q0 =>
   rw [e] at hy
   cases hy
   have mq := List.mem_of_getElem? e
   have il : i < T.length := (List.getElem?_eq_some_iff.mp e).1
   obtain ⟨gq, ev⟩ := eT q0 mq
   have gq := bi _ _ gq (nT q0 mq)
   have hD : D.length ≤ 60 := by
    have := zab (D.map (·.1)) hs ci.nd ci.sub
    rw [List.length_map] at this
    omega
   have hT1 : T1.length ≤ 900 := by have := ci.len; omega
   have wide : ∀ x ∈ WAd A, x ∈ [A.x, A.as, A.lo, dS, lL] := fun x m => by
    simp only [WAd, List.mem_cons, List.not_mem_nil, or_false] at m ⊢
    rcases m with m | m | m
    ·exact .inl m
    ·exact .inr (.inl m)
    ·exact .inr (.inr (.inl m))
   obtain ⟨kd, e8, e2, ev2⟩ : ∃ kd e8, q0.2 = [V.str kd, e8] ∧ ((kd = "pause" ∧ ∃ h ∈ hs, e8 = .str h) ∨ (kd = "wake" ∧ ∃ h ∈ hs, e8 = .str h) ∨ (kd = "tick" ∧ ∃ m : Int, 1 ≤ m ∧ m ≤ 1000 ∧ e8 = .int m)) := by
    rcases ev with ⟨h, mh, e2⟩ | ⟨h, mh, e2⟩ | ⟨m, h1, h2, e2⟩
    ·exact ⟨_, _, e2, .inl ⟨rfl, h, mh, rfl⟩⟩
    ·exact ⟨_, _, e2, .inr (.inl ⟨rfl, h, mh, rfl⟩)⟩
    ·exact ⟨_, _, e2, .inr (.inr ⟨rfl, m, h1, h2, rfl⟩)⟩
   rw [e2] at gq
   unfold slots
   walk_at "rd"
   refine ⟨_, SqT.of gq, rfl, _, _, rfl, _, _, rfl, rfl, ?_⟩
   refine z4v (fun σ H2 => (∃ kz : Str, kz ≠ "pause" ∧ kz ≠ "wake" ∧ zad C_World A hs a ph dS lL H3 (i + 1) kz σ H2) ∨ zel C_World A hs a ph dS lL H3 i σ H2 ∨ zcy C_World A hs a ph dS lL H3 i σ H2) (fun Mid hM => ?_) ?_
   ·rcases ev2 with ⟨rfl, h, mh, rfl⟩ | ⟨rfl, h, mh, rfl⟩ | ⟨rfl, m, m1, m2, rfl⟩
    ·walk_at "rd"
     rw [if_neg (by decide +kernel)]
     refine ⟨A, hs, now, n, D, T1, true, h, rfl, wi, by omega, mh, hD, hT1, ci.nd, fun _ m r H2 hr s => ?_, fun _ m h20 r H2 hr s => ?_, fun _ m h20 p H2 w b => ?_, (fun z => by cases z), (fun z => by cases z)⟩
     ·exact hM _ _ (.inr (.inl ⟨now, n, D, T1, T2, h, .ref r, mh, rfl, li.mono s, ci, bi.trans (.of s), .inl ⟨m, ⟨r, rfl, hr⟩, wi.mono s⟩⟩))
     ·exact hM _ _ (.inr (.inl ⟨now, n, D, T1, T2, h, .ref r, mh, rfl, li.mono s, ci, bi.trans (.of s), .inr (.inl ⟨m, h20, ⟨r, rfl, hr⟩, wi.mono s⟩)⟩))
     ·exact hM _ _ (.inr (.inl ⟨now, n, D, T1, T2, h, .non, mh, rfl, li.keep wi b d1 d2, ci, bi.trans (b.wide wide), .inr (.inr ⟨m, h20, rfl, p, w⟩)⟩))
    ·walk_at "rd"
     rw [if_neg (by decide +kernel)]
     refine ⟨A, hs, now, n, D, T1, false, h, rfl, wi, by omega, mh, hD, hT1, ci.nd, (fun z => by cases z), (fun z => by cases z), (fun z => by cases z), fun _ m r H2 hr s => ?_, fun _ t m p r H2 w hr0 hr1 b => ?_⟩
     ·exact hM _ _ (.inr (.inr ⟨now, n, D, T1, T2, h, .ref r, mh, rfl, li.mono s, ci, bi.trans (.of s), .inl ⟨m, ⟨r, rfl, hr⟩, wi.mono s⟩⟩))
     ·exact hM _ _ (.inr (.inr ⟨now, n, D, T1, T2, h, .ref r, mh, rfl, li.keep wi b d1 d2, ci, bi.trans (b.wide wide), .inr ⟨t, p, r, m, rfl, (za li.l hr0).symm, hr1, w⟩⟩))
    ·walk_at "rd"
     rw [if_pos (by simp)]
     refine ⟨_, _, wi.ix, rfl, A, hs, now, n, m, D, T1, rfl, wi, m1, m2, fun H2 w b => ?_⟩
     exact hM _ _ (.inl ⟨"tick", by decide +kernel, by decide +kernel, now + m, n, D, T1, T2, _, .int (now + m), .int (now + m), rfl, w, li.keep wi b d1 d2, ci.up (by omega), bi.trans (b.wide wide), .inl (.inl ⟨rfl, .inl ⟨_, rfl⟩⟩)⟩)
   rintro σ H2 h
   refine z4v (fun σ H2 => (∃ kz : Str, kz ≠ "wake" ∧ zad C_World A hs a ph dS lL H3 (i + 1) kz σ H2) ∨ zcy C_World A hs a ph dS lL H3 i σ H2) (fun Mid hM => ?_) ?_
   ·rcases h with ⟨kz, z1, z2, h⟩ | h | h
    ·obtain ⟨now, n, D, T1, T2, v8, f', d, rfl, -⟩ := id h
     unfold slots
     walk_at "rd"
     rw [if_neg (by simpa using z1)]
     exact hM _ _ (.inl ⟨kz, z2, h⟩)
    ·obtain ⟨now, n, D, T1, T2, z, f', mz, rfl, l, c, b, h⟩ := h
     unfold slots
     walk_at "rd"
     rw [if_pos (by simp)]
     have hl1 : (asD D).length < sizeLine := by
      have := c.few
      unfold asD
      rw [List.length_map]
      exact z1w (by omega)
     refine ⟨_, DGet.k (k := Sum.inr z) l.s, ?_⟩
     rw [z66]
     rcases h with ⟨m, ⟨r, rfl, hr⟩, w⟩ | ⟨m, h20, ⟨r, rfl, hr⟩, w⟩ | ⟨m, h20, rfl, p0, w⟩
     ·rw [if_pos (decide_eq_true m)]
      exact ⟨by decide, fun p hp => hM _ _ (.inl ⟨"pause", by decide +kernel, now, n, D, T1, T2, _, .ref r, .ref p, rfl, w.mono (Same.upd hp), l.mono (Same.upd hp), c.up (by omega), b.new hp _, .inl (z2n (.inr ⟨Same.upd hp _ _ hr, z5⟩) (by decide) (z8k _ _))⟩)⟩
     ·rw [if_neg (by simpa using m), if_pos (decide_eq_true h20)]
      exact ⟨by decide, fun p hp => hM _ _ (.inl ⟨"pause", by decide +kernel, now, n, D, T1, T2, _, .ref r, .ref p, rfl, w.mono (Same.upd hp), l.mono (Same.upd hp), c.up (by omega), b.new hp _, .inl (z2n (.inr ⟨Same.upd hp _ _ hr, z5⟩) (by decide) (z8k _ _))⟩)⟩
     ·rw [if_neg (by simpa using m), if_neg (by simpa using h20)]
      have pu := DPut.k (k := Sum.inr z) (v := V.int now) l.s hl1
      rw [z9k m] at pu
      have l1 := l.sets (D ++ [(z, now)])
      have w1 := w.keep (.dK (asD (D ++ [(z, now)]))) k1 (fun q mq => z19 (w.gt q mq) l.s (by intro z; cases z))
      have b1 := b.put (p := dS) (by simp) (.dK (asD (D ++ [(z, now)])))
      generalize upd H2 dS (.dK (asD (D ++ [(z, now)]))) = G5 at pu l1 w1 b1
      refine ⟨_, pu, .inl ⟨_, SqL.of l1.l⟩, by decide, fun p hp => ?_⟩
      have t := Same.upd (o := .tup [.str "pause", .int now, .str z]) hp
      have l2 := l1.mono t
      have w2 := w1.mono t
      refine ⟨_, _, _, rfl, rfl, l2.l, z1w (by have := c.len2; rw [z2m]; omega), ?_⟩
      refine hM _ _ (.inl ⟨"pause", by decide +kernel, now, n + 1, D ++ [(z, now)], T1 ++ [(p0, [.str "pause", .int now, .str z])], T2 ++ [(p, [.str "pause", .int now, .str z])], _, .non, .non, rfl, w2.keep _ k2 (fun q mq => z19 (w2.gt q mq) l2.l (by intro z; cases z)), l2.logd z5, c.add p0 p _ ⟨by show 3 ≤ 4; decide, ?_⟩ ?_ ?_, (b1.new hp _).put (by simp) _, .inr ⟨rfl, rfl⟩⟩)
      ·intro v hv
       simp only [List.mem_cons, List.not_mem_nil, or_false] at hv
       rcases hv with rfl | rfl | rfl
       ·exact .inr (.inl ⟨_, rfl⟩)
       ·exact .inl ⟨_, rfl⟩
       ·exact .inr (.inl ⟨_, rfl⟩)
      ·rw [List.map_append, List.nodup_append]
       exact ⟨c.nd, by simp, fun x hx y hy => by
        have e : y = z := by simpa using hy
        subst e
        rintro rfl
        exact m hx⟩
      ·intro y hy
       rw [List.map_append] at hy
       rcases List.mem_append.mp hy with hy | hy
       ·exact c.sub y hy
       ·have e : y = z := by simpa using hy
        rw [e]; exact mz
    ·obtain ⟨now, n, D, T1, T2, z, f', mz, rfl, -⟩ := id h
     unfold slots
     walk_at "rd"
     rw [if_neg (by decide +kernel)]
     exact hM _ _ (.inr h)
   rintro σ H2 h
   refine z4v (fun σ H2 => ∃ kz : Str, zad C_World A hs a ph dS lL H3 (i + 1) kz σ H2) (fun Mid hM => ?_) ?_
   ·rcases h with ⟨kz, z2, h⟩ | h
    ·obtain ⟨now, n, D, T1, T2, v8, f', d, rfl, -⟩ := id h
     unfold slots
     walk_at "rd"
     rw [if_neg (by simpa using z2)]
     exact hM _ _ ⟨kz, h⟩
    ·obtain ⟨now, n, D, T1, T2, z, f', mz, rfl, l, c, b, h⟩ := h
     unfold slots
     walk_at "rd"
     rw [if_pos (by simp)]
     refine ⟨by decide, fun p hp => ?_⟩
     have t0 := Same.upd (o := .tup [.str "refused", .str "awake"]) hp
     refine ⟨_, DGet.k (k := Sum.inr z) (t0 _ _ l.s), ?_⟩
     rw [z66]
     rcases h with ⟨m, ⟨r, rfl, hr⟩, w⟩ | ⟨t, p0, r, m, rfl, nr, hr, w⟩
     ·rw [if_neg (by simpa using m)]
      exact hM _ _ ⟨"wake", now, n, D, T1, T2, _, .ref r, .ref p, rfl, w.mono t0, l.mono t0, c.up (by omega), b.new hp _, .inl (z2n (.inr ⟨t0 _ _ hr, z5⟩) (by decide) (z8k _ _))⟩
     ·have mz : z ∈ D.map (·.1) := List.mem_map.mpr ⟨_, m, rfl⟩
      rw [if_pos (decide_eq_true mz)]
      refine ⟨by decide, fun p1 hp1 => ?_⟩
      have t1 := Same.upd (o := .lst []) hp1
      have l0 := l.mono (t0.trans t1)
      have w0 := w.mono (t0.trans t1)
      have np1 : p1 ≠ lL := fun z => by
       have := t0 _ _ l.l
       rw [← z, hp1] at this
       cases this
      refine ⟨.inl ⟨_, SqL.of l0.l⟩, .inl ⟨_, .inl l0.s⟩, _, l0.s, Sum.inr z, rfl, _, z8d m c.nd, by decide, fun p2 hp2 => ?_⟩
      rw [z8e] at hp2 ⊢
      have l1 := l0.sets (D.filter fun q => decide (q.1 ≠ z))
      have w1 := w0.keep (.dK (asD (D.filter fun q => decide (q.1 ≠ z)))) k1 (fun q mq => z19 (w0.gt q mq) l0.s (by intro z; cases z))
      have b1 := ((b.new hp (.tup [.str "refused", .str "awake"])).new hp1 (.lst [])).put (p := dS) (by simp) (.dK (asD (D.filter fun q => decide (q.1 ≠ z))))
      have g1 : upd (upd (upd H2 p (.tup [.str "refused", .str "awake"])) p1 (.lst [])) dS (.dK (asD (D.filter fun q => decide (q.1 ≠ z)))) r = some (.lst []) := by
       have e := (t0.trans t1) _ _ hr
       rw [z7 (z19 e l0.s (by intro z; cases z))]
       exact e
      have g2 : upd (upd (upd H2 p (.tup [.str "refused", .str "awake"])) p1 (.lst [])) dS (.dK (asD (D.filter fun q => decide (q.1 ≠ z)))) p1 = some (.lst []) := by
       have e : upd (upd H2 p (.tup [.str "refused", .str "awake"])) p1 (.lst []) p1 = some (.lst []) := z5
       rw [z7 (z19 e l0.s (by intro z; cases z))]
       exact e
      generalize upd (upd (upd H2 p (.tup [.str "refused", .str "awake"])) p1 (.lst [])) dS (.dK (asD (D.filter fun q => decide (q.1 ≠ z)))) = G5 at hp2 l1 w1 b1 g1 g2 ⊢
      have t2 := Same.upd (o := .tup [.str "wake", .int now, .str z, .int t]) hp2
      have l2 := l1.mono t2
      have w2 := w1.mono t2
      refine ⟨_, _, _, rfl, rfl, l2.l, z1w (by have := c.len2; rw [z2m]; omega), ?_⟩
      refine hM _ _ ⟨"wake", now, n, D.filter (fun q => decide (q.1 ≠ z)), T1 ++ [(p0, [.str "wake", .int now, .str z, .int t])], T2 ++ [(p2, [.str "wake", .int now, .str z, .int t])], _, .ref r, .ref p1, rfl, w2.keep _ k2 (fun q mq => z19 (w2.gt q mq) l2.l (by intro z; cases z)), l2.logd z5, c.add p0 p2 _ ⟨by show 4 ≤ 4; decide, ?_⟩ ?_ ?_, (b1.new hp2 _).put (by simp) _, .inl (z2n (.inl ⟨by rw [z7 nr]; exact t2 _ _ g1, by rw [z7 np1]; exact t2 _ _ g2⟩) (by decide) (by intro v hv; cases hv))⟩
      ·intro v hv
       simp only [List.mem_cons, List.not_mem_nil, or_false] at hv
       rcases hv with rfl | rfl | rfl | rfl
       ·exact .inr (.inl ⟨_, rfl⟩)
       ·exact .inl ⟨_, rfl⟩
       ·exact .inr (.inl ⟨_, rfl⟩)
       ·exact .inl ⟨_, rfl⟩
      ·exact c.nd.sublist (List.filter_sublist.map _)
      ·exact fun y hy => c.sub y ((List.filter_sublist.map _).subset hy)
   rintro σ H2 ⟨kz, now, n, D, T1, T2, v8, f', d, rfl, w, l, c, b, fd⟩
   unfold slots
   walk_at "rd"
   have sm : ∀ (X Y : V) (G : Hp) (Q' : VK), (Alike G 2 X Y ∨ (X = .non ∧ Y = .non)) → (∀ H', Same G H' → Q' (.bl true) H') → z5i [X, Y] G Q' E0 := by
    rintro X Y G Q' (h | ⟨rfl, rfl⟩) k
    ·exact .inl ⟨X, Y, rfl, h, k⟩
    ·exact .inr ⟨rfl, k⟩
   refine sm _ _ _ _ fd fun H5 s5 => ⟨true, rfl, ?_⟩
   rw [if_neg (by decide)]
   have w5 := w.mono s5
   have l5 := l.mono s5
   have few := c.few
   refine ⟨_, _, w5.ix, rfl, A, hs, now, n, D, T1, rfl, w5, by omega, fun r ks H6 pk sk hr0 hr1 s6 => ?_⟩
   have l6 := l5.mono s6
   refine ⟨_, l6.s, _, z8f D, fun q1 hq1 => ⟨D.map (·.1), SqL.of z5, by rw [List.length_map]; omega, fun q2 ks2 hq2 pk2 sk2 => ?_⟩⟩
   have ek : ks2 = ks := zaa sk2 sk (pk2.trans pk.symm)
   subst ek
   have t1 := Same.upd (o := .lst ((D.map (·.1)).map V.str)) hq1
   have t2 := Same.upd (o := .lst (ks2.map V.str)) hq2
   have lk : ks2.length ≤ 1000 := by rw [pk.length_eq, List.length_map]; omega
   refine sm _ _ _ _ (.inl (z2n (.inl ⟨(t1.trans t2) _ _ hr1, z5⟩) (by rw [List.length_map]; exact lk) (by intro v hv; obtain ⟨y, _, rfl⟩ := List.mem_map.mp hv; exact .inr (.inl ⟨_, rfl⟩)))) fun H7 s7 => ⟨true, rfl, ?_⟩
   rw [if_neg (by decide)]
   have sa := ((s5.trans s6).trans (t1.trans t2)).trans s7
   exact hP _ _ _ ⟨now, n, D, T1, T2, _, _, _, _, rfl, w.mono sa, l.mono sa, c, b.trans (.of sa)⟩
  ·rintro σ H' ⟨now, n, D, T1, T2, v7, v8, v9, v10, rfl, wi, li, ci, bi⟩
   unfold slots
   walk_at "rd"
   refine ⟨_, _, wi.ix, rfl, A, hs, now, n, D, T1, rfl, wi, fun r H4 hr0 hr1 s4 => .inl ⟨_, _, rfl, zac hr1 (s4 _ _ li.l) (fun q m => s4 _ _ (wi.gt q m)) (fun q m => s4 _ _ (li.t q m)) ci.e ci.pl ?_, fun H5 _ => q _⟩⟩
   have := ci.len
   rw [List.length_map] at this
   omega
end
theorem all_mk {l : PySem.W.OpenLaw} {w : World} {K : PySem.W.Frag} {h : Heap} {mg : Str → Option Value} {fa : Addr} (X : K.In h) (G : h.Ns mainGlobals mg) (hfa : mg "law" = some (.ref fa))
  {C_Asleep : Addr}
  {C_Awake : Addr}
  {C_BadSetup : Addr}
  {C_Council : Addr}
  {C_Keeper : Addr}
  {C_PausesSpent : Addr}
  {C_Store : Addr}
  {C_World : Addr}
  {t_MOST_HOLDERS : Tok}
  {t_MOST_KEEPERS : Tok}
  {t_MOST_LOCKS : Tok}
  {t_MOST_NAMES : Tok}
  {t_MOST_PAUSES : Tok}
  {t_MOST_SIGNS : Tok}
  {t_MOST_STORES : Tok}
  {t_MOST_TIME : Tok}
  {t_NAME_SIGNS : Tok}
  (y_b_all : PySem.W.nsIn K mainGlobals "all" = some none)
  (y_b_bool : PySem.W.nsIn K mainGlobals "bool" = some none)
  (y_b_dict : PySem.W.nsIn K mainGlobals "dict" = some none)
  (y_b_int : PySem.W.nsIn K mainGlobals "int" = some none)
  (y_b_isinstance : PySem.W.nsIn K mainGlobals "isinstance" = some none)
  (y_b_len : PySem.W.nsIn K mainGlobals "len" = some none)
  (y_b_list : PySem.W.nsIn K mainGlobals "list" = some none)
  (y_b_range : PySem.W.nsIn K mainGlobals "range" = some none)
  (y_b_set : PySem.W.nsIn K mainGlobals "set" = some none)
  (y_b_sorted : PySem.W.nsIn K mainGlobals "sorted" = some none)
  (y_b_str : PySem.W.nsIn K mainGlobals "str" = some none)
  (y_b_tuple : PySem.W.nsIn K mainGlobals "tuple" = some none)
  (y_c_MOST_HOLDERS : PySem.W.nsIn K mainGlobals "MOST_HOLDERS" = some (some (.int 8 t_MOST_HOLDERS)))
  (y_c_MOST_KEEPERS : PySem.W.nsIn K mainGlobals "MOST_KEEPERS" = some (some (.int 5 t_MOST_KEEPERS)))
  (y_c_MOST_LOCKS : PySem.W.nsIn K mainGlobals "MOST_LOCKS" = some (some (.int 10 t_MOST_LOCKS)))
  (y_c_MOST_NAMES : PySem.W.nsIn K mainGlobals "MOST_NAMES" = some (some (.int 4 t_MOST_NAMES)))
  (y_c_MOST_PAUSES : PySem.W.nsIn K mainGlobals "MOST_PAUSES" = some (some (.int 20 t_MOST_PAUSES)))
  (y_c_MOST_SIGNS : PySem.W.nsIn K mainGlobals "MOST_SIGNS" = some (some (.int 8 t_MOST_SIGNS)))
  (y_c_MOST_STORES : PySem.W.nsIn K mainGlobals "MOST_STORES" = some (some (.int 4 t_MOST_STORES)))
  (y_c_MOST_TIME : PySem.W.nsIn K mainGlobals "MOST_TIME" = some (some (.int 1000 t_MOST_TIME)))
  (y_c_NAME_SIGNS : PySem.W.nsIn K mainGlobals "NAME_SIGNS" = some (some (.str "abcdefghijklmnopqrstuvwxyz0123456789" t_NAME_SIGNS)))
  (y_g_Asleep : PySem.W.nsIn K mainGlobals "Asleep" = some (some (.ref C_Asleep)))
  (y_g_Awake : PySem.W.nsIn K mainGlobals "Awake" = some (some (.ref C_Awake)))
  (y_g_BadSetup : PySem.W.nsIn K mainGlobals "BadSetup" = some (some (.ref C_BadSetup)))
  (y_g_Council : PySem.W.nsIn K mainGlobals "Council" = some (some (.ref C_Council)))
  (y_g_Keeper : PySem.W.nsIn K mainGlobals "Keeper" = some (some (.ref C_Keeper)))
  (y_g_PausesSpent : PySem.W.nsIn K mainGlobals "PausesSpent" = some (some (.ref C_PausesSpent)))
  (y_g_Store : PySem.W.nsIn K mainGlobals "Store" = some (some (.ref C_Store)))
  (y_g_World : PySem.W.nsIn K mainGlobals "World" = some (some (.ref C_World)))
  (y_pg_Council : PySem.W.plainGet K C_Council Str.empty = true)
  (y_hd_Council : PySem.W.hasDictIn K C_Council = true)
  (y_po_Council : PySem.W.plainOver K C_Council = true)
  (y_sa_Council : PySem.W.findIn K (.ref C_Council) "__setattr__" = some (some (.builtin "object.__setattr__")))
  (y_n_Council_keepers : PySem.W.findIn K (.ref C_Council) "keepers" = some none)
  (y_n_Council_most : PySem.W.findIn K (.ref C_Council) "most" = some none)
  (y_pg_Keeper : PySem.W.plainGet K C_Keeper Str.empty = true)
  (y_hd_Keeper : PySem.W.hasDictIn K C_Keeper = true)
  (y_po_Keeper : PySem.W.plainOver K C_Keeper = true)
  (y_sa_Keeper : PySem.W.findIn K (.ref C_Keeper) "__setattr__" = some (some (.builtin "object.__setattr__")))
  (y_n_Keeper_up : PySem.W.findIn K (.ref C_Keeper) "up" = some none)
  (y_n_Keeper_top : PySem.W.findIn K (.ref C_Keeper) "top" = some none)
  (y_n_Keeper_kept : PySem.W.findIn K (.ref C_Keeper) "kept" = some none)
  (y_pg_Store : PySem.W.plainGet K C_Store Str.empty = true)
  (y_hd_Store : PySem.W.hasDictIn K C_Store = true)
  (y_po_Store : PySem.W.plainOver K C_Store = true)
  (y_sa_Store : PySem.W.findIn K (.ref C_Store) "__setattr__" = some (some (.builtin "object.__setattr__")))
  (y_n_Store_top : PySem.W.findIn K (.ref C_Store) "top" = some none)
  (y_n_Store_kept : PySem.W.findIn K (.ref C_Store) "kept" = some none)
  (y_pg_World : PySem.W.plainGet K C_World Str.empty = true)
  (y_hd_World : PySem.W.hasDictIn K C_World = true)
  (y_po_World : PySem.W.plainOver K C_World = true)
  (y_sa_World : PySem.W.findIn K (.ref C_World) "__setattr__" = some (some (.builtin "object.__setattr__")))
  (y_n_World_now : PySem.W.findIn K (.ref C_World) "now" = some none)
  (y_n_World_council : PySem.W.findIn K (.ref C_World) "council" = some none)
  (y_n_World_holders : PySem.W.findIn K (.ref C_World) "holders" = some none)
  (y_n_World_locks : PySem.W.findIn K (.ref C_World) "locks" = some none)
  (y_n_World_shareable : PySem.W.findIn K (.ref C_World) "shareable" = some none)
  (y_n_World_stores : PySem.W.findIn K (.ref C_World) "stores" = some none)
  (y_n_World_carries : PySem.W.findIn K (.ref C_World) "carries" = some none)
  (y_n_World_waiting : PySem.W.findIn K (.ref C_World) "waiting" = some none)
  (y_n_World_asleep_since : PySem.W.findIn K (.ref C_World) "asleep_since" = some none)
  (y_n_World_pauses : PySem.W.findIn K (.ref C_World) "pauses" = some none)
  (y_n_World_logged : PySem.W.findIn K (.ref C_World) "logged" = some none)
  (y_n_World_ends : PySem.W.findIn K (.ref C_World) "ends" = some none)
  (y_x_Asleep : PySem.W.excIn K C_Asleep [.type "ValueError", .type "Exception", .type "BaseException", .type "object"] "ValueError.__new__" = true)
  (y_x_Awake : PySem.W.excIn K C_Awake [.type "ValueError", .type "Exception", .type "BaseException", .type "object"] "ValueError.__new__" = true)
  (y_x_BadSetup : PySem.W.excIn K C_BadSetup [.type "ValueError", .type "Exception", .type "BaseException", .type "object"] "ValueError.__new__" = true)
  (y_x_PausesSpent : PySem.W.excIn K C_PausesSpent [.type "ValueError", .type "Exception", .type "BaseException", .type "object"] "ValueError.__new__" = true)
  (y_sb_Asleep_Asleep : PySem.W.subIn K (.ref C_Asleep) (.ref C_Asleep) = some true)
  (y_sb_Asleep_Awake : PySem.W.subIn K (.ref C_Asleep) (.ref C_Awake) = some false)
  (y_sb_Asleep_PausesSpent : PySem.W.subIn K (.ref C_Asleep) (.ref C_PausesSpent) = some false)
  (y_sb_Awake_Asleep : PySem.W.subIn K (.ref C_Awake) (.ref C_Asleep) = some false)
  (y_sb_Awake_Awake : PySem.W.subIn K (.ref C_Awake) (.ref C_Awake) = some true)
  (y_sb_Awake_PausesSpent : PySem.W.subIn K (.ref C_Awake) (.ref C_PausesSpent) = some false)
  (y_sb_BadSetup_Asleep : PySem.W.subIn K (.ref C_BadSetup) (.ref C_Asleep) = some false)
  (y_sb_BadSetup_Awake : PySem.W.subIn K (.ref C_BadSetup) (.ref C_Awake) = some false)
  (y_sb_BadSetup_PausesSpent : PySem.W.subIn K (.ref C_BadSetup) (.ref C_PausesSpent) = some false)
  (y_sb_PausesSpent_Asleep : PySem.W.subIn K (.ref C_PausesSpent) (.ref C_Asleep) = some false)
  (y_sb_PausesSpent_Awake : PySem.W.subIn K (.ref C_PausesSpent) (.ref C_Awake) = some false)
  (y_sb_PausesSpent_PausesSpent : PySem.W.subIn K (.ref C_PausesSpent) (.ref C_PausesSpent) = some true)
  {f0 : Addr} {d0 : FuncData}
  (a0 : W.nsIn K mainGlobals "good_name" = some (some (.ref f0)))
  (F0 : Fun K "good_name" "good_name" z3j f0 d0)
  {f1 : Addr} {d1 : FuncData}
  (a1 : W.nsIn K mainGlobals "good_path" = some (some (.ref f1)))
  (F1 : Fun K "good_path" "good_path" z3k f1 d1)
  {f2 : Addr} {d2 : FuncData}
  (a2 : W.findIn K (.ref C_Keeper) "__init__" = some (some (.ref f2))) (i2 : W.isFn K (.ref f2) = true)
  (F2 : Fun K "__init__" "Keeper.__init__" z24 f2 d2)
  {f3 : Addr} {d3 : FuncData}
  (a3 : W.findIn K (.ref C_Council) "__init__" = some (some (.ref f3))) (i3 : W.isFn K (.ref f3) = true)
  (F3 : Fun K "__init__" "Council.__init__" z1z f3 d3)
  {f4 : Addr} {d4 : FuncData}
  (a4 : W.findIn K (.ref C_Store) "__init__" = some (some (.ref f4))) (i4 : W.isFn K (.ref f4) = true)
  (F4 : Fun K "__init__" "Store.__init__" z28 f4 d4)
  {f5 : Addr} {d5 : FuncData}
  (a5 : W.nsIn K mainGlobals "all_differ" = some (some (.ref f5)))
  (F5 : Fun K "all_differ" "all_differ" z35 f5 d5)
  {f6 : Addr} {d6 : FuncData}
  (a6 : W.nsIn K mainGlobals "good_setup" = some (some (.ref f6)))
  (F6 : Fun K "good_setup" "good_setup" z36 f6 d6)
  {f7 : Addr} {d7 : FuncData}
  (a7 : W.nsIn K mainGlobals "check_time" = some (some (.ref f7)))
  (F7 : Fun K "check_time" "check_time" z37 f7 d7)
  {f8 : Addr} {d8 : FuncData}
  (a8 : W.findIn K (.ref C_World) "__init__" = some (some (.ref f8))) (i8 : W.isFn K (.ref f8) = true)
  (F8 : Fun K "__init__" "World.__init__" z29 f8 d8)
  {f9 : Addr} {d9 : FuncData}
  (a9 : W.findIn K (.ref C_World) "check_holder" = some (some (.ref f9))) (i9 : W.isFn K (.ref f9) = true)
  (F9 : Fun K "check_holder" "World.check_holder" z1q f9 d9)
  {f10 : Addr} {d10 : FuncData}
  (a10 : W.findIn K (.ref C_World) "check_awake" = some (some (.ref f10))) (i10 : W.isFn K (.ref f10) = true)
  (F10 : Fun K "check_awake" "World.check_awake" z1s f10 d10)
  {f11 : Addr} {d11 : FuncData}
  (a11 : W.findIn K (.ref C_World) "settle" = some (some (.ref f11))) (i11 : W.isFn K (.ref f11) = true)
  (F11 : Fun K "settle" "World.settle" z3s f11 d11)
  {f12 : Addr} {d12 : FuncData}
  (a12 : W.findIn K (.ref C_World) "pause" = some (some (.ref f12))) (i12 : W.isFn K (.ref f12) = true)
  (F12 : Fun K "pause" "World.pause" z2x f12 d12)
  {f13 : Addr} {d13 : FuncData}
  (a13 : W.findIn K (.ref C_World) "wake" = some (some (.ref f13))) (i13 : W.isFn K (.ref f13) = true)
  (F13 : Fun K "wake" "World.wake" z38 f13 d13)
  {f14 : Addr} {d14 : FuncData}
  (a14 : W.findIn K (.ref C_World) "became" = some (some (.ref f14))) (i14 : W.isFn K (.ref f14) = true)
  (F14 : Fun K "became" "World.became" z3t f14 d14)
  {f15 : Addr} {d15 : FuncData}
  (a15 : W.findIn K (.ref C_World) "tick" = some (some (.ref f15))) (i15 : W.isFn K (.ref f15) = true)
  (F15 : Fun K "tick" "World.tick" z39 f15 d15)
  {f16 : Addr} {d16 : FuncData}
  (a16 : W.findIn K (.ref C_World) "carried" = some (some (.ref f16))) (i16 : W.isFn K (.ref f16) = true)
  (F16 : Fun K "carried" "World.carried" z2k f16 d16)
  {f17 : Addr} {d17 : FuncData}
  (a17 : W.findIn K (.ref C_World) "sleepers" = some (some (.ref f17))) (i17 : W.isFn K (.ref f17) = true)
  (F17 : Fun K "sleepers" "World.sleepers" z2a f17 d17)
  {f18 : Addr} {d18 : FuncData}
  (a18 : W.findIn K (.ref C_World) "log" = some (some (.ref f18))) (i18 : W.isFn K (.ref f18) = true)
  (F18 : Fun K "log" "World.log" z3l f18 d18)
  {f19 : Addr} {d19 : FuncData}
  (a19 : W.nsIn K mainGlobals "_law_at" = some (some (.ref f19)))
  (F19 : Fun K "_law_at" "_law_at" z4m f19 d19)
  {f20 : Addr} {d20 : FuncData}
  (a20 : W.nsIn K mainGlobals "_law_same" = some (some (.ref f20)))
  (F20 : Fun K "_law_same" "_law_same" z1n f20 d20)
  {f21 : Addr} {d21 : FuncData}
  (a21 : W.nsIn K mainGlobals "_law_name" = some (some (.ref f21)))
  (F21 : Fun K "_law_name" "_law_name" z3m f21 d21)
  {f22 : Addr} {d22 : FuncData}
  (a22 : W.nsIn K mainGlobals "_law_names" = some (some (.ref f22)))
  (F22 : Fun K "_law_names" "_law_names" z3a f22 d22)
  {f23 : Addr} {d23 : FuncData}
  (a23 : W.nsIn K mainGlobals "_law_deed" = some (some (.ref f23)))
  (F23 : Fun K "_law_deed" "_law_deed" z3n f23 d23)
  {f24 : Addr} {d24 : FuncData}
  (a24 : W.nsIn K mainGlobals "_law_events" = some (some (.ref f24)))
  (F24 : Fun K "_law_events" "_law_events" z2y f24 d24)
  {f25 : Addr} {d25 : FuncData}
  (a25 : W.nsIn K mainGlobals "law" = some (some (.ref f25)))
  (F25 : Fun K "law" "law" z4z f25 d25)
  (mk_Council : PySem.W.makesIn K C_Council = true) (kc_Council : PySem.W.keepIn K (.ref C_Council) = true)
  (mk_Keeper : PySem.W.makesIn K C_Keeper = true) (kc_Keeper : PySem.W.keepIn K (.ref C_Keeper) = true)
  (mk_Store : PySem.W.makesIn K C_Store = true) (kc_Store : PySem.W.keepIn K (.ref C_Store) = true)
  (mk_World : PySem.W.makesIn K C_World = true) (kc_World : PySem.W.keepIn K (.ref C_World) = true)
  : ∃ fd : FuncData, (∀ (s : Shared) (v : Value), BindsTo s fd ⟨[v], []⟩ [("_law_script", v)]) ∧ ∀ base : Heap, K.In base → base.Ns mainGlobals mg → FnOk l.prog w K mg base CX0 7 fa fd ["_law_script"] (spLaw K) := by
 have e := hfa.symm.trans (PySem.W.mg_of X G a25)
 cases e
 have T : Txt K mg C_Asleep C_Awake C_BadSetup C_Council C_Keeper C_PausesSpent C_Store C_World t_MOST_HOLDERS t_MOST_KEEPERS t_MOST_LOCKS t_MOST_NAMES t_MOST_PAUSES t_MOST_SIGNS t_MOST_STORES t_MOST_TIME t_NAME_SIGNS := ⟨trivial, PySem.W.mg_none_of X G y_b_all, PySem.W.mg_none_of X G y_b_bool, PySem.W.mg_none_of X G y_b_dict, PySem.W.mg_none_of X G y_b_int, PySem.W.mg_none_of X G y_b_isinstance, PySem.W.mg_none_of X G y_b_len, PySem.W.mg_none_of X G y_b_list, PySem.W.mg_none_of X G y_b_range, PySem.W.mg_none_of X G y_b_set, PySem.W.mg_none_of X G y_b_sorted, PySem.W.mg_none_of X G y_b_str, PySem.W.mg_none_of X G y_b_tuple, PySem.W.mg_of X G y_c_MOST_HOLDERS, PySem.W.mg_of X G y_c_MOST_KEEPERS, PySem.W.mg_of X G y_c_MOST_LOCKS, PySem.W.mg_of X G y_c_MOST_NAMES, PySem.W.mg_of X G y_c_MOST_PAUSES, PySem.W.mg_of X G y_c_MOST_SIGNS, PySem.W.mg_of X G y_c_MOST_STORES, PySem.W.mg_of X G y_c_MOST_TIME, PySem.W.mg_of X G y_c_NAME_SIGNS, PySem.W.mg_of X G y_g_Asleep, PySem.W.mg_of X G y_g_Awake, PySem.W.mg_of X G y_g_BadSetup, PySem.W.mg_of X G y_g_Council, PySem.W.mg_of X G y_g_Keeper, PySem.W.mg_of X G y_g_PausesSpent, PySem.W.mg_of X G y_g_Store, PySem.W.mg_of X G y_g_World, y_pg_Council, y_hd_Council, y_po_Council, y_sa_Council, y_n_Council_keepers, y_n_Council_most, y_pg_Keeper, y_hd_Keeper, y_po_Keeper, y_sa_Keeper, y_n_Keeper_up, y_n_Keeper_top, y_n_Keeper_kept, y_pg_Store, y_hd_Store, y_po_Store, y_sa_Store, y_n_Store_top, y_n_Store_kept, y_pg_World, y_hd_World, y_po_World, y_sa_World, y_n_World_now, y_n_World_council, y_n_World_holders, y_n_World_locks, y_n_World_shareable, y_n_World_stores, y_n_World_carries, y_n_World_waiting, y_n_World_asleep_since, y_n_World_pauses, y_n_World_logged, y_n_World_ends, y_x_Asleep, y_x_Awake, y_x_BadSetup, y_x_PausesSpent, y_sb_Asleep_Asleep, y_sb_Asleep_Awake, y_sb_Asleep_PausesSpent, y_sb_Awake_Asleep, y_sb_Awake_Awake, y_sb_Awake_PausesSpent, y_sb_BadSetup_Asleep, y_sb_BadSetup_Awake, y_sb_BadSetup_PausesSpent, y_sb_PausesSpent_Asleep, y_sb_PausesSpent_Awake, y_sb_PausesSpent_PausesSpent⟩
 obtain ⟨_, _, kV, dc, pm, an, cd, ct, _, rfl, _, _⟩ := id F25.ex
 have D11 : MDef K C_World "settle" "World.settle" z3s ["self"] := ⟨_, _, F11, ⟨a11, i11, F11.kp⟩, F11.binds fun _ _ _ _ _ _ us hl => match us, hl with | [_], _ => rfl⟩
 have D14 : MDef K C_World "became" "World.became" z3t ["self", "carry"] := ⟨_, _, F14, ⟨a14, i14, F14.kp⟩, F14.binds fun _ _ _ _ _ _ us hl => match us, hl with | [_, _], _ => rfl⟩
 have D20 : Def K mg "_law_same" z1n ["_law_found", "_law_due"] := ⟨_, _, F20, W.mg_of X G a20, F20.binds fun _ _ _ _ _ _ us hl => match us, hl with | [_, _], _ => rfl⟩
 refine ⟨W.fnOf "law" "law" (z3q z4z) (z1k z4z) (zc z4z) .none kV dc pm an cd ct, fun s v => .of_eq rfl, fun base _ _ => ?_⟩
 have G_good_name := z87 (P := l.prog) (w := w) (base := base) ⟨_, _, F0, W.mg_of X G a0, F0.binds fun _ _ _ _ _ _ us hl => match us, hl with | [_], _ => rfl⟩ T
 have G_good_path := z88 (P := l.prog) (w := w) (base := base) ⟨_, _, F1, W.mg_of X G a1, F1.binds fun _ _ _ _ _ _ us hl => match us, hl with | [_], _ => rfl⟩ T G_good_name
 have G_Keeper___init__ := z4p (P := l.prog) (w := w) (base := base) ⟨_, _, F2, ⟨mk_Keeper, a2, i2, kc_Keeper⟩, F2.binds fun _ _ _ _ _ _ us hl => match us, hl with | [_], _ => rfl⟩ T
 have G_Council___init__ := z4b (P := l.prog) (w := w) (base := base) ⟨_, _, F3, ⟨mk_Council, a3, i3, kc_Council⟩, F3.binds fun _ _ _ _ _ _ us hl => match us, hl with | [_, _], _ => rfl⟩ T G_Keeper___init__
 have G_Store___init__ := z54 (P := l.prog) (w := w) (base := base) ⟨_, _, F4, ⟨mk_Store, a4, i4, kc_Store⟩, F4.binds fun _ _ _ _ _ _ us hl => match us, hl with | [_], _ => rfl⟩ T
 have G_all_differ := z7b (P := l.prog) (w := w) (base := base) ⟨_, _, F5, W.mg_of X G a5, F5.binds fun _ _ _ _ _ _ us hl => match us, hl with | [_, _, _], _ => rfl⟩ T
 have G_good_setup := z7c (P := l.prog) (w := w) (base := base) ⟨_, _, F6, W.mg_of X G a6, F6.binds fun _ _ _ _ _ _ us hl => match us, hl with | [_, _, _, _, _], _ => rfl⟩ T G_good_name G_good_path G_all_differ
 have G_check_time := z7d (P := l.prog) (w := w) (base := base) ⟨_, _, F7, W.mg_of X G a7, F7.binds fun _ _ _ _ _ _ us hl => match us, hl with | [_], _ => rfl⟩ T
 have G_World___init__ := z55 (P := l.prog) (w := w) (base := base) ⟨_, _, F8, ⟨mk_World, a8, i8, kc_World⟩, F8.binds fun _ _ _ _ _ _ us hl => match us, hl with | [_, _, _, _, _, _], _ => rfl⟩ T G_Council___init__ G_Store___init__ G_good_setup
 have G_World_check_holder := z3v (P := l.prog) (w := w) (base := base) ⟨_, _, F9, ⟨a9, i9, F9.kp⟩, F9.binds fun _ _ _ _ _ _ us hl => match us, hl with | [_, _], _ => rfl⟩ T
 have G_World_check_awake := z47 (P := l.prog) (w := w) (base := base) ⟨_, _, F10, ⟨a10, i10, F10.kp⟩, F10.binds fun _ _ _ _ _ _ us hl => match us, hl with | [_, _], _ => rfl⟩ T
 have G_World_settle : MHas l.prog w K mg base CX0 1 C_World "settle" ["self"] (z2d) := z63 D11
 have G_World_pause := z6l (P := l.prog) (w := w) (base := base) ⟨_, _, F12, ⟨a12, i12, F12.kp⟩, F12.binds fun _ _ _ _ _ _ us hl => match us, hl with | [_, _], _ => rfl⟩ T G_World_check_holder G_World_check_awake
 have G_World_became : MHas l.prog w K mg base CX0 1 C_World "became" ["self", "carry"] (z2d) := z63 D14
 have G_World_carried := z5j (P := l.prog) (w := w) (base := base) ⟨_, _, F16, ⟨a16, i16, F16.kp⟩, F16.binds fun _ _ _ _ _ _ us hl => match us, hl with | [_, _], _ => rfl⟩ T G_World_check_holder
 have G_World_wake := z7e (P := l.prog) (w := w) (base := base) ⟨_, _, F13, ⟨a13, i13, F13.kp⟩, F13.binds fun _ _ _ _ _ _ us hl => match us, hl with | [_, _], _ => rfl⟩ T G_World_check_holder G_World_became G_World_carried
 have G_World_tick := z7f (P := l.prog) (w := w) (base := base) ⟨_, _, F15, ⟨a15, i15, F15.kp⟩, F15.binds fun _ _ _ _ _ _ us hl => match us, hl with | [_, _], _ => rfl⟩ T G_check_time G_World_settle
 have G_World_sleepers := z56 (P := l.prog) (w := w) (base := base) ⟨_, _, F17, ⟨a17, i17, F17.kp⟩, F17.binds fun _ _ _ _ _ _ us hl => match us, hl with | [_], _ => rfl⟩ T
 have G_World_log := z8g (P := l.prog) (w := w) (base := base) ⟨_, _, F18, ⟨a18, i18, F18.kp⟩, F18.binds fun _ _ _ _ _ _ us hl => match us, hl with | [_], _ => rfl⟩ T
 have G__law_at := za9 (P := l.prog) (w := w) (base := base) ⟨_, _, F19, W.mg_of X G a19, F19.binds fun _ _ _ _ _ _ us hl => match us, hl with | [_, _], _ => rfl⟩ T
 have G_same0 := zcd (P := l.prog) (w := w) (base := base) D20 T (z6v D20)
 have G_same1 := z8c (P := l.prog) (w := w) (base := base) D20 T G_same0
 have G_same2 := zce (P := l.prog) (w := w) (base := base) D20 T G_same1
 have G_sameN := zcf (P := l.prog) (w := w) (base := base) D20 T (z6v D20)
 have G__law_same : Has l.prog w K mg base 3 "_law_same" ["_law_found", "_law_due"] (z5i) := Has.or G_same2 G_sameN (by decide) (by decide)
 have G__law_name := z8a (P := l.prog) (w := w) (base := base) ⟨_, _, F21, W.mg_of X G a21, F21.binds fun _ _ _ _ _ _ us hl => match us, hl with | [_, _], _ => rfl⟩ T
 have G__law_names := z7a (P := l.prog) (w := w) (base := base) ⟨_, _, F22, W.mg_of X G a22, F22.binds fun _ _ _ _ _ _ us hl => match us, hl with | [_, _], _ => rfl⟩ T G__law_name
 have G__law_deed := z8h (P := l.prog) (w := w) (base := base) ⟨_, _, F23, W.mg_of X G a23, F23.binds fun _ _ _ _ _ _ us hl => match us, hl with | [_, _, _], _ => rfl⟩ T G_World_pause G_World_wake
 have G__law_events := z6m (P := l.prog) (w := w) (base := base) ⟨_, _, F24, W.mg_of X G a24, F24.binds fun _ _ _ _ _ _ us hl => match us, hl with | [_, _], _ => rfl⟩ T G__law_at
 have G_law := zeb (P := l.prog) (w := w) (base := base) ⟨_, _, F25, W.mg_of X G a25, F25.binds fun _ _ _ _ _ _ us hl => match us, hl with | [_], _ => rfl⟩ T G_World___init__ G_World_tick G_World_sleepers G_World_log G__law_at G__law_same G__law_names G__law_deed G__law_events
 exact Has.at G_law (PySem.W.mg_of X G a25) F25
end Fg
open PySem PySem.W PyProof.Rows
set_option maxRecDepth 100000 in
set_option maxHeartbeats 0 in
theorem PySem.Challenge.cw_fencegate_k26_pauses_holds : PySem.Challenge.rw_fencegate_k26_pauses.Holds := by
 w_on; o_law
 refine holds_open (r := PySem.Challenge.rw_fencegate_k26_pauses.row) (q := Fg.vw) (loose := []) (XP := XL Fg.vw []) (YP := (kHook Fg.kk Fg.ka Fg.ka_eq).says) (N := 12 + (1 + (7317 + 200)))
  Fg.left_ok (kHook Fg.kk Fg.ka Fg.ka_eq).of (kHook Fg.kk Fg.ka Fg.ka_eq).keeps (fun s e => xl_of s (Bool.and_eq_true_iff.mp e).1) XL.keeps
  (by rfl) (by rfl) (by rfl) (fun s e => recFacts_of (Bool.and_eq_true_iff.mp e).2) (by rfl) (by assumption) (by decide +kernel)
  ⟨rfl, rfl, rfl, rfl, rfl, by decide +kernel⟩ ?hw ?hc
 (case hw => w_witness2)
 k_fill
 refine L2.walk_ofK (l := PySem.Challenge.rw_fencegate_k26_pauses) (n := 63) (k := 7) (x := "_law_script") (CX := L2.CX0) (sp := fun K => Fg.spLaw K) rfl (by decide) rfl ⟨rfl, by decide, by decide⟩ (fun w h Y => PySem.W.kIn_of Y) ?F (fun K H a ns hl hO hS => ⟨a, ns, rfl, hS, hl, fun _ => rfl⟩) (fun _ _ _ _ z => z)
 case F =>
  intro w mg fa h KX G hmg
  refine' Fg.all_mk KX G hmg ?y_b_all ?y_b_bool ?y_b_dict ?y_b_int ?y_b_isinstance ?y_b_len ?y_b_list ?y_b_range ?y_b_set ?y_b_sorted ?y_b_str ?y_b_tuple ?y_c_MOST_HOLDERS ?y_c_MOST_KEEPERS ?y_c_MOST_LOCKS ?y_c_MOST_NAMES ?y_c_MOST_PAUSES ?y_c_MOST_SIGNS ?y_c_MOST_STORES ?y_c_MOST_TIME ?y_c_NAME_SIGNS ?y_g_Asleep ?y_g_Awake ?y_g_BadSetup ?y_g_Council ?y_g_Keeper ?y_g_PausesSpent ?y_g_Store ?y_g_World ?y_pg_Council ?y_hd_Council ?y_po_Council ?y_sa_Council ?y_n_Council_keepers ?y_n_Council_most ?y_pg_Keeper ?y_hd_Keeper ?y_po_Keeper ?y_sa_Keeper ?y_n_Keeper_up ?y_n_Keeper_top ?y_n_Keeper_kept ?y_pg_Store ?y_hd_Store ?y_po_Store ?y_sa_Store ?y_n_Store_top ?y_n_Store_kept ?y_pg_World ?y_hd_World ?y_po_World ?y_sa_World ?y_n_World_now ?y_n_World_council ?y_n_World_holders ?y_n_World_locks ?y_n_World_shareable ?y_n_World_stores ?y_n_World_carries ?y_n_World_waiting ?y_n_World_asleep_since ?y_n_World_pauses ?y_n_World_logged ?y_n_World_ends ?y_x_Asleep ?y_x_Awake ?y_x_BadSetup ?y_x_PausesSpent ?y_sb_Asleep_Asleep ?y_sb_Asleep_Awake ?y_sb_Asleep_PausesSpent ?y_sb_Awake_Asleep ?y_sb_Awake_Awake ?y_sb_Awake_PausesSpent ?y_sb_BadSetup_Asleep ?y_sb_BadSetup_Awake ?y_sb_BadSetup_PausesSpent ?y_sb_PausesSpent_Asleep ?y_sb_PausesSpent_Awake ?y_sb_PausesSpent_PausesSpent ?a0 ?F0 ?a1 ?F1 ?a2 ?i2 ?F2 ?a3 ?i3 ?F3 ?a4 ?i4 ?F4 ?a5 ?F5 ?a6 ?F6 ?a7 ?F7 ?a8 ?i8 ?F8 ?a9 ?i9 ?F9 ?a10 ?i10 ?F10 ?a11 ?i11 ?F11 ?a12 ?i12 ?F12 ?a13 ?i13 ?F13 ?a14 ?i14 ?F14 ?a15 ?i15 ?F15 ?a16 ?i16 ?F16 ?a17 ?i17 ?F17 ?a18 ?i18 ?F18 ?a19 ?F19 ?a20 ?F20 ?a21 ?F21 ?a22 ?F22 ?a23 ?F23 ?a24 ?F24 ?a25 ?F25 ?mk_Council ?kc_Council ?mk_Keeper ?kc_Keeper ?mk_Store ?kc_Store ?mk_World ?kc_World
  (case y_b_all => k_is)
  (case y_b_bool => k_is)
  (case y_b_dict => k_is)
  (case y_b_int => k_is)
  (case y_b_isinstance => k_is)
  (case y_b_len => k_is)
  (case y_b_list => k_is)
  (case y_b_range => k_is)
  (case y_b_set => k_is)
  (case y_b_sorted => k_is)
  (case y_b_str => k_is)
  (case y_b_tuple => k_is)
  (case y_c_MOST_HOLDERS => k_is)
  (case y_c_MOST_KEEPERS => k_is)
  (case y_c_MOST_LOCKS => k_is)
  (case y_c_MOST_NAMES => k_is)
  (case y_c_MOST_PAUSES => k_is)
  (case y_c_MOST_SIGNS => k_is)
  (case y_c_MOST_STORES => k_is)
  (case y_c_MOST_TIME => k_is)
  (case y_c_NAME_SIGNS => k_is)
  (case y_g_Asleep => k_is)
  (case y_g_Awake => k_is)
  (case y_g_BadSetup => k_is)
  (case y_g_Council => k_is)
  (case y_g_Keeper => k_is)
  (case y_g_PausesSpent => k_is)
  (case y_g_Store => k_is)
  (case y_g_World => k_is)
  (case y_pg_Council => k_is)
  (case y_hd_Council => k_is)
  (case y_po_Council => k_is)
  (case y_sa_Council => k_is)
  (case y_n_Council_keepers => k_is)
  (case y_n_Council_most => k_is)
  (case y_pg_Keeper => k_is)
  (case y_hd_Keeper => k_is)
  (case y_po_Keeper => k_is)
  (case y_sa_Keeper => k_is)
  (case y_n_Keeper_up => k_is)
  (case y_n_Keeper_top => k_is)
  (case y_n_Keeper_kept => k_is)
  (case y_pg_Store => k_is)
  (case y_hd_Store => k_is)
  (case y_po_Store => k_is)
  (case y_sa_Store => k_is)
  (case y_n_Store_top => k_is)
  (case y_n_Store_kept => k_is)
  (case y_pg_World => k_is)
  (case y_hd_World => k_is)
  (case y_po_World => k_is)
  (case y_sa_World => k_is)
  (case y_n_World_now => k_is)
  (case y_n_World_council => k_is)
  (case y_n_World_holders => k_is)
  (case y_n_World_locks => k_is)
  (case y_n_World_shareable => k_is)
  (case y_n_World_stores => k_is)
  (case y_n_World_carries => k_is)
  (case y_n_World_waiting => k_is)
  (case y_n_World_asleep_since => k_is)
  (case y_n_World_pauses => k_is)
  (case y_n_World_logged => k_is)
  (case y_n_World_ends => k_is)
  (case y_x_Asleep => k_exc)
  (case y_x_Awake => k_exc)
  (case y_x_BadSetup => k_exc)
  (case y_x_PausesSpent => k_exc)
  (case y_sb_Asleep_Asleep => k_is)
  (case y_sb_Asleep_Awake => k_is)
  (case y_sb_Asleep_PausesSpent => k_is)
  (case y_sb_Awake_Asleep => k_is)
  (case y_sb_Awake_Awake => k_is)
  (case y_sb_Awake_PausesSpent => k_is)
  (case y_sb_BadSetup_Asleep => k_is)
  (case y_sb_BadSetup_Awake => k_is)
  (case y_sb_BadSetup_PausesSpent => k_is)
  (case y_sb_PausesSpent_Asleep => k_is)
  (case y_sb_PausesSpent_Awake => k_is)
  (case y_sb_PausesSpent_PausesSpent => k_is)
  (case a0 => k_is)
  (case F0 => (apply L2.fun_mk; k_is; k_is; k_is))
  (case a1 => k_is)
  (case F1 => (apply L2.fun_mk; k_is; k_is; k_is))
  (case a2 => k_is)
  (case i2 => k_is)
  (case F2 => (apply L2.fun_mk; k_is; k_is; k_is))
  (case a3 => k_is)
  (case i3 => k_is)
  (case F3 => (apply L2.fun_mk; k_is; k_is; k_is))
  (case a4 => k_is)
  (case i4 => k_is)
  (case F4 => (apply L2.fun_mk; k_is; k_is; k_is))
  (case a5 => k_is)
  (case F5 => (apply L2.fun_mk; k_is; k_is; k_is))
  (case a6 => k_is)
  (case F6 => (apply L2.fun_mk; k_is; k_is; k_is))
  (case a7 => k_is)
  (case F7 => (apply L2.fun_mk; k_is; k_is; k_is))
  (case a8 => k_is)
  (case i8 => k_is)
  (case F8 => (apply L2.fun_mk; k_is; k_is; k_is))
  (case a9 => k_is)
  (case i9 => k_is)
  (case F9 => (apply L2.fun_mk; k_is; k_is; k_is))
  (case a10 => k_is)
  (case i10 => k_is)
  (case F10 => (apply L2.fun_mk; k_is; k_is; k_is))
  (case a11 => k_is)
  (case i11 => k_is)
  (case F11 => (apply L2.fun_mk; k_is; k_is; k_is))
  (case a12 => k_is)
  (case i12 => k_is)
  (case F12 => (apply L2.fun_mk; k_is; k_is; k_is))
  (case a13 => k_is)
  (case i13 => k_is)
  (case F13 => (apply L2.fun_mk; k_is; k_is; k_is))
  (case a14 => k_is)
  (case i14 => k_is)
  (case F14 => (apply L2.fun_mk; k_is; k_is; k_is))
  (case a15 => k_is)
  (case i15 => k_is)
  (case F15 => (apply L2.fun_mk; k_is; k_is; k_is))
  (case a16 => k_is)
  (case i16 => k_is)
  (case F16 => (apply L2.fun_mk; k_is; k_is; k_is))
  (case a17 => k_is)
  (case i17 => k_is)
  (case F17 => (apply L2.fun_mk; k_is; k_is; k_is))
  (case a18 => k_is)
  (case i18 => k_is)
  (case F18 => (apply L2.fun_mk; k_is; k_is; k_is))
  (case a19 => k_is)
  (case F19 => (apply L2.fun_mk; k_is; k_is; k_is))
  (case a20 => k_is)
  (case F20 => (apply L2.fun_mk; k_is; k_is; k_is))
  (case a21 => k_is)
  (case F21 => (apply L2.fun_mk; k_is; k_is; k_is))
  (case a22 => k_is)
  (case F22 => (apply L2.fun_mk; k_is; k_is; k_is))
  (case a23 => k_is)
  (case F23 => (apply L2.fun_mk; k_is; k_is; k_is))
  (case a24 => k_is)
  (case F24 => (apply L2.fun_mk; k_is; k_is; k_is))
  (case a25 => k_is)
  (case F25 => (apply L2.fun_mk; k_is; k_is; k_is))
  (case mk_Council => k_is)
  (case kc_Council => k_is)
  (case mk_Keeper => k_is)
  (case kc_Keeper => k_is)
  (case mk_Store => k_is)
  (case kc_Store => k_is)
  (case mk_World => k_is)
  (case kc_World => k_is)
